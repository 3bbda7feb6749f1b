import PyProof.Rows.All
import Wide.All
import OpenK.AllK
import Wide.FinOn
import Lean
import PyProof.EqAt
import PyProof.EqKinds
import PyProof.TupleCall
import PyProof.NeKinds
import PySem.Challenge.RW_wavyrow_k29_turns_refused
set_option Elab.async false
set_option linter.all false
set_option maxRecDepth 100000
namespace L2
open PySem PySem.Spec PyProof.Rows
noncomputable abbrev Key := Sum Int Str
noncomputable def keyIs : Key -> Value -> Bool
 | .inl k, v => Value.isInt k v
 | .inr x, v => Value.isStrOf x v
noncomputable def keyH (w : World) : Key -> Int
 | .inl k => hashInt k
 | .inr x => hashStr w x
theorem keyIs_shape : ∀ {k : Key} {v : Value}, keyIs k v = true -> (∃ i t, k = Sum.inl i /\ v = Value.int i t) \/ (∃ x t, k = Sum.inr x /\ v = Value.str x t)
 | .inl i, v, h => by
  obtain ⟨t, e⟩ := Value.isInt_shape (k := i) (v := v) h
  exact .inl ⟨i, t, rfl, e⟩
 | .inr x, v, h => by
  obtain ⟨t, e⟩ := Value.isStrOf_shape (x := x) (v := v) h
  exact .inr ⟨x, t, rfl, e⟩
theorem keyIs_str (x : Str) (t : Tok) : keyIs (.inr x) (.str x t) = true := by simp [keyIs, Value.isStrOf]
theorem key_ll (a b : Int) : decide ((Sum.inl a : Key) = Sum.inl b) = (a == b) := by
 by_cases e : a = b
 ·subst e; simp
 ·have h : ¬ (Sum.inl a : Key) = Sum.inl b := fun q => e (Sum.inl.inj q)
  rw [decide_eq_false h]
  exact (beq_eq_false_iff_ne.mpr e).symm
theorem key_rr (a b : Str) : decide ((Sum.inr a : Key) = Sum.inr b) = decide (a = b) := by
 by_cases e : a = b
 ·subst e; simp
 ·have h : ¬ (Sum.inr a : Key) = Sum.inr b := fun q => e (Sum.inr.inj q)
  rw [decide_eq_false h, decide_eq_false e]
theorem key_lr (a : Int) (b : Str) : decide ((Sum.inl a : Key) = Sum.inr b) = false := decide_eq_false (fun q => nomatch q)
theorem key_rl (a : Str) (b : Int) : decide ((Sum.inr a : Key) = Sum.inl b) = false := decide_eq_false (fun q => nomatch q)
noncomputable def mixKind (prog : Program) (w : World) : PySem.KeyKind prog w Key where
 is := keyIs
 hash := keyH w
 inj := fun v a b ha hb => by
  rcases keyIs_shape ha with ⟨i, t, rfl, rfl⟩ | ⟨x, t, rfl, rfl⟩
  ·rcases keyIs_shape hb with ⟨j, u, rfl, e⟩ | ⟨y, u, rfl, e⟩
   ·injection e with e1 _; rw [e1]
   ·exact nomatch e
  ·rcases keyIs_shape hb with ⟨j, u, rfl, e⟩ | ⟨y, u, rfl, e⟩
   ·exact nomatch e
   ·injection e with e1 _; rw [e1]
 byValue := fun k v h => by
  rcases keyIs_shape h with ⟨i, t, rfl, rfl⟩ | ⟨x, t, rfl, rfl⟩ <;> rfl
 pyHash := fun hv h => by
  rcases keyIs_shape hv with ⟨i, t, rfl, rfl⟩ | ⟨x, t, rfl, rfl⟩
  ·exact wpAny_pyHash_int h
  ·exact wpAny_pyHash_str h
 eqBool := fun hu hv h => by
  rcases keyIs_shape hu with ⟨i, t, rfl, rfl⟩ | ⟨x, t, rfl, rfl⟩
  ·rcases keyIs_shape hv with ⟨j, u, rfl, rfl⟩ | ⟨y, u, rfl, rfl⟩
   ·rw [key_ll] at h; exact wpAny_eqBool_int h
   ·rw [key_lr] at h; exact SeqAt.EqAt.int_str i t y u _ _ _ _ h
  ·rcases keyIs_shape hv with ⟨j, u, rfl, rfl⟩ | ⟨y, u, rfl, rfl⟩
   ·rw [key_rl] at h; exact SeqAt.EqAt.str_int x t j u _ _ _ _ h
   ·rw [key_rr] at h; exact wpAny_eqBool_str h
 «strs» := fun k x t v h => by
  rcases keyIs_shape h with ⟨i, u, rfl, e⟩ | ⟨y, u, rfl, e⟩
  ·exact nomatch e
  ·injection e with e1 _
   subst e1
   cases v <;> rfl
end L2
namespace L2
open PySem PySem.Spec PyProof.Rows
inductive V where
 | non | bl (b : Bool) | int (i : Int) | str (x : Str) | byt (b : Array UInt8) | flt (b : UInt64) | ref (a : Addr) | ty (n : String)
 deriving DecidableEq
noncomputable def RelV : V -> Value -> Prop
 | .non, u => u = Value.none
 | .bl b, u => u = Value.bool b
 | .int i, u => ∃ t, u = Value.int i t
 | .str x, u => ∃ t, u = Value.str x t
 | .byt b, u => ∃ t, u = Value.bytes b t
 | .flt b, u => ∃ t, u = Value.float b t
 | .ref a, u => u = Value.ref a
 | .ty n, u => u = Value.type n
noncomputable abbrev Vals : List V -> List Value -> Prop := Paired RelV
theorem Vals.length {xs : List V} {us : List Value} (r : Vals xs us) : xs.length = us.length := Paired.length r
theorem Vals.get : ∀ {xs : List V} {us : List Value} {i : Nat} {x : V}, Vals xs us -> xs[i]? = some x -> ∃ u, us[i]? = some u /\ RelV x u
 | _, _, _, _, .nil, e => by simp at e
 | _, _, 0, _, .cons r _, e => by simp at e; subst e; exact ⟨_, rfl, r⟩
 | _, _, i + 1, x, .cons _ t, e => by
  obtain ⟨u, h1, h2⟩ := Vals.get (i := i) (x := x) t (by simpa using e)
  exact ⟨u, by simpa using h1, h2⟩
theorem Vals.set {x : V} {u : Value} (r : RelV x u) : ∀ {xs : List V} {us : List Value} (i : Nat), Vals xs us -> Vals (xs.set i x) (us.set i u)
 | _, _, _, .nil => .nil
 | _, _, 0, .cons _ t => .cons r t
 | _, _, i + 1, .cons q t => .cons q (Vals.set r i t)
theorem Vals.append : ∀ {xs ys : List V} {us ws : List Value}, Vals xs us -> Vals ys ws -> Vals (xs ++ ys) (us ++ ws)
 | _, _, _, _, .nil, s => s
 | _, _, _, _, .cons r t, s => .cons r (Vals.append t s)
theorem Vals.take : ∀ {xs : List V} {us : List Value} (n : Nat), Vals xs us -> Vals (xs.take n) (us.take n)
 | _, _, 0, _ => .nil
 | _, _, _ + 1, .nil => .nil
 | _, _, n + 1, .cons r t => .cons r (Vals.take n t)
theorem Vals.drop : ∀ {xs : List V} {us : List Value} (n : Nat), Vals xs us -> Vals (xs.drop n) (us.drop n)
 | _, _, 0, r => r
 | _, _, _ + 1, .nil => .nil
 | _, _, n + 1, .cons _ t => Vals.drop n t
noncomputable def RelO : Option V -> Option Value -> Prop
 | some v, some u => RelV v u
 | none, none => True
 | _, _ => False
noncomputable def KV {κ : Type} : List (κ × V) -> List (κ × Value) -> Prop := Paired fun (p : κ × V) (q : κ × Value) => p.1 = q.1 /\ RelV p.2 q.2
noncomputable def kV : Key -> V
 | .inl i => .int i
 | .inr x => .str x
inductive HO where
 | lst (xs : List V)
 | tup (xs : List V)
 | dK (kvs : List (Key × V)) | dT (kvs : List (List Key × V))
 | set (S : Int -> Bool) (n : Nat)
 | ins (C dx : Addr) (fs : List (Str × V))
 | own (x : Addr)
 | xd (fs : List (Str × V))
 | met (f x : Addr)
 | rng (lo hi : Int)
 | frz (o : Obj) (u : HO)
 | tbl (ps : Array Value)
 | ext (φ : Heap -> Prop)
noncomputable abbrev Hp := Addr -> Option HO
noncomputable def upd (H : Hp) (a : Addr) (o : HO) : Hp := fun b => if b = a then some o else H b
theorem upd_same {H : Hp} {a : Addr} {o : HO} : upd H a o a = some o := by unfold upd; rw [if_pos rfl]
theorem upd_ne {H : Hp} {a b : Addr} {o : HO} (h : b ≠ a) : upd H a o b = H b := by unfold upd; rw [if_neg h]
theorem ne_of_none {H : Hp} {a b : Addr} {o : HO} (h : H a = some o) (h' : H b = none) : a ≠ b := by
 intro e; subst e; rw [h] at h'; cases h'
section
variable (P : Program) (w : World)
noncomputable def ObjOk (H : Hp) (h : Heap) (a : Addr) : HO -> Prop
 | .lst xs => xs.length <= sizeLine /\ ∃ (its : List Value) (n : Nat), Vals xs its /\ h.get? a = some { cls := .type "list", data := .seq its.toArray n }
 | .tup xs => xs.length <= sizeLine /\ ∃ its : List Value, Vals xs its /\ IsTup h a its.toArray
 | .dK kvs => kvs.length <= sizeLine /\ (a == sysModules) = false /\ ∃ vs, KV kvs vs /\ h.DictOf (mixKind P w) a vs
 | .dT kvs => kvs.length <= sizeLine /\ (a == sysModules) = false /\ ∃ xs : List (List Key × Addr × Value),
   Paired (fun (p : List Key × V) (q : List Key × Addr × Value) => p.1 = q.1 /\ H q.2.1 = some (.tup (p.1.map kV)) /\ RelV p.2 q.2.2) kvs xs /\
   ∃ o es ep, h.get? a = some o /\ o.ExactDict /\ o.data = .dict es ep /\ es.toList = xs.map (entryOfKey (tupleKind (mixKind P w))) /\ (xs.map (·.1)).Nodup
 | .set S n => h.SetOf (intKind P w) a S n
 | .ins C dx fs => H dx = some (.own a) /\ fs.length <= 1000 /\ dx ≠ a /\ h.get? a = some (PySem.W.instObj C dx) /\
   ∃ mA, h.Ns1 dx mA /\ (∀ f, RelO (fs.lookup f) (mA f)) /\ PySem.Within mA (fs.map (·.1))
 | .own _ => ∃ o, h.get? a = some o
 | .xd fs => ∃ mA, h.Ns1 a mA /\ ∀ f, RelO (fs.lookup f) (mA f)
 | .rng lo hi => ∃ t u v, h.get? a = some { cls := .type "range", data := .fields #[.int lo t, .int hi u, .int 1 v] }
 | .frz o u => h.get? a = some o /\ ObjOk H h a u
 | .tbl ps => h.get? a = some { cls := .none, data := .fields ps }
 | .met f x => h.get? a = some (PySem.W.methodObj (.ref f) (.ref x))
 | .ext φ => φ h /\ (∃ o, h.get? a = some o) /\ ∀ h1 h2 : Heap, φ h1 -> (∀ o, h1.get? a = some o -> h2.get? a = some o) -> φ h2
noncomputable def HOk (H : Hp) (h : Heap) : Prop := ∀ a o, H a = some o -> ObjOk P w H h a o
end
section
variable {P : Program} {w : World} {H H' : Hp} {h h' : Heap} {a : Addr} {o : HO}
theorem ObjOk.lt (x : ObjOk P w H h a o) : a < h.objs.size := by
 cases o with
 | lst xs => obtain ⟨_, _, _, _, e⟩ := x; exact Heap.lt_size e
 | tup xs => obtain ⟨_, _, _, p⟩ := x; exact p.lt
 | dK kvs => obtain ⟨_, _, _, _, o, _, _, e, _⟩ := x; exact Heap.lt_size e
 | dT kvs => obtain ⟨_, _, _, _, o, _, _, e, _⟩ := x; exact Heap.lt_size e
 | set S n => obtain ⟨o, _, _, _, e, _⟩ := x; exact Heap.lt_size e
 | ins C dx fs => obtain ⟨_, _, _, e, _⟩ := x; exact Heap.lt_size e
 | own y => obtain ⟨_, e⟩ := x; exact Heap.lt_size e
 | xd fs => obtain ⟨_, ⟨_, _, _, e, _⟩, _⟩ := x; exact Heap.lt_size e
 | rng lo hi => obtain ⟨_, _, _, e⟩ := x; exact Heap.lt_size e
 | frz ob u => obtain ⟨e, _⟩ := x; exact Heap.lt_size e
 | tbl ps => exact Heap.lt_size (show h.get? a = some _ from x)
 | met f y => exact Heap.lt_size (show h.get? a = some _ from x)
 | ext φ => obtain ⟨_, ⟨_, e⟩, _⟩ := x; exact Heap.lt_size e
theorem Paired.mapP {α β : Type} {F G : α -> β -> Prop} : ∀ {l₁ : List α} {l₂ : List β}, Paired F l₁ l₂ -> (∀ a b, F a b -> G a b) -> Paired G l₁ l₂
 | _, _, .nil, _ => .nil
 | _, _, .cons r t, f => .cons (f _ _ r) (Paired.mapP t f)
theorem ObjOk.stay (x : ObjOk P w H h a o) (k : ∀ b u, (b = a \/ H b = some (.own a)) -> h.get? b = some u -> h'.get? b = some u)
  (ho : ∀ b, H b = some (.own a) -> H' b = some (.own a)) (ht : ∀ b xs, H b = some (.tup xs) -> H' b = some (.tup xs)) : ObjOk P w H' h' a o := by
 induction o with
 | lst xs => obtain ⟨z, its, n, r, e⟩ := x; exact ⟨z, its, n, r, k _ _ (.inl rfl) e⟩
 | tup xs => obtain ⟨z, its, r, ob, e, c⟩ := x; exact ⟨z, its, r, ob, k _ _ (.inl rfl) e, c⟩
 | dK kvs => obtain ⟨z, y, vs, r, ob, es, ep, e, c⟩ := x; exact ⟨z, y, vs, r, ob, es, ep, k _ _ (.inl rfl) e, c⟩
 | dT kvs =>
  obtain ⟨z, y, xs, r, ob, es, ep, e, c⟩ := x
  exact ⟨z, y, xs, Paired.mapP r fun p q z => ⟨z.1, ht _ _ z.2.1, z.2.2⟩, ob, es, ep, k _ _ (.inl rfl) e, c⟩
 | set S n => obtain ⟨ob, es, ep, t, e, c⟩ := x; exact ⟨ob, es, ep, t, k _ _ (.inl rfl) e, c⟩
 | ins C dx fs =>
  obtain ⟨d, z, ne, e, mA, ⟨od, es, ep, e2, c⟩, r⟩ := x
  exact ⟨ho _ d, z, ne, k _ _ (.inl rfl) e, mA, ⟨od, es, ep, k _ _ (.inr d) e2, c⟩, r⟩
 | own y => obtain ⟨ob, e⟩ := x; exact ⟨ob, k _ _ (.inl rfl) e⟩
 | xd fs => obtain ⟨mA, ⟨od, es, ep, e, c⟩, r⟩ := x; exact ⟨mA, ⟨od, es, ep, k _ _ (.inl rfl) e, c⟩, r⟩
 | rng lo hi => obtain ⟨t, u, v, e⟩ := x; exact ⟨t, u, v, k _ _ (.inl rfl) e⟩
 | frz ob u ih => obtain ⟨e, q⟩ := x; exact ⟨k _ _ (.inl rfl) e, ih q⟩
 | tbl ps =>
  have e : h.get? a = some { cls := .none, data := .fields ps } := x
  show h'.get? a = some { cls := .none, data := .fields ps }
  exact k a _ (.inl rfl) e
 | met f y =>
  have e : h.get? a = some (PySem.W.methodObj (.ref f) (.ref y)) := x
  show h'.get? a = some (PySem.W.methodObj (.ref f) (.ref y))
  exact k a _ (.inl rfl) e
 | ext φ => obtain ⟨p, ⟨o, e⟩, st⟩ := x; exact ⟨st _ _ p fun o q => k _ _ (.inl rfl) q, ⟨o, k _ _ (.inl rfl) e⟩, st⟩
theorem HOk.lt (x : HOk P w H h) (e : H a = some o) : a < h.objs.size := (x a o e).lt
theorem HOk.fresh (x : HOk P w H h) (e : h.objs.size <= a) : H a = none := by
 cases q : H a with
 | none => rfl
 | some u => exact absurd (Nat.lt_of_lt_of_le (x.lt q) e) (Nat.lt_irrefl _)
theorem HOk.kept (x : HOk P w H h) (k : ∀ b u, h.get? b = some u -> h'.get? b = some u) : HOk P w H h' := fun a o e =>
 (x a o e).stay (fun b u _ q => k b u q) (fun _ q => q) fun _ _ q => q
theorem HOk.laid (x : HOk P w H h) (k : ∀ b u, h.get? b = some u -> h'.get? b = some u) (hp : h.objs.size <= a) (new : ObjOk P w (upd H a o) h' a o) : HOk P w (upd H a o) h' := fun b u e => by
 have hn := x.fresh hp
 by_cases hb : b = a
 ·subst hb; rw [upd_same] at e; cases e; exact new
 ·rw [upd_ne hb] at e
  exact (x b u e).stay (fun c v _ q => k c v q) (fun c q => by rw [upd_ne (ne_of_none q hn)]; exact q) fun c xs q => by rw [upd_ne (ne_of_none q hn)]; exact q
end
noncomputable def Rd (H : Hp) (a : Addr) (u : HO) : Prop := H a = some u \/ ∃ o, H a = some (.frz o u)
theorem Rd.of {H : Hp} {a : Addr} {u : HO} (h : H a = some u) : Rd H a u := .inl h
theorem Rd.ok {P : Program} {w : World} {H : Hp} {h : Heap} {a : Addr} {u : HO} (r : Rd H a u) (x : HOk P w H h) : ObjOk P w H h a u := by
 rcases r with r | ⟨o, r⟩
 ·exact x a u r
 ·obtain ⟨_, q⟩ := x a _ r
  exact q
noncomputable def Mut : Option HO -> Prop
 | some (.lst _) => True
 | some (.dK _) => True
 | some (.dT _) => True
 | some (.set _ _) => True
 | some (.ins _ _ _) => True
 | some (.ext _) => True
 | _ => False
section
variable {P : Program} {w : World} {H : Hp} {h h' : Heap} {x e : Addr} {o' : HO}
theorem HOk.write (ok : HOk P w H h) (mu : Mut (H x)) (he : e = x \/ H e = some (.own x)) (k : ∀ b u, b ≠ e -> h.get? b = some u -> h'.get? b = some u) (heo : ∃ u, h'.get? e = some u)
  (new : ObjOk P w (upd H x o') h' x o') : HOk P w (upd H x o') h' := fun b u q => by
 have nown : ∀ c y, H c = some (.own y) -> c ≠ x := fun c y r z => by subst z; rw [r] at mu; exact mu
 have ntup : ∀ c xs, H c = some (.tup xs) -> c ≠ x := fun c xs r z => by subst z; rw [r] at mu; exact mu
 by_cases hb : b = x
 ·subst hb; rw [upd_same] at q; cases q; exact new
 ·rw [upd_ne hb] at q
  by_cases hbe : b = e
  ·have q' : H b = some (.own x) := by
    rcases he with z | z
    ·exact absurd (hbe.trans z) hb
    ·rw [hbe]; exact z
   rw [q] at q'; cases q'
   obtain ⟨v, hv⟩ := heo
   exact ⟨v, by rw [hbe]; exact hv⟩
  ·refine (ok b u q).stay (fun c v hc r => k c v ?_ r) (fun c r => by rw [upd_ne (nown c b r)]; exact r) fun c xs r => by rw [upd_ne (ntup c xs r)]; exact r
   rcases hc with rfl | hc
   ·exact hbe
   ·rintro rfl
    rcases he with z | z
    ·exact nown c b hc z
    ·rw [hc] at z; cases z; exact hb rfl
end
structure Un (fs ex : List Addr) (H H' : Hp) (h h' : Heap) : Prop where
 keep : ∀ b o, h.get? b = some o -> H b = none -> b ∉ fs -> b ∉ ex -> h'.get? b = some o
 slot : ∀ b o, h.get? b = some o -> H b = none -> b ∈ fs -> b ∉ ex -> ∃ sl, h'.get? b = some { o with slots := sl }
 free : ∀ b o, h.get? b = some o -> H b = none -> b ∉ ex -> H' b = none
 there : ∀ b o, h.get? b = some o -> b ∉ ex -> ∃ o', h'.get? b = some o'
 tups : ∀ b xs, H b = some (.tup xs) -> H' b = some (.tup xs)
 frzs : ∀ b o u, H b = some (.frz o u) -> H' b = some (.frz o u)
 tbls : ∀ b ps, H b = some (.tbl ps) -> ∃ more, H' b = some (.tbl (ps ++ more))
section
variable {fs fs' ex ex' : List Addr} {H H1 H2 : Hp} {h h1 h2 h' : Heap} {a x e : Addr} {o : HO}
theorem Un.any (u : Un fs ex H H1 h h1) {b : Addr} {ob : Obj} (q : h.get? b = some ob) (n : H b = none) (hx : b ∉ ex) : ∃ sl, h1.get? b = some { ob with slots := sl } := by
 by_cases hb : b ∈ fs
 ·exact u.slot b ob q n hb hx
 ·exact ⟨ob.slots, u.keep b ob q n hb hx⟩
theorem Un.trans (a : Un fs ex H H1 h h1) (b : Un fs ex H1 H2 h1 h2) : Un fs ex H H2 h h2 where
 keep := fun c ob q n hc hx => b.keep c ob (a.keep c ob q n hc hx) (a.free c ob q n hx) hc hx
 slot := fun c ob q n hc hx => by
  obtain ⟨sl, e1⟩ := a.slot c ob q n hc hx
  obtain ⟨sl', e2⟩ := b.slot c _ e1 (a.free c ob q n hx) hc hx
  exact ⟨sl', e2⟩
 free := fun c ob q n hx => by
  obtain ⟨o', e1⟩ := a.there c ob q hx
  exact b.free c o' e1 (a.free c ob q n hx) hx
 there := fun c ob q hx => by
  obtain ⟨o', e1⟩ := a.there c ob q hx
  exact b.there c o' e1 hx
 tups := fun c xs q => b.tups c xs (a.tups c xs q)
 frzs := fun c ob xs q => b.frzs c ob xs (a.frzs c ob xs q)
 tbls := fun c ps q => by
  obtain ⟨m1, e1⟩ := a.tbls c ps q
  obtain ⟨m2, e2⟩ := b.tbls c _ e1
  exact ⟨m1 ++ m2, by rw [e2, Array.append_assoc]⟩
theorem Un.kept (k : ∀ b u, h.get? b = some u -> h'.get? b = some u) : Un fs ex H H h h' :=
 ⟨fun b ob q _ _ _ => k b ob q, fun b ob q _ _ _ => ⟨ob.slots, k b ob q⟩, fun _ _ _ n _ => n, fun b ob q _ => ⟨ob, k b ob q⟩, fun _ _ q => q, fun _ _ _ q => q, fun _ ps q => ⟨#[], by rw [q]; simp⟩⟩
theorem Un.refl : Un fs ex H H h h := Un.kept fun _ _ q => q
theorem Un.laid (k : ∀ b u, h.get? b = some u -> h'.get? b = some u) (hp : h.objs.size <= a) (hn : H a = none) : Un fs ex H (upd H a o) h h' where
 keep := fun b u q _ _ _ => k b u q
 slot := fun b u q _ _ _ => ⟨u.slots, k b u q⟩
 free := fun b u q n _ => by rw [upd_ne (Nat.ne_of_lt (Nat.lt_of_lt_of_le (Heap.lt_size q) hp))]; exact n
 there := fun b u q _ => ⟨u, k b u q⟩
 tups := fun b xs q => by rw [upd_ne (ne_of_none q hn)]; exact q
 frzs := fun b u xs q => by rw [upd_ne (ne_of_none q hn)]; exact q
 tbls := fun b ps q => ⟨#[], by rw [upd_ne (ne_of_none q hn), q]; simp⟩
theorem Un.write (mu : Mut (H x)) (he : e = x \/ H e = some (.own x)) (k : ∀ b u, b ≠ e -> h.get? b = some u -> h'.get? b = some u) (heo : ∃ u, h'.get? e = some u) : Un fs ex H (upd H x o) h h' := by
 have hx : ∀ b, H b = none -> b ≠ x := fun b n z => by subst z; rw [n] at mu; exact mu
 have hb : ∀ b, H b = none -> b ≠ e := fun b n z => by
  subst z
  rcases he with r | r
  ·exact hx b n r
  ·rw [n] at r; cases r
 have hm : ∀ b u, H b = some u -> ¬ Mut (some u) -> b ≠ x := fun b u q nm z => by subst z; rw [q] at mu; exact nm mu
 refine ⟨fun b u q n _ _ => k b u (hb b n) q, fun b u q n _ _ => ⟨u.slots, k b u (hb b n) q⟩, fun b u q n _ => by rw [upd_ne (hx b n)]; exact n, fun b u q _ => ?_,
  fun b xs q => by rw [upd_ne (hm b _ q fun z => z)]; exact q, fun b u xs q => by rw [upd_ne (hm b _ q fun z => z)]; exact q, fun b ps q => ⟨#[], by rw [upd_ne (hm b _ q fun z => z), q]; simp⟩⟩
 by_cases hbe : b = e
 ·subst hbe; exact heo
 ·exact ⟨u, k b u hbe q⟩
theorem Un.mono (u : Un fs ex H H1 h h1) (hs : ∀ b ∈ fs, b ∈ fs') (hx : ∀ b ∈ ex, b ∈ ex') : Un fs' ex' H H1 h h1 :=
 ⟨fun b ob q n hb he => u.keep b ob q n (fun z => hb (hs b z)) fun z => he (hx b z), fun _ _ q n _ he => u.any q n fun z => he (hx _ z), fun b ob q n he => u.free b ob q n fun z => he (hx b z), fun b ob q he => u.there b ob q fun z => he (hx b z), u.tups, u.frzs, u.tbls⟩
end
noncomputable def trk (h : Heap) (H : Hp) : List Addr := (List.range h.objs.size).filter fun a => (H a).isSome
noncomputable def hidT (h : Heap) (H : Hp) : Heap := PySem.W.hideAll h (trk h H)
theorem hidT_size (h : Heap) (H : Hp) : (hidT h H).objs.size = h.objs.size := PySem.W.hideAll_size _ _
theorem hidT_get {h : Heap} {H : Hp} {b : Addr} {o : Obj} (e : h.get? b = some o) (n : H b = none) : (hidT h H).get? b = some o :=
 PySem.W.hideAll_get _ e fun hm => by
  have q : (H b).isSome = true := (List.mem_filter.mp hm).2
  rw [n] at q; simp at q
theorem of_hidT {h : Heap} {H : Hp} {b : Addr} {o : Obj} (e : (hidT h H).get? b = some o) : h.get? b = some o /\ H b = none := by
 have e' : h.get? b = some o := PySem.W.of_hideAll (trk h H) e
 refine ⟨e', ?_⟩
 cases q : H b with
 | none => rfl
 | some x =>
  have hm : b ∈ trk h H := List.mem_filter.mpr ⟨List.mem_range.mpr (Heap.lt_size e'), by simp [q]⟩
  have z : (hidT h H).get? b = none := PySem.W.hideAll_none (trk h H) hm
  rw [z] at e; cases e
noncomputable def allNews (g h : Heap) (L : Addr) : List (Addr × Obj) := (List.range h.objs.size).filterMap fun a => if a = L \/ (g.get? a).isSome = true then none else (h.get? a).map fun o => (a, o)
noncomputable def rest (g h : Heap) (L d : Addr) : List (Addr × Obj) := (allNews g h L).filter fun p => decide (p.1 ≠ d)
end L2
namespace L2
open PySem PySem.Spec PyProof.Rows
structure Mod (K : PySem.W.Frag) (mg : Str -> Option Value) (base : Heap) : Prop where
 kin : K.In base
 glob : base.Ns mainGlobals mg
 blt : ∃ mb, base.Ns builtinsNs mb /\ ∀ x : Str, x ≠ "__name__" -> mb x = bootBuiltins x
 nolimit : base.NoLimit
structure Cx where
 prog : Program
 w : World
 K : PySem.W.Frag
 mg : Str -> Option Value
 base : Heap
 A : Around
 N : List Str
 s₀ : Shared
 H₀ : Hp
 env : Env
 outer : List Env
 stack : List Env
 ex : List Addr
 fn : Str -> Bool
 calm : Bool
 pn : List (Addr × Obj)
 xe : Value -> Shared -> Prop
noncomputable def frs (l : List Env) : List Addr := l.filterMap (·.frame)
noncomputable abbrev Cx.fs (X : Cx) : List Addr := frs X.outer
noncomputable def Vis (sc : Scope) (x : Str) : Prop := sc.names.lookup x = some .local \/ sc.names.lookup x = some .cell \/ sc.names.lookup x = some .free
noncomputable def Loc (sc : Scope) (x : Str) : Prop := sc.names.lookup x = some .local \/ sc.names.lookup x = some .cell
noncomputable def Look (env : Env) (h : Heap) (m : Str -> Option Value) (x : Str) (u : Value) : Prop :=
 (env.kindOf x = some .local /\ m x = some u) \/ ((env.kindOf x = some .cell \/ env.kindOf x = some .free) /\ ∃ c, env.cells.lookup x = some c /\ h.IsCell c (some u))
structure Cx.Ok (X : Cx) : Prop where
 mod : Mod X.K X.mg X.base
 kind : X.env.scope.kind = .function
 glob : X.env.globals = mainGlobals
 blt : X.env.builtins = builtinsNs
 above : X.s₀.heap.objs.size <= X.env.locals
 inj : ∀ x y c, X.env.cells.lookup x = some c -> X.env.cells.lookup y = some c -> x = y
 has : ∀ x, (X.env.kindOf x = some .cell \/ X.env.kindOf x = some .free) -> ∃ c, X.env.cells.lookup x = some c
 cab : ∀ x c, X.fn x = true -> X.env.cells.lookup x = some c -> X.s₀.heap.objs.size <= c
 hd : X.calm = true -> X.A.handled = none
 frames : X.A.frames = some X.stack
 stk : X.stack = X.outer \/ (X.stack = X.env :: X.outer /\ X.env.frame = some X.env.locals)
 exf : ∀ b ∈ X.ex, b ≠ X.env.locals /\ ∀ x c, X.env.cells.lookup x = some c -> c ≠ b
 bs : ∀ b o, X.base.get? b = some o -> X.s₀.heap.get? b = some o /\ X.H₀ b = none
 bsz : X.base.objs.size <= X.s₀.heap.objs.size
 noex : ∀ b o, X.base.get? b = some o -> b ∉ X.ex
 exfs : ∀ b ∈ X.ex, b ∉ X.fs
 funs : X.s₀.heap.FunFrames X.base X.outer
 frf : ∀ b ∈ X.fs, X.H₀ b = none
structure Inv (X : Cx) (pins : List (Addr × Obj)) (σ : List (Option V)) (H : Hp) (s : Shared) : Prop where
 ok : X.Ok
 os : s.os = X.s₀.os
 bare : AllBare s.gens
 base : Un X.fs X.ex X.H₀ H X.s₀.heap s.heap
 loc : ∃ m, s.heap.Ns X.env.locals m /\ ∀ (i : Nat) (x : Str) (v : V), X.N[i]? = some x -> σ[i]? = some (some v) -> Vis X.env.scope x -> ∃ u, RelV v u /\ Look X.env s.heap m x u
 cell : ∀ x c, X.env.cells.lookup x = some c -> ∃ v, s.heap.IsCell c v
 free : H X.env.locals = none
 freeC : ∀ x c, X.env.cells.lookup x = some c -> H c = none
 pin : ∀ p ∈ X.pn ++ pins, s.heap.get? p.1 = some p.2 /\ H p.1 = none /\ p.1 ≠ X.env.locals /\ p.1 ∉ X.fs /\ ∀ v, p.2.data ≠ .cell v
 hok : HOk X.prog X.w H s.heap
 len : σ.length = X.N.length
section
variable {X : Cx} {pins : List (Addr × Obj)} {σ : List (Option V)} {H H' : Hp} {s : Shared} {h' : Heap}
theorem Cx.Ok.nofr (ok : X.Ok) {b : Addr} {o : Obj} (e : X.base.get? b = some o) : b ∉ X.fs := fun hb => by
 have := (ok.funs.mem hb).1
 rw [e] at this; cases this
theorem Inv.bs (I : Inv X pins σ H s) : ∀ b o, X.base.get? b = some o -> s.heap.get? b = some o /\ H b = none := fun b o e =>
 ⟨I.base.keep b o (I.ok.bs b o e).1 (I.ok.bs b o e).2 (I.ok.nofr e) (I.ok.noex b o e), I.base.free b o (I.ok.bs b o e).1 (I.ok.bs b o e).2 (I.ok.noex b o e)⟩
theorem Inv.bk (I : Inv X pins σ H s) : ∀ b o, X.base.get? b = some o -> s.heap.get? b = some o := fun b o e => (I.bs b o e).1
theorem Inv.mod (I : Inv X pins σ H s) : Mod X.K X.mg X.base := I.ok.mod
theorem Inv.kIn (I : Inv X pins σ H s) : X.K.In s.heap := I.ok.mod.kin.keeps I.bk
theorem Inv.nolimit (I : Inv X pins σ H s) : s.heap.NoLimit := I.ok.mod.nolimit.keeps I.bk
theorem Inv.fr (I : Inv X pins σ H s) : ∃ m, Fr X.base X.env.locals s.heap m :=
 let ⟨m, hn, _⟩ := I.loc
 ⟨m, hn, I.bk, Nat.le_trans I.ok.bsz I.ok.above⟩
theorem Inv.lt (I : Inv X pins σ H s) : X.env.locals < s.heap.objs.size := let ⟨_, hn, _⟩ := I.loc; hn.lt
theorem Inv.sz (I : Inv X pins σ H s) : X.s₀.heap.objs.size <= s.heap.objs.size := Nat.le_trans I.ok.above (Nat.le_of_lt I.lt)
theorem Inv.nofs (I : Inv X pins σ H s) {a : Addr} (h : s.heap.objs.size <= a) : a ∉ X.fs := fun hb => by
 obtain ⟨_, o, ho, _⟩ := I.ok.funs.mem hb
 exact absurd (Nat.lt_of_lt_of_le (Heap.lt_size ho) (Nat.le_trans I.sz h)) (Nat.lt_irrefl _)
theorem Inv.cne (I : Inv X pins σ H s) : ∀ x c, X.env.cells.lookup x = some c -> c ≠ X.env.locals := fun x c e z => by
 obtain ⟨v, o, ho, hd⟩ := I.cell x c e
 obtain ⟨m, ⟨o', es, ep, ho', hd', _⟩, _⟩ := I.loc
 rw [z, ho'] at ho; cases ho; rw [hd'] at hd; cases hd
theorem Inv.funs (I : Inv X pins σ H s) : s.heap.FunFrames X.base X.outer := by
 have all : ∀ (l : List Env), (∀ b ∈ frs l, b ∈ X.fs) -> X.s₀.heap.FunFrames X.base l -> s.heap.FunFrames X.base l := by
  intro l
  induction l with
  | nil => intro _ _; trivial
  | cons env r ih =>
   intro hs hl
   obtain ⟨hk, ⟨L, o, hf, hn, ho, hd⟩, hr⟩ := hl
   have hL : L ∈ X.fs := hs L (by unfold frs; rw [List.filterMap_cons, hf]; exact List.mem_cons_self)
   obtain ⟨sl, e⟩ := I.base.slot L o ho (I.ok.frf L hL) hL fun z => I.ok.exfs L z hL
   exact ⟨hk, ⟨L, _, hf, hn, e, hd⟩, ih (fun b hb => hs b (by unfold frs; rw [List.filterMap_cons, hf]; exact List.mem_cons_of_mem _ hb)) hr⟩
 exact all X.outer (fun _ hb => hb) I.ok.funs
theorem Inv.stack (I : Inv X pins σ H s) : s.heap.FunFrames X.base X.stack := by
 rcases I.ok.stk with e | ⟨e, hf⟩
 ·rw [e]; exact I.funs
 ·rw [e]
  obtain ⟨m, hn, _⟩ := I.loc
  refine .cons (by rw [I.ok.kind]; decide) hf hn ?_ I.funs
  exact Heap.get?_none_of_le (Nat.le_trans I.ok.bsz I.ok.above)
theorem Inv.stkSub (I : Inv X pins σ H s) : ∀ b ∈ frs X.stack, b ∈ X.env.locals :: X.fs := fun b hb => by
 rcases I.ok.stk with e | ⟨e, hf⟩
 ·rw [e] at hb; exact List.mem_cons_of_mem _ hb
 ·rw [e] at hb
  unfold frs at hb
  rw [List.filterMap_cons, hf] at hb
  exact hb
theorem Inv.stkFree (I : Inv X pins σ H s) : ∀ b ∈ frs X.stack, H b = none := fun b hb => by
 rcases List.mem_cons.mp (I.stkSub b hb) with e | hb
 ·rw [e]; exact I.free
 ·obtain ⟨_, o, ho, _⟩ := I.ok.funs.mem hb
  exact I.base.free b o ho (I.ok.frf b hb) fun z => I.ok.exfs b z hb
theorem Inv.step {g' : Array GenState} {t' : Nat} {d' : Drawn} {ch : List Addr} (I : Inv X pins σ H s)
  (hch : ∀ b ∈ ch, (b ∈ X.ex \/ X.s₀.heap.objs.size <= b) /\ b ≠ X.env.locals /\ (∀ x c, X.env.cells.lookup x = some c -> c ≠ b) /\ ∀ p ∈ X.pn ++ pins, p.1 ≠ b)
  (keep : ∀ b o, b ≠ X.env.locals -> b ∉ X.fs -> b ∉ ch -> s.heap.get? b = some o -> H b = none -> h'.get? b = some o)
  (slot : ∀ b o, b ≠ X.env.locals -> b ∈ X.fs -> b ∉ ch -> s.heap.get? b = some o -> H b = none -> ∃ sl, h'.get? b = some { o with slots := sl }) (free : ∀ b o, b ∉ ch -> s.heap.get? b = some o -> H b = none -> H' b = none)
  (there : ∀ b o, b ∉ ch -> s.heap.get? b = some o -> ∃ o', h'.get? b = some o')
  (tups : ∀ b xs, H b = some (.tup xs) -> H' b = some (.tup xs)) (frzs : ∀ b o u, H b = some (.frz o u) -> H' b = some (.frz o u)) (tbls : ∀ b ps, H b = some (.tbl ps) -> ∃ more, H' b = some (.tbl (ps ++ more)))
  (ns : ∀ m, s.heap.Ns X.env.locals m -> h'.Ns X.env.locals m) (hok : HOk X.prog X.w H' h') (hg : AllBare g') :
  Inv X pins σ H' { s with heap := h', gens := g', drawn := d', toks := t' } := by
 have neL : ∀ b o, X.s₀.heap.get? b = some o -> b ≠ X.env.locals := fun b o e => Nat.ne_of_lt (Nat.lt_of_lt_of_le (Heap.lt_size e) I.ok.above)
 have neC : ∀ b o, X.s₀.heap.get? b = some o -> b ∉ X.ex -> b ∉ ch := fun b o e hx hb => by
  rcases (hch b hb).1 with z | z
  ·exact hx z
  ·exact absurd (Nat.lt_of_lt_of_le (Heap.lt_size e) z) (Nat.lt_irrefl _)
 have cellK : ∀ x c, X.env.cells.lookup x = some c -> ∀ v, s.heap.IsCell c v -> h'.IsCell c v := fun x c e v hpat => by
  obtain ⟨o, ho, hd⟩ := hpat
  have nch : c ∉ ch := fun z => (hch c z).2.2.1 x c e rfl
  by_cases hc : c ∈ X.fs
  ·obtain ⟨sl, q⟩ := slot c o (I.cne x c e) hc nch ho (I.freeC x c e)
   exact ⟨_, q, hd⟩
  ·exact ⟨o, keep c o (I.cne x c e) hc nch ho (I.freeC x c e), hd⟩
 refine ⟨I.ok, I.os, hg, ⟨fun b o e n hb hx => ?_, fun b o e n hb hx => ?_, fun b o e n hx => ?_, fun b o e hx => ?_, fun b xs e => tups b xs (I.base.tups b xs e), fun b o xs e => frzs b o xs (I.base.frzs b o xs e), fun b ps e => ?_⟩, ?_, fun x c e => ?_, ?_, fun x c e => ?_, fun p hp => ?_, hok, I.len⟩
 ·exact keep b o (neL b o e) hb (neC b o e hx) (I.base.keep b o e n hb hx) (I.base.free b o e n hx)
 ·obtain ⟨sl, e1⟩ := I.base.slot b o e n hb hx
  obtain ⟨sl', e2⟩ := slot b _ (neL b o e) hb (neC b o e hx) e1 (I.base.free b o e n hx)
  exact ⟨sl', e2⟩
 ·obtain ⟨o', e1⟩ := I.base.there b o e hx
  exact free b o' (neC b o e hx) e1 (I.base.free b o e n hx)
 ·obtain ⟨o', e1⟩ := I.base.there b o e hx
  exact there b o' (neC b o e hx) e1
 ·obtain ⟨m1, e1⟩ := I.base.tbls b ps e
  obtain ⟨m2, e2⟩ := tbls b _ e1
  exact ⟨m1 ++ m2, by rw [e2, Array.append_assoc]⟩
 ·obtain ⟨m, hn, hl⟩ := I.loc
  refine ⟨m, ns m hn, fun i x v e1 e2 e3 => ?_⟩
  obtain ⟨u, r, l⟩ := hl i x v e1 e2 e3
  refine ⟨u, r, ?_⟩
  rcases l with l | ⟨k, c, e, z⟩
  ·exact .inl l
  ·exact .inr ⟨k, c, e, cellK x c e _ z⟩
 ·obtain ⟨v, z⟩ := I.cell x c e
  exact ⟨v, cellK x c e v z⟩
 ·obtain ⟨m, ⟨o, _, _, ho, _⟩, _⟩ := I.loc
  exact free _ o (fun z => (hch _ z).2.1 rfl) ho I.free
 ·obtain ⟨v, o, ho, hd⟩ := I.cell x c e
  exact free c o (fun z => (hch c z).2.2.1 x c e rfl) ho (I.freeC x c e)
 ·obtain ⟨e, n, ne, nf, d⟩ := I.pin p hp
  have nch : p.1 ∉ ch := fun z => (hch p.1 z).2.2.2 p hp rfl
  exact ⟨keep p.1 p.2 ne nf nch e n, free p.1 p.2 nch e n, ne, nf, d⟩
theorem Inv.un {t' : Nat} (I : Inv X pins σ H s) (u : Un X.fs [] H H' s.heap h') (hok : HOk X.prog X.w H' h') : Inv X pins σ H' { s with heap := h', toks := t' } := by
 obtain ⟨m, ⟨o, es, ep, ho, r⟩, _⟩ := id I.loc
 obtain ⟨sl, hL⟩ := u.any ho I.free (by simp)
 exact I.step (g' := s.gens) (d' := s.drawn) (ch := []) (fun _ z => nomatch z) (fun b o _ hb _ e n => u.keep b o e n hb (by simp)) (fun b o _ hb _ e n => u.slot b o e n hb (by simp)) (fun b o _ e n => u.free b o e n (by simp)) (fun b o _ e => u.there b o e (by simp)) u.tups u.frzs u.tbls (fun m' hm => by
  obtain ⟨o', es', ep', ho', r'⟩ := hm
  rw [ho] at ho'; cases ho'
  exact ⟨_, es', ep', hL, r'⟩) hok I.bare
theorem Inv.call {g' : Array GenState} {t' : Nat} {d' : Drawn} {ch : List Addr} (I : Inv X pins σ H s) (u : Un (frs X.stack) ch H H' s.heap h') (hok : HOk X.prog X.w H' h') (hg : AllBare g')
  (hch : ∀ b ∈ ch, (b ∈ X.ex \/ X.s₀.heap.objs.size <= b) /\ b ≠ X.env.locals /\ (∀ x c, X.env.cells.lookup x = some c -> c ≠ b) /\ ∀ p ∈ X.pn ++ pins, p.1 ≠ b) :
  Inv X pins σ H' { s with heap := h', gens := g', drawn := d', toks := t' } := by
 obtain ⟨m, ⟨o, es, ep, ho, r⟩, _⟩ := id I.loc
 obtain ⟨sl, hL⟩ := u.any ho I.free fun z => (hch _ z).2.1 rfl
 exact I.step (ch := ch) hch (fun b o hL hb hc e n => u.keep b o e n (fun z => (List.mem_cons.mp (I.stkSub b z)).elim hL hb) hc) (fun b o _ _ hc e n => u.any e n hc) (fun b o hc e n => u.free b o e n hc) (fun b o hc e => u.there b o e hc) u.tups u.frzs u.tbls (fun m' hm => by
  obtain ⟨o', es', ep', ho', r'⟩ := hm
  rw [ho] at ho'; cases ho'
  exact ⟨_, es', ep', hL, r'⟩) hok hg
theorem Inv.turned {t' : Nat} {it : Addr} (I : Inv X pins σ H s) (k : ∀ b o, b ≠ it -> s.heap.get? b = some o -> h'.get? b = some o) (hn : H it = none) (hL : it ≠ X.env.locals)
  (h1 : it ∈ X.ex \/ X.s₀.heap.objs.size <= it) (h2 : ∀ x c, X.env.cells.lookup x = some c -> c ≠ it) (h3 : ∀ p ∈ X.pn ++ pins, p.1 ≠ it) : Inv X pins σ H { s with heap := h', toks := t' } := by
 have nit : ∀ b u, H b = some u -> b ≠ it := fun b u e z => by rw [z, hn] at e; cases e
 refine I.step (g' := s.gens) (d' := s.drawn) (ch := [it]) (fun b hb => ?_) (fun b o _ _ hc e _ => k b o (fun z => hc (by simp [z])) e) (fun b o _ _ hc e _ => ⟨o.slots, k b o (fun z => hc (by simp [z])) e⟩) (fun _ _ _ _ n => n)
  (fun b o hc e => ⟨o, k b o (fun z => hc (by simp [z])) e⟩) (fun _ _ e => e) (fun _ _ _ e => e) (fun b ps e => ⟨#[], by rw [e]; simp⟩) (fun m hm => ?_) (fun b u e => ?_) I.bare
 ·have e : b = it := by simpa using hb
  subst e
  exact ⟨h1, hL, h2, h3⟩
 ·obtain ⟨o, es, ep, ho, r⟩ := hm
  exact ⟨o, es, ep, k _ o (Ne.symm hL) ho, r⟩
 ·refine (I.hok b u e).stay (fun c v hc q => k c v ?_ q) (fun _ q => q) fun _ _ q => q
  rcases hc with z | z
  ·rw [z]; exact nit b u e
  ·exact nit c _ z
theorem Inv.tok (I : Inv X pins σ H s) (t : Nat) : Inv X pins σ H { s with toks := t } := I.un (h' := s.heap) (t' := t) Un.refl I.hok
theorem Inv.kept {t' : Nat} (I : Inv X pins σ H s) (k : ∀ b u, s.heap.get? b = some u -> h'.get? b = some u) : Inv X pins σ H { s with heap := h', toks := t' } := I.un (Un.kept k) (I.hok.kept k)
theorem Inv.laid {a : Addr} {o : HO} {t' : Nat} (I : Inv X pins σ H s) (k : ∀ b u, s.heap.get? b = some u -> h'.get? b = some u) (hp : s.heap.objs.size <= a) (new : ObjOk X.prog X.w (upd H a o) h' a o) :
  Inv X pins σ (upd H a o) { s with heap := h', toks := t' } := I.un (Un.laid k hp (I.hok.fresh hp)) (I.hok.laid k hp new)
theorem Inv.write {x e : Addr} {o : HO} {t' : Nat} (I : Inv X pins σ H s) (mu : Mut (H x)) (he : e = x \/ H e = some (.own x)) (k : ∀ b u, b ≠ e -> s.heap.get? b = some u -> h'.get? b = some u) (heo : ∃ u, h'.get? e = some u)
  (new : ObjOk X.prog X.w (upd H x o) h' x o) : Inv X pins σ (upd H x o) { s with heap := h', toks := t' } := I.un (Un.write mu he k heo) (I.hok.write mu he k heo new)
theorem Inv.pins_of {pins' : List (Addr × Obj)} (I : Inv X pins σ H s) (h : ∀ p ∈ pins', s.heap.get? p.1 = some p.2 /\ H p.1 = none /\ p.1 ≠ X.env.locals /\ p.1 ∉ X.fs /\ ∀ v, p.2.data ≠ .cell v) : Inv X pins' σ H s :=
 ⟨I.ok, I.os, I.bare, I.base, I.loc, I.cell, I.free, I.freeC, fun p hp => (List.mem_append.mp hp).elim (fun z => I.pin p (List.mem_append_left _ z)) (h p), I.hok, I.len⟩
theorem nodup_ix {N : List Str} (hN : N.Nodup) {i j : Nat} {x : Str} (a : N[i]? = some x) (b : N[j]? = some x) : i = j := by
 obtain ⟨h1, e1⟩ := List.getElem?_eq_some_iff.mp a
 obtain ⟨h2, e2⟩ := List.getElem?_eq_some_iff.mp b
 exact (List.getElem_inj hN).mp (e1.trans e2.symm)
theorem store_ok2 {M : Model} {A : Around} {E : Value -> Shared -> Prop} {i : Nat} {x : Str} {v : V} {u : Value} {Q : Unit -> Shared -> Prop} (I : Inv X pins σ H s) (hN : X.N.Nodup) (hi : X.N[i]? = some x) (hx : Loc X.env.scope x) (r : RelV v u)
  (h : ∀ s', Inv X pins (σ.set i (some v)) H s' -> (∃ a, Heap.SameBut a s.heap s'.heap /\ (a = X.env.locals \/ X.env.cells.lookup x = some a)) -> Q () s') (hf : X.fn x = true \/ X.env.scope.names.lookup x = some .local := by first | exact .inl rfl | exact .inr rfl | assumption) : wpAny M A (storeName X.env x u) Q E s := by
 obtain ⟨m, hn, hl⟩ := id I.loc
 have hcls : (X.env.scope.kind == .class || (X.env.scope.kind == .module && X.env.locals != X.env.globals)) = false := by rw [I.ok.kind]; rfl
 have hiσ : i < σ.length := by rw [I.len]; exact (List.getElem?_eq_some_iff.mp hi).1
 have cne := I.cne
 have tracked : ∀ {a : Addr} {h' : Heap}, (∃ o, s.heap.get? a = some o /\ H a = none) -> Heap.SameBut a s.heap h' -> HOk X.prog X.w H h' := fun {a h'} ha hs b ob e => by
  obtain ⟨_, _, hfree⟩ := ha
  refine (I.hok b ob e).stay (fun c w' hc q => (hs.2 c ?_).trans q) (fun _ q => q) fun _ _ q => q
  rintro rfl
  rcases hc with rfl | hc
  ·rw [hfree] at e; cases e
  ·rw [hfree] at hc; cases hc
 rcases hx with hk | hk
 ·refine wpAny_storeName_local hk hn (fun h' hn' hs => ?_) hcls
  obtain ⟨oL, _, _, hoL, _⟩ := id hn
  refine h _ ⟨I.ok, I.os, I.bare, ⟨fun b o e n hb hx => ?_, fun b o e n hb hx => ?_, I.base.free, fun b o e hx => ?_, I.base.tups, I.base.frzs, I.base.tbls⟩, ⟨_, hn', fun j y v' e1 e2 e3 => ?_⟩, fun y c e => ?_, I.free, I.freeC, fun p hp => ?_, tracked ⟨oL, hoL, I.free⟩ hs, by simpa using I.len⟩ ⟨_, hs, .inl rfl⟩
  ·exact (hs.2 b (Nat.ne_of_lt (Nat.lt_of_lt_of_le (Heap.lt_size e) I.ok.above))).trans (I.base.keep b o e n hb hx)
  ·obtain ⟨sl, e1⟩ := I.base.slot b o e n hb hx
   exact ⟨sl, (hs.2 b (Nat.ne_of_lt (Nat.lt_of_lt_of_le (Heap.lt_size e) I.ok.above))).trans e1⟩
  ·obtain ⟨o', e1⟩ := I.base.there b o e hx
   exact ⟨o', (hs.2 b (Nat.ne_of_lt (Nat.lt_of_lt_of_le (Heap.lt_size e) I.ok.above))).trans e1⟩
  ·by_cases hj : j = i
   ·subst hj
    rw [hi] at e1; cases e1
    rw [List.getElem?_set_self hiσ] at e2
    cases e2
    exact ⟨u, r, .inl ⟨hk, by simp⟩⟩
   ·rw [List.getElem?_set_ne (Ne.symm hj)] at e2
    obtain ⟨u', r', q⟩ := hl j y v' e1 e2 e3
    refine ⟨u', r', ?_⟩
    rcases q with ⟨k, e⟩ | ⟨k, c, e, z⟩
    ·refine .inl ⟨k, ?_⟩
     have : y ≠ x := fun e => hj (nodup_ix hN e1 (e ▸ hi))
     simp [this, e]
    ·exact .inr ⟨k, c, e, z.sameBut hs (cne y c e)⟩
  ·obtain ⟨w', z⟩ := I.cell y c e
   exact ⟨w', z.sameBut hs (cne y c e)⟩
  ·obtain ⟨e, n, ne, nf, d⟩ := I.pin p hp
   exact ⟨(hs.2 p.1 ne).trans e, n, ne, nf, d⟩
 ·have hfn : X.fn x = true := by
   rcases hf with z | z
   ·exact z
   ·rw [z] at hk; cases hk
  obtain ⟨c, hc⟩ := I.ok.has x (.inl hk)
  obtain ⟨w', z⟩ := I.cell x c hc
  refine wpAny_storeName_cell I.ok.kind hk hc z (fun h' hc' hs => ?_)
  obtain ⟨oc, hoc, hocd⟩ := id z
  refine h { s with heap := h' } ⟨I.ok, I.os, I.bare, ⟨fun b o e n hb hx => ?_, fun b o e n hb hx => ?_, I.base.free, fun b o e hx => ?_, I.base.tups, I.base.frzs, I.base.tbls⟩, ⟨m, hn.sameBut hs (Ne.symm (cne x c hc)), fun j y v' e1 e2 e3 => ?_⟩, fun y c' e => ?_, I.free, I.freeC, fun p hp => ?_, tracked ⟨oc, hoc, I.freeC x c hc⟩ hs, by simpa using I.len⟩ ⟨c, hs, .inr hc⟩
  ·exact (hs.2 b (Nat.ne_of_lt (Nat.lt_of_lt_of_le (Heap.lt_size e) (I.ok.cab x c hfn hc)))).trans (I.base.keep b o e n hb hx)
  ·obtain ⟨sl, e1⟩ := I.base.slot b o e n hb hx
   exact ⟨sl, (hs.2 b (Nat.ne_of_lt (Nat.lt_of_lt_of_le (Heap.lt_size e) (I.ok.cab x c hfn hc)))).trans e1⟩
  ·obtain ⟨o', e1⟩ := I.base.there b o e hx
   exact ⟨o', (hs.2 b (Nat.ne_of_lt (Nat.lt_of_lt_of_le (Heap.lt_size e) (I.ok.cab x c hfn hc)))).trans e1⟩
  ·by_cases hj : j = i
   ·subst hj
    rw [hi] at e1; cases e1
    rw [List.getElem?_set_self hiσ] at e2
    cases e2
    exact ⟨u, r, .inr ⟨.inl hk, c, hc, hc'⟩⟩
   ·rw [List.getElem?_set_ne (Ne.symm hj)] at e2
    obtain ⟨u', r', q⟩ := hl j y v' e1 e2 e3
    refine ⟨u', r', ?_⟩
    rcases q with q | ⟨k, c', e, z'⟩
    ·exact .inl q
    ·refine .inr ⟨k, c', e, z'.sameBut hs ?_⟩
     rintro rfl
     exact hj (nodup_ix hN e1 (I.ok.inj _ _ _ e hc ▸ hi))
  ·by_cases hcc : c' = c
   ·subst hcc; exact ⟨_, hc'⟩
   ·obtain ⟨w2, z2⟩ := I.cell y c' e
    exact ⟨w2, z2.sameBut hs hcc⟩
  ·obtain ⟨e, n, ne, nf, d⟩ := I.pin p hp
   refine ⟨(hs.2 p.1 ?_).trans e, n, ne, nf, d⟩
   intro q
   rw [q, hoc] at e
   have q' : oc = p.2 := Option.some.inj e
   exact d w' (by rw [<- q']; exact hocd)
theorem store_ok {M : Model} {A : Around} {E : Value -> Shared -> Prop} {i : Nat} {x : Str} {v : V} {u : Value} {Q : Unit -> Shared -> Prop} (I : Inv X pins σ H s) (hN : X.N.Nodup) (hi : X.N[i]? = some x) (hx : Loc X.env.scope x) (r : RelV v u)
  (h : ∀ s', Inv X pins (σ.set i (some v)) H s' -> Q () s') (hf : X.fn x = true \/ X.env.scope.names.lookup x = some .local := by first | exact .inl rfl | exact .inr rfl | assumption) : wpAny M A (storeName X.env x u) Q E s :=
 store_ok2 I hN hi hx r (fun s' I' _ => h s' I') hf
theorem Inv.call' {s' : Shared} {ch : List Addr} (I : Inv X pins σ H s) (ho : s'.os = s.os) (u : Un (frs X.stack) ch H H' s.heap s'.heap) (hok : HOk X.prog X.w H' s'.heap) (hg : AllBare s'.gens)
  (hch : ∀ b ∈ ch, (b ∈ X.ex \/ X.s₀.heap.objs.size <= b) /\ b ≠ X.env.locals /\ (∀ x c, X.env.cells.lookup x = some c -> c ≠ b) /\ ∀ p ∈ X.pn ++ pins, p.1 ≠ b) : Inv X pins σ H' s' := by
 obtain ⟨h', g', d', t', o'⟩ := s'
 have e : o' = s.os := ho
 subst e
 exact I.call (g' := g') (t' := t') (d' := d') u hok hg hch
end
noncomputable abbrev XK := Value -> Option Addr -> Hp -> Prop
noncomputable abbrev St := List (Option V)
noncomputable abbrev VK := V -> Hp -> Prop
noncomputable abbrev TE := St -> Hp -> VK -> Prop
noncomputable abbrev TT := St -> Hp -> (Bool -> Hp -> Prop) -> Prop
noncomputable abbrev TA := St -> Hp -> (List V -> Hp -> Prop) -> Prop
structure Ends where
 nx : St -> Hp -> Prop
 rt : VK
 bk : St -> Hp -> Prop := fun _ _ => False
 ct : St -> Hp -> Prop := fun _ _ => False
noncomputable abbrev TS := Ends -> St -> Hp -> Prop
noncomputable def EP (X : Cx) (pins : List (Addr × Obj)) (σ : St) (Q : VK) (u : Value) (s' : Shared) : Prop := ∃ v H', Inv X pins σ H' s' /\ RelV v u /\ Q v H'
noncomputable def TP (X : Cx) (pins : List (Addr × Obj)) (σ : St) (Q : Bool -> Hp -> Prop) (b : Bool) (s' : Shared) : Prop := ∃ H', Inv X pins σ H' s' /\ Q b H'
noncomputable def AP (X : Cx) (pins : List (Addr × Obj)) (σ : St) (Q : List V -> Hp -> Prop) (us : List Value) (s' : Shared) : Prop := ∃ vs H', Inv X pins σ H' s' /\ Vals vs us /\ Q vs H'
noncomputable def SP (X : Cx) (pins : List (Addr × Obj)) (D : Ends) (f : Flow) (s' : Shared) : Prop :=
 match f with
 | .next => ∃ σ' H', Inv X pins σ' H' s' /\ D.nx σ' H'
 | .brk => ∃ σ' H', Inv X pins σ' H' s' /\ D.bk σ' H'
 | .cont => ∃ σ' H', Inv X pins σ' H' s' /\ D.ct σ' H'
 | .ret u => ∃ v σ' H', Inv X pins σ' H' s' /\ RelV v u /\ D.rt v H'
noncomputable def PE (X : Cx) (e : Expr) (t : TE) : Prop :=
 ∀ (pins : List (Addr × Obj)) (s : Shared) (σ : St) (H : Hp) (Q : VK), Inv X pins σ H s -> t σ H Q -> wpAny (model X.prog X.w) X.A (eval e X.env) (EP X pins σ Q) X.xe s
noncomputable def PT (X : Cx) (e : Expr) (t : TT) : Prop :=
 ∀ (pins : List (Addr × Obj)) (s : Shared) (σ : St) (H : Hp) (Q : Bool -> Hp -> Prop), Inv X pins σ H s -> t σ H Q -> wpAny (model X.prog X.w) X.A (isTrue e X.env (eval e X.env)) (TP X pins σ Q) X.xe s
noncomputable def PW (X : Cx) (e : Expr) (t : TT) : Prop :=
 ∀ (whole : Sem Value) (pins : List (Addr × Obj)) (s : Shared) (σ : St) (H : Hp) (Q : Bool -> Hp -> Prop), Inv X pins σ H s -> t σ H Q -> wpAny (model X.prog X.w) X.A (isTrue e X.env whole) (TP X pins σ Q) X.xe s
theorem PW.pt {X : Cx} {e : Expr} {t : TT} (h : PW X e t) : PT X e t := h _
noncomputable def PA (X : Cx) (es : List Expr) (t : TA) : Prop :=
 ∀ (pos : Pos) (pins : List (Addr × Obj)) (s : Shared) (σ : St) (H : Hp) (Q : List V -> Hp -> Prop), Inv X pins σ H s -> t σ H Q -> wpAny (model X.prog X.w) X.A (spliced (backTo pos (starEach es X.env))) (AP X pins σ Q) X.xe s
noncomputable def PS (X : Cx) (st : Stmt) (t : TS) : Prop :=
 ∀ (pins : List (Addr × Obj)) (s : Shared) (σ : St) (H : Hp) (D : Ends), Inv X pins σ H s -> t D σ H -> wpAny (model X.prog X.w) X.A (exec st X.env) (SP X pins D) X.xe s
noncomputable def PSs (X : Cx) (st : List Stmt) (t : TS) : Prop :=
 ∀ (pins : List (Addr × Obj)) (s : Shared) (σ : St) (H : Hp) (D : Ends), Inv X pins σ H s -> t D σ H -> wpAny (model X.prog X.w) X.A (execs st X.env) (SP X pins D) X.xe s
theorem thn {α : Type} {t : Sem α} {Q Q' : α -> Shared -> Prop} {M : Model} {A : Around} {E : Value -> Shared -> Prop} {s : Shared} (h : wpAny M A t Q E s) (hQ : ∀ a s, Q a s -> Q' a s) : wpAny M A t Q' E s := wpAny_mono h hQ fun _ _ x => x
end L2
namespace L2
open PySem PySem.Spec PyProof.Rows
section
variable {X : Cx}
noncomputable def tVar (i : Nat) : TE := fun σ H Q => ∃ v, σ[i]? = some (some v) /\ Q v H
noncomputable def tC (v : V) : TE := fun _ H Q => Q v H
theorem pe_var {i : Nat} {x : Str} {pos : Pos} (hN : X.N[i]? = some x) (hv : Vis X.env.scope x) (hd : (x == ("__debug__" : Str)) = false := by decide) (hcd : (x == ("__classdict__" : Str)) = false := by decide) : PE X (.Name x pos) (tVar i) := by
 intro pins s σ H Q I h
 obtain ⟨v, e, h⟩ := h
 obtain ⟨m, hn, hl⟩ := I.loc
 obtain ⟨u, r, l⟩ := hl i x v hN e hv
 have fin : EP X pins σ Q u s := ⟨v, H, I, r, h⟩
 rcases l with ⟨hk, hm⟩ | ⟨hk, c, hc, hcell⟩
 ·exact wpAny_Name (wpAny_loadName_local I.ok.kind hk hn hm fin) hd
 ·rcases hk with hk | hk
  ·exact wpAny_Name (wpAny_loadName_cell I.ok.kind hk hc hcell fin) hd
  ·exact wpAny_Name (wpAny_loadName_free I.ok.kind hk hc hcell fin hcd) hd
theorem pe_int {i j pos} : PE X (.Constant (.int i) j pos) (tC (.int i)) := fun _ _ _ H _ I h => wpAny_Constant_int ⟨.int i, H, I.tok _, ⟨_, rfl⟩, h⟩
theorem pe_bl {b j pos} : PE X (.Constant (.bool b) j pos) (tC (.bl b)) := fun _ _ _ H _ I h => Constant_bool ⟨.bl b, H, I, rfl, h⟩
theorem pe_non {j pos} : PE X (.Constant .none j pos) (tC .non) := fun _ _ _ H _ I h => Constant_none ⟨.non, H, I, rfl, h⟩
theorem pe_str {x j pos} : PE X (.Constant (.str x) j pos) (tC (.str x)) := fun _ _ _ H _ I h => Calls.Constant_str ⟨.str x, H, I.tok _, ⟨_, rfl⟩, h⟩
noncomputable def Gl (X : Cx) (x : Str) : Prop := X.env.kindOf x = some .globalImplicit
theorem ld_glob {E : Value -> Shared -> Prop} {pins : List (Addr × Obj)} {s : Shared} {σ : St} {H : Hp} {x : Str} {u : Value} {pos : Pos} {Q : Value -> Shared -> Prop} (I : Inv X pins σ H s) (hg : Gl X x) (hm : X.mg x = some u) (h : Q u s)
  (hd : (x == ("__debug__" : Str)) = false := by decide) : wpAny (model X.prog X.w) X.A (eval (.Name x pos) X.env) Q E s :=
 Calls.Name_function_global I.ok.kind hg (Calls.loadGlobal_global (by rw [I.ok.glob]; exact I.mod.glob.keeps I.bk) hm h) hd
theorem ld_blt {E : Value -> Shared -> Prop} {pins : List (Addr × Obj)} {s : Shared} {σ : St} {H : Hp} {x : Str} {u : Value} {pos : Pos} {Q : Value -> Shared -> Prop} (I : Inv X pins σ H s) (hg : Gl X x) (hm : X.mg x = none) (hv : bootBuiltins x = some u) (h : Q u s)
  (hn : x ≠ "__name__" := by decide) (hd : (x == ("__debug__" : Str)) = false := by decide) : wpAny (model X.prog X.w) X.A (eval (.Name x pos) X.env) Q E s := by
 obtain ⟨mb, h1, h2⟩ := I.mod.blt
 exact Calls.Name_function_global I.ok.kind hg (Calls.loadGlobal_builtin (by rw [I.ok.glob]; exact I.mod.glob.keeps I.bk) hm (by rw [I.ok.blt]; exact h1.keeps I.bk) ((h2 x hn).trans hv) h) hd
theorem pe_glob {x : Str} {v : V} {u : Value} {pos : Pos} (hg : Gl X x) (hm : X.mg x = some u) (r : RelV v u) (hd : (x == ("__debug__" : Str)) = false := by decide) : PE X (.Name x pos) (tC v) :=
 fun _ _ _ H _ I h => ld_glob I hg hm ⟨v, H, I, r, h⟩ hd
theorem pe_bltn {x : Str} {v : V} {u : Value} {pos : Pos} (hg : Gl X x) (hm : X.mg x = none) (hv : bootBuiltins x = some u) (r : RelV v u) (hn : x ≠ "__name__" := by decide) (hd : (x == ("__debug__" : Str)) = false := by decide) : PE X (.Name x pos) (tC v) :=
 fun _ _ _ H _ I h => ld_blt I hg hm hv ⟨v, H, I, r, h⟩ hn hd
variable {a b : Expr} {ta tb : TE} {pos : Pos}
variable {tA tB' : TT} {rest : List Expr}
noncomputable def tNotV (ta : TE) : TE := fun σ H Q => ta σ H fun x H1 => ∃ c, x = .bl c /\ Q (.bl (!c)) H1
theorem pe_not (ha : PE X a ta) : PE X (.UnaryOp .Not a pos) (tNotV ta) := by
 intro pins s σ H Q I h
 refine UnaryOp_ (thn (ha pins s σ H _ I h) fun v s1 hpat => ?_)
 obtain ⟨x, H1, I1, r1, q1⟩ := hpat
 obtain ⟨c, rfl, q1⟩ := q1
 cases r1
 exact not_of (wpAny_truthy_bool ⟨.bl (!c), H1, I1, rfl, q1⟩)
end
end L2
namespace L2
open PySem PySem.Spec PyProof.Rows
noncomputable def SqL (K : PySem.W.Frag) (H : Hp) (a : Addr) (xs : List V) : Prop :=
 Rd H a (.lst xs) \/
  ∃ (o : Obj) (its : Array Value) (n : Nat), K.lookup a = some o /\ o.cls = .type "list" /\ o.dict = none /\ o.data = .seq its n /\ its.size <= sizeLine /\ Vals xs its.toList
noncomputable def SqT (K : PySem.W.Frag) (H : Hp) (a : Addr) (xs : List V) : Prop :=
 Rd H a (.tup xs) \/
  ∃ (o : Obj) (its : Array Value) (n : Nat), K.lookup a = some o /\ o.cls = .type "tuple" /\ o.data = .seq its n /\ its.size <= sizeLine /\ Vals xs its.toList
noncomputable def absV : Value -> Option V
 | .none => some .non
 | .bool b => some (.bl b)
 | .int i _ => some (.int i)
 | .str x _ => some (.str x)
 | .bytes b _ => some (.byt b)
 | .float b _ => some (.flt b)
 | .ref a => some (.ref a)
 | .type n => some (.ty n)
 | _ => none
theorem RelV.abs {x : V} {u : Value} (r : RelV x u) : absV u = some x := by
 cases x with
 | non => cases r; rfl
 | bl _ => cases r; rfl
 | int _ => obtain ⟨t, rfl⟩ := r; rfl
 | str _ => obtain ⟨t, rfl⟩ := r; rfl
 | byt _ => obtain ⟨t, rfl⟩ := r; rfl
 | flt _ => obtain ⟨t, rfl⟩ := r; rfl
 | ref _ => cases r; rfl
 | ty _ => cases r; rfl
theorem RelV.inj {x y : V} {u : Value} (r : RelV x u) (q : RelV y u) : x = y := Option.some.inj (r.abs.symm.trans q.abs)
theorem Vals.inj : ∀ {xs ys : List V} {us : List Value}, Vals xs us -> Vals ys us -> xs = ys
 | _, _, _, .nil, .nil => rfl
 | _, _, _, .cons r t, .cons r' t' => by rw [r.inj r', Vals.inj t t']
section
variable {X : Cx} {pins : List (Addr × Obj)} {σ : St} {H : Hp} {s : Shared} {a : Addr} {xs ys : List V}
theorem SqL.of {K : PySem.W.Frag} (h : H a = some (.lst xs)) : SqL K H a xs := .inl (.inl h)
theorem SqT.of {K : PySem.W.Frag} (h : H a = some (.tup xs)) : SqT K H a xs := .inl (.inl h)
theorem Inv.list (I : Inv X pins σ H s) (h : SqL X.K H a xs) : ∃ its : List Value, Vals xs its /\ PlainL s.heap a its.toArray /\ xs.length <= sizeLine := by
 rcases h with h | ⟨o, its, n, hk, hc, hd, hs, hz, r⟩
 ·obtain ⟨z, its, n, r, e⟩ := h.ok I.hok
  exact ⟨its, r, ⟨_, n, e, rfl, rfl, rfl⟩, z⟩
 ·refine ⟨its.toList, r, ⟨o, n, I.kIn a o hk, hc, hd, by simpa using hs⟩, ?_⟩
  have e := r.length
  simp only [Array.length_toList] at e
  omega
theorem Inv.tuple (I : Inv X pins σ H s) (h : SqT X.K H a xs) : ∃ its : List Value, Vals xs its /\ IsTup s.heap a its.toArray /\ xs.length <= sizeLine := by
 rcases h with h | ⟨o, its, n, hk, hc, hs, hz, r⟩
 ·obtain ⟨z, its, r, p⟩ := h.ok I.hok
  exact ⟨its, r, p, z⟩
 ·refine ⟨its.toList, r, ⟨o, I.kIn a o hk, hc, n, by simpa using hs⟩, ?_⟩
  have e := r.length
  simp only [Array.length_toList] at e
  omega
theorem Inv.list_inj (I : Inv X pins σ H s) (h : SqL X.K H a xs) (h' : SqL X.K H a ys) : xs = ys := by
 obtain ⟨its, r, ⟨o, n, e, _, _, d⟩, _⟩ := I.list h
 obtain ⟨its', r', ⟨o', n', e', _, _, d'⟩, _⟩ := I.list h'
 rw [e] at e'; cases e'
 rw [d] at d'
 injection d' with d1 _
 have : its = its' := by simpa using congrArg Array.toList d1
 subst this
 exact r.inj r'
theorem Inv.tuple_inj (I : Inv X pins σ H s) (h : SqT X.K H a xs) (h' : SqT X.K H a ys) : xs = ys := by
 obtain ⟨its, r, ⟨o, e, _, n, d⟩, _⟩ := I.tuple h
 obtain ⟨its', r', ⟨o', e', _, n', d'⟩, _⟩ := I.tuple h'
 rw [e] at e'; cases e'
 rw [d] at d'
 injection d' with d1 _
 have : its = its' := by simpa using congrArg Array.toList d1
 subst this
 exact r.inj r'
end
noncomputable abbrev Cx.wish (X : Cx) (E : Value -> Shared -> Prop) : Cx := { X with xe := E }
noncomputable abbrev Cx.nox (X : Cx) : Cx := X.wish fun _ _ => False
theorem Cx.Ok.wish {X : Cx} (ok : X.Ok) (E : Value -> Shared -> Prop) : (X.wish E).Ok :=
 ⟨ok.mod, ok.kind, ok.glob, ok.blt, ok.above, ok.inj, ok.has, ok.cab, ok.hd, ok.frames, ok.stk, ok.exf, ok.bs, ok.bsz, ok.noex, ok.exfs, ok.funs, ok.frf⟩
theorem Cx.Ok.unwish {X : Cx} {E : Value -> Shared -> Prop} (ok : (X.wish E).Ok) : X.Ok :=
 ⟨ok.mod, ok.kind, ok.glob, ok.blt, ok.above, ok.inj, ok.has, ok.cab, ok.hd, ok.frames, ok.stk, ok.exf, ok.bs, ok.bsz, ok.noex, ok.exfs, ok.funs, ok.frf⟩
section
variable {X : Cx} {pins : List (Addr × Obj)} {σ : St} {H : Hp} {s : Shared} {E : Value -> Shared -> Prop}
theorem Inv.wish (I : Inv X pins σ H s) (E : Value -> Shared -> Prop) : Inv (X.wish E) pins σ H s := ⟨I.ok.wish E, I.os, I.bare, I.base, I.loc, I.cell, I.free, I.freeC, I.pin, I.hok, I.len⟩
theorem Inv.unwish (I : Inv (X.wish E) pins σ H s) : Inv X pins σ H s := ⟨I.ok.unwish, I.os, I.bare, I.base, I.loc, I.cell, I.free, I.freeC, I.pin, I.hok, I.len⟩
theorem SP.unwish {D : Ends} {f : Flow} {s' : Shared} (h : SP (X.wish E) pins D f s') : SP X pins D f s' := by
 cases f with
 | next => obtain ⟨σ', H', I, q⟩ := h; exact ⟨σ', H', I.unwish, q⟩
 | brk => obtain ⟨σ', H', I, q⟩ := h; exact ⟨σ', H', I.unwish, q⟩
 | cont => obtain ⟨σ', H', I, q⟩ := h; exact ⟨σ', H', I.unwish, q⟩
 | ret u => obtain ⟨v, σ', H', I, r, q⟩ := h; exact ⟨v, σ', H', I.unwish, r, q⟩
theorem PE.nox {e : Expr} {t : TE} (h : PE X.nox e t) : PE X e t := fun pins s σ H Q I hw =>
 wpAny_mono (h pins s σ H Q (I.wish _) hw) (fun _ _ ⟨v, H', I', r, q⟩ => ⟨v, H', I'.unwish, r, q⟩) fun _ _ z => False.elim z
theorem PT.nox {e : Expr} {t : TT} (h : PT X.nox e t) : PT X e t := fun pins s σ H Q I hw =>
 wpAny_mono (h pins s σ H Q (I.wish _) hw) (fun _ _ ⟨H', I', q⟩ => ⟨H', I'.unwish, q⟩) fun _ _ z => False.elim z
theorem PSs.nox {st : List Stmt} {t : TS} (h : PSs X.nox st t) : PSs X st t := fun pins s σ H D I hw =>
 wpAny_mono (h pins s σ H D (I.wish _) hw) (fun _ _ q => q.unwish) fun _ _ z => False.elim z
end
section
variable {X : Cx} {st : Stmt} {rest : List Stmt} {t u : TS} {e : Expr} {te : TE} {pos : Pos}
noncomputable def tNext : TS := fun D σ H => D.nx σ H
noncomputable def tSeq (t u : TS) : TS := fun D σ H => t { D with nx := u D } σ H
theorem pss_nil : PSs X [] tNext := fun _ _ σ H _ I h => wpAny_execs_nil ⟨σ, H, I, h⟩
theorem pss_cons (h1 : PS X st t) (h2 : PSs X rest u) : PSs X (st :: rest) (tSeq t u) := by
 intro pins s σ H D I h
 refine wpAny_execs_cons (thn (h1 pins s σ H { D with nx := u D } I h) fun f s1 q => ?_)
 cases f with
 | next =>
  obtain ⟨σ', H', I', q⟩ := q
  exact h2 pins s1 σ' H' D I' q
 | ret v => exact q
 | brk => exact q
 | cont => exact q
theorem pss_one (h1 : PS X st t) : PSs X [st] t := by
 intro pins s σ H D I h
 refine wpAny_execs_cons (thn (h1 pins s σ H D I h) fun f s1 q => ?_)
 cases f with
 | next => exact wpAny_execs_nil q
 | ret v => exact q
 | brk => exact q
 | cont => exact q
theorem Inv.quiet {pins : List (Addr × Obj)} {σ : St} {H : Hp} {s : Shared} (I : Inv X pins σ H s) : interactive X.env = false := by simp [interactive, I.ok.kind]
noncomputable def tDrop (te : TE) : TS := fun D σ H => te σ H fun _ H1 => D.nx σ H1
theorem ps_expr (he : PE X e te) (hs : swapsWith e none pos.line X.env = pure false := by rfl) : PS X (.Expr e pos) (tDrop te) := by
 intro pins s σ H D I h
 exact wpAny_Expr_any (thn (he pins s σ H _ I h) fun v s1 ⟨x, H1, I1, r1, q1⟩ => ⟨σ, H1, I1, q1⟩) I.quiet hs
noncomputable def tRet (te : TE) : TS := fun D σ H => te σ H D.rt
theorem ps_ret (he : PE X e te) : PS X (.Return (some e) pos) (tRet te) := by
 intro pins s σ H D I h
 exact wpAny_Return_some (thn (he pins s σ H _ I h) fun v s1 ⟨x, H1, I1, r1, q1⟩ => ⟨x, σ, H1, I1, r1, q1⟩)
noncomputable def tIfS (c : TT) (t u : TS) : TS := fun D σ H => c σ H fun b H1 => if b = true then t D σ H1 else u D σ H1
theorem ps_if {c : Expr} {a b : List Stmt} {tc : TT} (hc : PT X c tc) (ha : PSs X a t) (hb : PSs X b u) : PS X (.If c a b pos) (tIfS tc t u) := by
 intro pins s σ H D I h
 refine wpAny_If (thn (hc pins s σ H _ I h) fun d s1 hpat => ?_)
 obtain ⟨H1, I1, q1⟩ := hpat
 cases d with
 | true => exact ha pins s1 σ H1 D I1 q1
 | false => exact hb pins s1 σ H1 D I1 q1
noncomputable def tNever : TS := fun _ _ _ => False
theorem ps_never : PS X st tNever := fun _ _ _ _ _ _ h => h.elim
end
noncomputable abbrev TG := V -> St -> Hp -> (St -> Hp -> Prop) -> Prop
noncomputable abbrev TGs := List V -> St -> Hp -> (St -> Hp -> Prop) -> Prop
noncomputable def PG (X : Cx) (target : Expr) (t : TG) : Prop :=
 ∀ (pins : List (Addr × Obj)) (s : Shared) (σ : St) (H : Hp) (v : V) (u : Value) (Q : St -> Hp -> Prop), Inv X pins σ H s -> RelV v u -> t v σ H Q ->
  wpAny (model X.prog X.w) X.A (assign target X.env u) (fun _ s' => ∃ σ' H', Inv X pins σ' H' s' /\ Q σ' H') X.xe s
noncomputable def PGs (X : Cx) (ts : List Expr) (t : TGs) : Prop :=
 ∀ (pins : List (Addr × Obj)) (s : Shared) (σ : St) (H : Hp) (vs : List V) (us : List Value) (Q : St -> Hp -> Prop), Inv X pins σ H s -> Vals vs us -> t vs σ H Q ->
  wpAny (model X.prog X.w) X.A (assignInOrder ((assignEach ts X.env).map (·.2)) us) (fun _ s' => ∃ σ' H', Inv X pins σ' H' s' /\ Q σ' H') X.xe s
noncomputable abbrev TSet := V -> V -> V -> Hp -> (Hp -> Prop) -> Prop
noncomputable def PSet (X : Cx) (t : TSet) : Prop :=
 ∀ (pins : List (Addr × Obj)) (s : Shared) (σ : St) (H : Hp) (o i v : V) (ov iv u : Value) (Q : Hp -> Prop), Inv X pins σ H s -> RelV o ov -> RelV i iv -> RelV v u -> t o i v H Q ->
  wpAny (model X.prog X.w) X.A (setItem ov iv u) (fun _ s' => ∃ H', Inv X pins σ H' s' /\ Q H') X.xe s
section
variable {X : Cx} {pos : Pos}
noncomputable def gName (i : Nat) : TG := fun v σ H Q => Q (σ.set i (some v)) H
theorem pg_name {i : Nat} {x : Str} (hN : X.N.Nodup) (hi : X.N[i]? = some x) (hx : Loc X.env.scope x) (hf : X.fn x = true \/ X.env.scope.names.lookup x = some .local := by first | exact .inl rfl | exact .inr rfl | assumption) : PG X (.Name x pos) (gName i) := by
 intro pins s σ H v u Q I r h
 exact wpAny_assign_Name (store_ok I hN hi hx r (fun s' I' => ⟨_, H, I', h⟩) hf)
noncomputable def gNil : TGs := fun vs σ H Q => vs = [] /\ Q σ H
noncomputable def gCons (t : TG) (u : TGs) : TGs := fun vs σ H Q => ∃ v r, vs = v :: r /\ t v σ H fun σ' H' => u r σ' H' Q
theorem pgs_nil : PGs X [] gNil := by
 intro pins s σ H vs us Q I r h
 obtain ⟨e, h⟩ := h
 subst e
 cases r
 exact assignInOrder_nil ⟨σ, H, I, h⟩
theorem pgs_cons {e : Expr} {es : List Expr} {t : TG} {u : TGs} (h1 : PG X e t) (h2 : PGs X es u)
  (hs : (assignEach (e :: es) X.env).map (·.2) = assign e X.env :: (assignEach es X.env).map (·.2) := by rfl) : PGs X (e :: es) (gCons t u) := by
 intro pins s σ H vs us Q I r h
 obtain ⟨v, vr, e1, h⟩ := h
 subst e1
 cases r with
 | cons r rr =>
  rw [hs]
  refine assignInOrder_cons (thn (h1 pins s σ H _ _ _ I r h) fun _ s1 hpat => ?_)
  obtain ⟨σ1, H1, I1, q1⟩ := hpat
  exact h2 pins s1 σ1 H1 _ _ Q I1 rr q1
noncomputable def gTup (K : PySem.W.Frag) (n : Nat) (t : TGs) : TG := fun v σ H Q => ∃ a xs, v = .ref a /\ SqT K H a xs /\ xs.length = n /\ t xs σ H Q
theorem pg_tup {es : List Expr} {k : Nat} {t : TGs} {n : Nat} (hc : X.calm = true) (h : PGs X es t)
  (hn : (assignEach es X.env).length = n := by rfl) (hst : (assignEach es X.env).findIdx? (·.1) = none := by rfl) : PG X (.Tuple es k pos) (gTup X.K n t) := by
 intro pins s σ H v u Q I r hw
 obtain ⟨a, xs, e1, hq, hl, hw⟩ := hw
 subst e1
 cases r
 obtain ⟨its, rv, ht, hz⟩ := I.tuple hq
 refine assign_Tuple_tuple (I.ok.hd hc) ht (by simp [hn, <- hl, rv.length]) hst fun h' hx => ?_
 have I1 : Inv X pins σ H { s with heap := h' } := I.kept (t' := s.toks) fun b o e => hx b o (Nat.ne_of_lt (Heap.lt_size e)) e
 exact h pins _ σ H xs _ Q I1 (by simpa using rv) hw
noncomputable def gSub (to ti : TE) (t : TSet) : TG := fun v σ H Q => to σ H fun o H1 => ti σ H1 fun i H2 => t o i v H2 fun H3 => Q σ H3
theorem pg_sub {o i : Expr} {to ti : TE} {t : TSet} (ho : PE X o to) (hi : PE X i ti) (hs : PSet X t)
  (ha : ∀ v, assign (.Subscript o i pos) X.env v = (do
   let ov ← holding [v] (eval o X.env)
   let iv ← holding [v, ov] (eval i X.env)
   standAt pos
   holding [v, ov, iv] (setItem ov iv v)
   release [v, ov, iv] []) := by intro _; rfl) : PG X (.Subscript o i pos) (gSub to ti t) := by
 intro pins s σ H v u Q I r h
 rw [ha]
 refine wpAny_bind (wpAny_holding (thn (ho pins s σ H _ I h) fun ov s1 hpat => ?_))
 obtain ⟨x, H1, I1, r1, q1⟩ := hpat
 refine wpAny_bind (wpAny_holding (thn (hi pins s1 σ H1 _ I1 q1) fun iv s2 hpat => ?_))
 obtain ⟨y, H2, I2, r2, q2⟩ := hpat
 refine wpAny_bind (wpAny_standAt (wpAny_bind (wpAny_holding (thn (hs pins s2 σ H2 x y v ov iv u _ I2 r1 r2 r q2) fun _ s3 hpat => ?_))))
 obtain ⟨H3, I3, q3⟩ := hpat
 exact wpAny_release ⟨σ, H3, I3, q3⟩
noncomputable def tAsg (te : TE) (g : TG) : TS := fun D σ H => te σ H fun x H1 => g x σ H1 D.nx
theorem ps_asg {tg e : Expr} {te : TE} {g : TG} (he : PE X e te) (hg : PG X tg g) (hs : swapsWithSole [tg] e pos.line X.env = pure false := by rfl) (hw : swappedStores [tg] e X.env = pure none := by rfl)
  (h1 : (assignEach [tg] X.env).map (·.2) = [assign tg X.env] := by rfl) : PS X (.Assign [tg] e pos) (tAsg te g) := by
 intro pins s σ H D I h
 refine wpAny_Assign_stores (thn (he pins s σ H _ I h) fun v s1 hpat => ?_) hs hw
 obtain ⟨x, H1, I1, r1, q1⟩ := hpat
 rw [h1]
 exact thn (hg pins s1 σ H1 x v _ I1 r1 q1) fun _ s2 q => q
theorem ps_set {i : Nat} {x : Str} {e : Expr} {te : TE} {pos' : Pos} (hN : X.N.Nodup) (hi : X.N[i]? = some x) (hx : Loc X.env.scope x) (he : PE X e te) (hs : swapsWith e (some (.Name x pos')) pos.line X.env = pure false := by rfl) (hf : X.fn x = true \/ X.env.scope.names.lookup x = some .local := by first | exact .inl rfl | exact .inr rfl | assumption) :
  PS X (.Assign [.Name x pos'] e pos) (tAsg te (gName i)) := by
 intro pins s σ H D I h
 refine wpAny_Assign_Name (thn (he pins s σ H _ I h) fun v s1 hpat => ?_) hs
 obtain ⟨y, H1, I1, r1, q1⟩ := hpat
 exact store_ok I1 hN hi hx r1 (fun s2 I2 => ⟨_, H1, I2, q1⟩) hf
end
section
variable {X : Cx} {pos : Pos}
noncomputable def tWhile (c : TT) (tb : TS) : TS := fun D σ H => ∃ W : Nat -> St -> Hp -> Prop, (∃ m, W m σ H) /\ ∀ m σ H, W m σ H ->
 c σ H fun b H1 => if b = true then ∃ N : St -> Hp -> Prop, (∀ σ' H', N σ' H' -> ∃ m', m' < m /\ W m' σ' H') /\ tb { D with nx := N, ct := N, bk := D.nx } σ H1 else D.nx σ H1
theorem ps_while {c : Expr} {body : List Stmt} {tc : TT} {tb : TS} (hp : PassesOwn (model X.prog X.w) X.A X.env X.xe) (hc : PT X c tc) (hb : PSs X body tb) : PS X (.While c body [] pos) (tWhile tc tb) := by
 intro pins s σ H D I h
 obtain ⟨W, ⟨m0, w0⟩, turn⟩ := h
 refine wpAny_While (codeAny_whileLoop (fun n s' => ∃ σ' H', Inv X pins σ' H' s' /\ W n σ' H') ?_ m0 ⟨σ, H, I, w0⟩)
 rintro n s1 ⟨σ1, H1, I1, w1⟩
 refine wpAny_passesOwn hp (thn (hc pins s1 σ1 H1 _ I1 (turn n σ1 H1 w1)) fun b s2 hpat => ?_)
 obtain ⟨H2, I2, q2⟩ := hpat
 cases b with
 | true =>
  obtain ⟨N, hN, q2⟩ := q2
  rw [if_pos rfl]
  refine wpAny_passesOwn hp (thn (hb pins s2 σ1 H2 _ I2 q2) fun f s3 q3 => ?_)
  cases f with
  | next =>
   obtain ⟨σ3, H3, I3, n3⟩ := q3
   obtain ⟨m', hm, w3⟩ := hN σ3 H3 n3
   exact ⟨m', hm, σ3, H3, I3, w3⟩
  | cont =>
   obtain ⟨σ3, H3, I3, n3⟩ := q3
   obtain ⟨m', hm, w3⟩ := hN σ3 H3 n3
   exact ⟨m', hm, σ3, H3, I3, w3⟩
  | brk => exact q3
  | ret v => exact q3
 | false =>
  rw [if_neg Bool.false_ne_true]
  exact wpAny_execs_nil ⟨σ1, H2, I2, q2⟩
end
structure It where
 go : Nat -> Hp -> Prop
 yld : Nat -> Hp -> V -> Hp -> Prop
 stop : Nat -> Hp -> Prop
noncomputable def FpOk (X : Cx) (pins : List (Addr × Obj)) (H : Hp) (b : Addr) : Prop :=
 H b = none /\ b ≠ X.env.locals /\ b ∉ X.fs /\ (b ∈ X.ex \/ X.s₀.heap.objs.size <= b) /\ (∀ x c, X.env.cells.lookup x = some c -> c ≠ b) /\ ∀ p ∈ X.pn ++ pins, p.1 ≠ b
theorem Inv.fpOk {X : Cx} {pins : List (Addr × Obj)} {σ : St} {H H' : Hp} {s : Shared} {b : Addr} (I : Inv X pins σ H s) (hb : s.heap.objs.size <= b) (hn : H' b = none) : FpOk X pins H' b := by
 refine ⟨hn, Nat.ne_of_gt (Nat.lt_of_lt_of_le I.lt hb), I.nofs hb, .inr (Nat.le_trans I.sz hb), fun x c e z => ?_, fun p hp z => ?_⟩
 ·obtain ⟨v, q⟩ := I.cell x c e
  exact absurd (Nat.lt_of_lt_of_le q.lt (by rw [z]; exact hb)) (Nat.lt_irrefl _)
 ·exact absurd (Nat.lt_of_lt_of_le (Heap.lt_size (I.pin p hp).1) (by rw [z]; exact hb)) (Nat.lt_irrefl _)
structure Turn (P : Program) (w : World) (K : PySem.W.Frag) (tg : Expr) (J : It) (fp : List Addr) (it : Addr) (tn : Nat -> Heap -> Prop) : Prop where
 mem : it ∈ fp
 obj : ∀ i h, tn i h -> ∀ b ∈ fp, ∃ o, h.get? b = some o /\ ∀ v, o.data ≠ .cell v
 keep : ∀ i h h', tn i h -> (∀ b ∈ fp, ∀ o, h.get? b = some o -> h'.get? b = some o) -> tn i h'
 item : ∀ (X : Cx), X.prog = P -> X.w = w -> X.K = K -> X.calm = true -> ∀ (i : Nat) (pins : List (Addr × Obj)) (s : Shared) (σ : St) (H : Hp) (E : Value -> Shared -> Prop), Inv X pins σ H s -> (∀ b ∈ fp, FpOk X pins H b) -> tn i s.heap -> J.go i H ->
  wpAny (model P w) X.A (pyNext (.ref it)) (fun r s1 => ∃ u, r = some u /\
   wpAny (model P w) X.A (letOwnedTupleGo tg (.ref it) u) (fun _ s2 => ∃ x H', Inv X pins σ H' s2 /\ RelV x u /\ J.yld i H x H' /\ tn (i + 1) s2.heap /\ ∀ b ∈ fp, H' b = none) E s1) E s
 done : ∀ (X : Cx), X.prog = P -> X.w = w -> X.K = K -> X.calm = true -> ∀ (i : Nat) (pins : List (Addr × Obj)) (s : Shared) (σ : St) (H : Hp) (E : Value -> Shared -> Prop), Inv X pins σ H s -> (∀ b ∈ fp, FpOk X pins H b) -> tn i s.heap -> J.stop i H ->
  wpAny (model P w) X.A (pyNext (.ref it)) (fun r s1 => r = none /\ Inv X pins σ H s1) E s
 self : ∀ (A : Around) (i : Nat) (s : Shared) (Q : Value -> Shared -> Prop) (E : Value -> Shared -> Prop), tn i s.heap -> Q (.ref it) s -> wpAny (model P w) A (pyIter (.ref it)) Q E s
noncomputable abbrev TI := St -> Hp -> (It -> Hp -> Prop) -> Prop
noncomputable def PIE (X : Cx) (pins : List (Addr × Obj)) (σ : St) (tg : Expr) (R : It -> Hp -> Prop) (itv : Value) (s2 : Shared) : Prop :=
 ∃ (it : Addr) (fp : List Addr) (tn : Nat -> Heap -> Prop) (J : It) (H' : Hp), itv = .ref it /\ Inv X pins σ H' s2 /\ Turn X.prog X.w X.K tg J fp it tn /\ tn 0 s2.heap /\ (∀ b ∈ fp, FpOk X pins H' b) /\ R J H'
noncomputable def PI (X : Cx) (tg iter : Expr) (wi : TI) : Prop :=
 ∀ (pins : List (Addr × Obj)) (s : Shared) (σ : St) (H : Hp) (R : It -> Hp -> Prop), Inv X pins σ H s -> wi σ H R ->
  wpAny (model X.prog X.w) X.A (eval iter X.env) (fun v s1 => wpAny (model X.prog X.w) X.A (pyIter v) (PIE X pins σ tg R) X.xe s1) X.xe s
theorem go_of {M : Model} {A : Around} {E : Value -> Shared -> Prop} {s : Shared} {tg : Expr} {it : Addr} {u : Value} {o : Obj} {n : String} {vs : Array Value} {Q : Unit -> Shared -> Prop} (ho : s.heap.get? it = some o) (hc : o.cls = .type n) (hd : o.data = .fields vs)
  (hn : ["enumerate", "zip", "dict_itemiterator", "dict_reverseitemiterator", "odict_iterator", "itertools.zip_longest", "itertools.pairwise"].contains n = false) (hQ : Q () s) : wpAny M A (letOwnedTupleGo tg (.ref it) u) Q E s := by
 unfold letOwnedTupleGo
 cases tg <;> first
  | exact wpAny_pure hQ
  | (cases u <;> first
    | exact wpAny_pure hQ
    | (refine wpAny_bind (wpAny_load ho ?_)
       rw [hc, hd]
       show wpAny M A (if (["enumerate", "zip", "dict_itemiterator", "dict_reverseitemiterator", "odict_iterator", "itertools.zip_longest", "itertools.pairwise"].contains n && vs[0]? == some (rawInt _)) = true then _ else _) Q E s
       rw [if_neg (by intro h; rw [hn, Bool.false_and] at h; cases h)]
       exact wpAny_pure hQ))
noncomputable def Itl (K : PySem.W.Frag) (a : Addr) : It :=
 ⟨fun i H => ∃ xs x, SqL K H a xs /\ xs[i]? = some x, fun i H x H' => H' = H /\ ∀ xs, SqL K H a xs -> xs[i]? = some x, fun i H => ∃ xs, SqL K H a xs /\ xs.length <= i⟩
noncomputable def Itr (lo : Int) (n : Nat) : It := ⟨fun i _ => i < n, fun i H x H' => H' = H /\ x = .int (lo + i), fun i _ => n <= i⟩
theorem turn_list {P : Program} {w : World} {K : PySem.W.Frag} {tg : Expr} (a it : Addr) : Turn P w K tg (Itl K a) [it] it (fun i h => h.IsListIter it a i) where
 mem := by simp
 obj := fun i h st b hb => by
  have e : b = it := by simpa using hb
  subst e
  obtain ⟨o, e, c, d⟩ := st
  exact ⟨o, e, fun v z => by rw [d] at z; cases z⟩
 keep := fun i h h' st k => st.at fun o e => k it (by simp) o e
 item := by
  intro X hP hw hK hc i pins s σ H E I hf st hg
  subst hP hw hK
  obtain ⟨xs, x, hq, hx⟩ := hg
  obtain ⟨its, rv, p, hz⟩ := I.list hq
  obtain ⟨u, hu, ru⟩ := rv.get hx
  obtain ⟨f0, f1, f2, f3, f4, f5⟩ := hf it (by simp)
  refine wpAny_pyNext_list_item st p.isList (x := u) (by simpa using hu) fun h' st' sb => ?_
  have I1 : Inv X pins σ H { s with heap := h' } := I.turned (t' := s.toks) (fun b o hb e => (sb.2 b hb).trans e) f0 f1 f3 f4 f5
  obtain ⟨o, e, c, d⟩ := id st'
  exact ⟨u, rfl, go_of (s := { s with heap := h' }) e c d (by decide) ⟨x, H, I1, ru, ⟨rfl, fun ys hy => by rw [I.list_inj hy hq]; exact hx⟩, st', fun b hb => (hf b hb).1⟩⟩
 done := by
  intro X hP hw hK hc i pins s σ H E I hf st hg
  subst hP hw hK
  obtain ⟨xs, hq, hx⟩ := hg
  obtain ⟨its, rv, p, hz⟩ := I.list hq
  obtain ⟨f0, f1, f2, f3, f4, f5⟩ := hf it (by simp)
  have hl := rv.length
  exact wpAny_pyNext_list_end (I.ok.hd hc) st p.isList (by simp; omega) fun h' eb => ⟨rfl, I.turned (t' := s.toks) (fun b o hb e => eb b o hb e) f0 f1 f3 f4 f5⟩
 self := fun _ _ _ _ _ st h => wpAny_pyIter_listiter st h
theorem turn_range {P : Program} {w : World} {K : PySem.W.Frag} {tg : Expr} (it : Addr) (lo : Int) (n : Nat) : Turn P w K tg (Itr lo n) [it] it (fun i h => IsRangeIter h it (lo + (i : Nat) * 1) ((n : Int) - (i : Nat)) 1) where
 mem := by simp
 obj := fun i h st b hb => by
  have e : b = it := by simpa using hb
  subst e
  exact ⟨_, st, fun v z => by
   have z' : Data.fields _ = Data.cell v := z
   cases z'⟩
 keep := fun i h h' st k => k it (by simp) _ st
 item := by
  intro X hP hw hK hc i pins s σ H E I hf st hg
  subst hP hw hK
  obtain ⟨f0, f1, f2, f3, f4, f5⟩ := hf it (by simp)
  have W := Walks.range (prog := X.prog) (w := X.w) (I.ok.hd hc) it lo 1 n
  refine W.item i s _ _ hg st fun v h' tk hv st' kk => ?_
  obtain ⟨t, rfl⟩ := hv
  have I1 : Inv X pins σ H { s with heap := h', toks := tk } := I.turned (fun b o hb e => kk b o (by simpa using hb) e) f0 f1 f3 f4 f5
  refine ⟨_, rfl, go_of (s := { s with heap := h', toks := tk }) (n := "range_iterator") st' rfl rfl (by decide) ⟨.int (lo + i), H, I1, ⟨t, ?_⟩, ⟨rfl, rfl⟩, st', fun b hb => (hf b hb).1⟩⟩
  rw [Int.mul_one]
 done := by
  intro X hP hw hK hc i pins s σ H E I hf st hg
  subst hP hw hK
  obtain ⟨f0, f1, f2, f3, f4, f5⟩ := hf it (by simp)
  exact wpAny_pyNext_range_end (I.ok.hd hc) st (by have : n <= i := hg; omega) fun h' eb => ⟨rfl, I.turned (t' := s.toks) (fun b o hb e => eb b o hb e) f0 f1 f3 f4 f5⟩
 self := fun _ _ _ _ _ st h => wpAny_pyIter_rangeiter st h
end L2
namespace L2
open PySem PySem.Spec PyProof.Rows
section
variable {X : Cx} {tg : Expr}
noncomputable def iList (K : PySem.W.Frag) (tl : TE) : TI := fun σ H R => tl σ H fun x H1 => ∃ a, x = .ref a /\ (∃ xs, SqL K H1 a xs) /\ R (Itl K a) H1
theorem pi_list {l : Expr} {tl : TE} (hl : PE X l tl) : PI X tg l (iList X.K tl) := by
 intro pins s σ H R I h
 refine thn (hl pins s σ H _ I h) fun v s1 hpat => ?_
 obtain ⟨x, H1, I1, r1, q1⟩ := hpat
 obtain ⟨a, e, ⟨xs, hq⟩, q⟩ := q1
 subst e
 cases r1
 obtain ⟨its, rv, p, hz⟩ := I1.list hq
 refine wpAny_pyIter_list p.isList ?_
 refine ⟨s1.heap.objs.size, [s1.heap.objs.size], _, _, H1, rfl, I1.kept (t' := s1.toks) fun b o e => Heap.get?_push_of_some _ e, turn_list a _, ⟨_, Heap.get?_push_size _ rfl, rfl, rfl⟩, fun b hb => ?_, q⟩
 have e : b = s1.heap.objs.size := by simpa using hb
 subst e
 exact I1.fpOk (Nat.le_refl _) (I1.hok.fresh (Nat.le_refl _))
theorem range_it {pins : List (Addr × Obj)} {σ : St} {H : Hp} {s : Shared} {R : It -> Hp -> Prop} {E : Value -> Shared -> Prop} {lo hi : Int} {t u v : Tok} {tk : Nat} (I : Inv X pins σ H s) (h1 : -(2 ^ 62) <= lo) (h2 : lo < 2 ^ 62) (h3 : -(2 ^ 62) <= hi) (h4 : hi < 2 ^ 62)
  (q : R (Itr lo (hi - lo).toNat) H) : wpAny (model X.prog X.w) X.A (pyIter (.ref s.heap.objs.size)) (PIE X pins σ tg R) E { s with heap := s.heap.push { cls := .type "range", data := .fields #[.int lo t, .int hi u, .int 1 v] }, toks := tk } := by
 refine wpAny_pyIter_range (IsRange.new ..) (small_one h1 h2 h3 h4) ?_
 have I1 : Inv X pins σ H { s with heap := s.heap.push { cls := .type "range", data := .fields #[.int lo t, .int hi u, .int 1 v] }, toks := tk } := I.kept fun b o e => Heap.get?_push_of_some _ e
 refine ⟨(s.heap.push { cls := .type "range", data := .fields #[.int lo t, .int hi u, .int 1 v] }).objs.size, [(s.heap.push { cls := .type "range", data := .fields #[.int lo t, .int hi u, .int 1 v] }).objs.size], _, _, H, rfl,
  I1.kept (t' := tk) fun b o e => Heap.get?_push_of_some _ e, turn_range _ lo (hi - lo).toNat, ?_, fun b hb => ?_, q⟩
 ·have e1 : lo + ((0 : Nat) : Int) * 1 = lo := by simp
  have e2 : (((hi - lo).toNat : Nat) : Int) - ((0 : Nat) : Int) = Builtin.Range.rangeSize lo hi 1 := by rw [rangeSize_one]; split <;> omega
  show IsRangeIter _ _ (lo + ((0 : Nat) : Int) * 1) ((((hi - lo).toNat : Nat) : Int) - ((0 : Nat) : Int)) 1
  rw [e1, e2]
  exact Heap.get?_push_size _ rfl
 ·have e : b = (s.heap.push { cls := .type "range", data := .fields #[.int lo t, .int hi u, .int 1 v] }).objs.size := by simpa using hb
  subst e
  exact I1.fpOk (Nat.le_refl _) (I1.hok.fresh (Nat.le_refl _))
noncomputable def iRng1 (ta : TA) : TI := fun σ H R => ta σ H fun vs H1 => ∃ j : Int, vs = [.int j] /\ -(2 ^ 62) <= j /\ j < 2 ^ 62 /\ R (Itr 0 j.toNat) H1
noncomputable def iRng2 (ta : TA) : TI := fun σ H R => ta σ H fun vs H1 => ∃ i j : Int, vs = [.int i, .int j] /\ (-(2 ^ 62) <= i /\ i < 2 ^ 62 /\ -(2 ^ 62) <= j /\ j < 2 ^ 62) /\ R (Itr i (j - i).toNat) H1
theorem pi_range1 {a : Expr} {ta : TA} {p pos : Pos} (hg : Gl X "range") (hm : X.mg "range" = none) (ha : PA X [a] ta) (hs : starEach [a] X.env = [(false, eval a X.env)] := by rfl) : PI X tg (.Call (.Name "range" p) [a] [] pos) (iRng1 ta) := by
 intro pins s σ H R I h
 refine Call_ (ld_blt I hg hm boot_range (PyProof.Rows.callWith_type1 (thn (ha pos pins s σ H _ I h) fun us s1 hpat => ?_) hs rfl))
 obtain ⟨vs, H1, I1, r1, q1⟩ := hpat
 obtain ⟨j, e, q1, q2, q⟩ := q1
 subst e
 cases r1 with
 | cons r rr =>
  cases rr
  obtain ⟨t, rfl⟩ := r
  exact call_range_1 (range_it I1 (by omega) (by omega) q1 q2 (by simpa using q))
theorem pi_range2 {a b : Expr} {ta : TA} {p pos : Pos} (hg : Gl X "range") (hm : X.mg "range" = none) (ha : PA X [a, b] ta) (hs : starEach [a, b] X.env = [(false, eval a X.env), (false, eval b X.env)] := by rfl) (hs2 : starEach [b] X.env = [(false, eval b X.env)] := by rfl) :
  PI X tg (.Call (.Name "range" p) [a, b] [] pos) (iRng2 ta) := by
 intro pins s σ H R I h
 refine Call_ (ld_blt I hg hm boot_range (PyProof.Rows.callWith_type1 (thn (ha pos pins s σ H _ I h) fun us s1 hpat => ?_) (by rw [hs, hs2]) (by rw [hs2]; rfl)))
 obtain ⟨vs, H1, I1, r1, q1⟩ := hpat
 obtain ⟨i, j, e, ⟨q1, q2, q3, q4⟩, q⟩ := q1
 subst e
 cases r1 with
 | cons r rr =>
  cases rr with
  | cons r' rr =>
   cases rr
   obtain ⟨t, rfl⟩ := r
   obtain ⟨t', rfl⟩ := r'
   exact call_range_2 (range_it I1 q1 q2 q3 q4 q)
noncomputable def tFor (wi : TI) (g : TG) (tb : TS) : TS := fun D σ H => wi σ H fun J H1 => ∃ W : Nat -> Nat -> St -> Hp -> Prop, (∃ m, W 0 m σ H1) /\ ∀ i m σ H, W i m σ H ->
 (J.stop i H /\ D.nx σ H) \/ (J.go i H /\ ∃ N : St -> Hp -> Prop, (∀ σ' H', N σ' H' -> ∃ m', m' < m /\ W (i + 1) m' σ' H') /\ ∀ x H', J.yld i H x H' -> g x σ H' fun σ2 H2 => tb { D with nx := N, ct := N, bk := D.nx } σ2 H2)
noncomputable def pinsAt (fp : List Addr) (h : Heap) : List (Addr × Obj) := fp.filterMap fun b => (h.get? b).map fun o => (b, o)
theorem mem_pinsAt {fp : List Addr} {h : Heap} {b : Addr} {o : Obj} (hb : b ∈ fp) (e : h.get? b = some o) : (b, o) ∈ pinsAt fp h := List.mem_filterMap.mpr ⟨b, hb, by rw [e]; rfl⟩
theorem of_pinsAt {fp : List Addr} {h : Heap} {p : Addr × Obj} (hp : p ∈ pinsAt fp h) : p.1 ∈ fp /\ h.get? p.1 = some p.2 := by
 obtain ⟨b, hb, e⟩ := List.mem_filterMap.mp hp
 cases q : h.get? b with
 | none => rw [q] at e; cases e
 | some o =>
  rw [q] at e
  have e' : (b, o) = p := Option.some.inj e
  subst e'
  exact ⟨hb, q⟩
theorem Inv.pinned {pins : List (Addr × Obj)} {σ : St} {H : Hp} {s : Shared} {fp : List Addr} (I : Inv X pins σ H s) (hf : ∀ b ∈ fp, FpOk X pins H b) (ho : ∀ b ∈ fp, ∃ o, s.heap.get? b = some o /\ ∀ v, o.data ≠ .cell v) : Inv X (pins ++ pinsAt fp s.heap) σ H s :=
 I.pins_of fun p hp => (List.mem_append.mp hp).elim (fun z => I.pin p (List.mem_append_right _ z)) fun z => by
  obtain ⟨hb, e⟩ := of_pinsAt z
  obtain ⟨f0, f1, f2, _⟩ := hf p.1 hb
  obtain ⟨o, e', d⟩ := ho p.1 hb
  rw [e] at e'; cases e'
  exact ⟨e, f0, f1, f2, d⟩
theorem Inv.unpinned {pins pl : List (Addr × Obj)} {σ : St} {H : Hp} {s : Shared} (I : Inv X (pins ++ pl) σ H s) : Inv X pins σ H s := I.pins_of fun p hp => I.pin p (List.mem_append_right _ (List.mem_append_left _ hp))
theorem ps_for {iter : Expr} {body : List Stmt} {wi : TI} {g : TG} {tb : TS} {pos : Pos} (hp : PassesOwn (model X.prog X.w) X.A X.env X.xe) (hc : X.calm = true) (hi : PI X tg iter wi) (hg : PG X tg g) (hb : PSs X body tb)
  (hs : ∀ x, foldedSetIterable iter X.env x = pure x := by intro _; rfl) : PS X (.For tg iter body [] pos) (tFor wi g tb) := by
 intro pins s σ H D I h
 refine wpAny_For (thn (hi pins s σ H _ I h) fun v s1 h1 => thn h1 fun itv s2 h2 => ?_) hs
 obtain ⟨it, fp, tn, J, H2, e, I2, T, st2, f2, W, ⟨m0, w0⟩, turn⟩ := h2
 subst e
 have stat : ∀ {H' : Hp}, (∀ b ∈ fp, H' b = none) -> ∀ b ∈ fp, FpOk X pins H' b := fun hn b hb => ⟨hn b hb, (f2 b hb).2⟩
 refine codeAny_forLoop_any (fun n s' => ∃ i σ' H', Inv X pins σ' H' s' /\ tn i s'.heap /\ (∀ b ∈ fp, H' b = none) /\ W i n σ' H') ?_ m0 ⟨0, σ, H2, I2, st2, fun b hb => (f2 b hb).1, w0⟩
 rintro n s3 ⟨i, σ3, H3, I3, st3, fr3, w3⟩
 rcases turn i n σ3 H3 w3 with ⟨stop, qn⟩ | ⟨go, N, hN, step⟩
 ·refine wpAny_passesOwn hp (thn (T.done X rfl rfl rfl hc i pins s3 σ3 H3 X.xe I3 (stat fr3) st3 stop) fun r s4 ⟨hr, I4⟩ => ?_)
  subst hr
  exact wpAny_execs_nil ⟨σ3, H3, I4, qn⟩
 ·refine wpAny_passesOwn hp (thn (T.item X rfl rfl rfl hc i pins s3 σ3 H3 X.xe I3 (stat fr3) st3 go) fun r s4 ⟨u, hr, h4⟩ => ?_)
  subst hr
  refine wpAny_passesOwn hp (thn h4 fun _ s5 hpat => ?_)
  obtain ⟨x, H5, I5, r5, y5, st5, fr5⟩ := hpat
  have I5' := I5.pinned (stat fr5) (T.obj _ _ st5)
  refine wpAny_passesOwn hp (thn (hg _ s5 σ3 H5 x u _ I5' r5 (step x H5 y5)) fun _ s6 hpat => ?_)
  obtain ⟨σ6, H6, I6, q6⟩ := hpat
  refine wpAny_passesOwn hp (thn (hb _ s6 σ6 H6 _ I6 q6) fun f s7 q7 => ?_)
  have again : ∀ {σ7 : St} {H7 : Hp}, Inv X (pins ++ pinsAt fp s5.heap) σ7 H7 s7 -> N σ7 H7 -> ∃ m, m < n /\ ∃ i σ' H', Inv X pins σ' H' s7 /\ tn i s7.heap /\ (∀ b ∈ fp, H' b = none) /\ W i m σ' H' := fun {σ7 H7} I7 n7 => by
   obtain ⟨m', hm, w7⟩ := hN σ7 H7 n7
   refine ⟨m', hm, i + 1, σ7, H7, I7.unpinned, T.keep _ _ _ st5 fun b hb o e => (I7.pin (b, o) (List.mem_append_right _ (List.mem_append_right _ (mem_pinsAt hb e)))).1, fun b hb => ?_, w7⟩
   obtain ⟨o, e, d⟩ := T.obj _ _ st5 b hb
   exact (I7.pin (b, o) (List.mem_append_right _ (List.mem_append_right _ (mem_pinsAt hb e)))).2.1
  cases f with
  | next => obtain ⟨σ7, H7, I7, n7⟩ := q7; exact again I7 n7
  | cont => obtain ⟨σ7, H7, I7, n7⟩ := q7; exact again I7 n7
  | brk => obtain ⟨σ7, H7, I7, q7⟩ := q7; exact ⟨σ7, H7, I7.unpinned, q7⟩
  | ret v => obtain ⟨x7, σ7, H7, I7, r7, q7⟩ := q7; exact ⟨x7, σ7, H7, I7.unpinned, r7, q7⟩
end
end L2
namespace L2
open PySem PySem.Spec PyProof.Rows
noncomputable abbrev R2 := V -> V -> Hp -> VK -> Prop
noncomputable def OpR (X : Cx) (f : Value -> Value -> Sem Value) (r : R2) : Prop :=
 ∀ (pins : List (Addr × Obj)) (s : Shared) (σ : St) (H : Hp) (x y : V) (v u : Value) (Q : VK), Inv X pins σ H s -> RelV x v -> RelV y u -> r x y H Q ->
  wpAny (model X.prog X.w) X.A (f v u) (EP X pins σ Q) X.xe s
noncomputable def UnR (X : Cx) (f : Value -> Sem Value) (r : V -> Hp -> VK -> Prop) : Prop :=
 ∀ (pins : List (Addr × Obj)) (s : Shared) (σ : St) (H : Hp) (x : V) (v : Value) (Q : VK), Inv X pins σ H s -> RelV x v -> r x H Q ->
  wpAny (model X.prog X.w) X.A (f v) (EP X pins σ Q) X.xe s
noncomputable def CallR (X : Cx) (f : Value) (r : List V -> Hp -> VK -> Prop) : Prop :=
 ∀ (pins : List (Addr × Obj)) (s : Shared) (σ : St) (H : Hp) (xs : List V) (us : List Value) (Q : VK), Inv X pins σ H s -> Vals xs us -> r xs H Q ->
  wpAny (model X.prog X.w) X.A (call f us) (EP X pins σ Q) X.xe s
noncomputable def tOp (r : R2) (ta tb : TE) : TE := fun σ H Q => ta σ H fun x H1 => tb σ H1 fun y H2 => r x y H2 Q
noncomputable def tUn (r : V -> Hp -> VK -> Prop) (ta : TE) : TE := fun σ H Q => ta σ H fun x H1 => r x H1 Q
noncomputable def rI (C : Int -> Int -> Prop) (g : Int -> Int -> V) : R2 := fun x y H Q => ∃ i j, x = .int i /\ y = .int j /\ C i j /\ Q (g i j) H
noncomputable def rI0 (g : Int -> Int -> V) : R2 := fun x y H Q => ∃ i j, x = .int i /\ y = .int j /\ Q (g i j) H
noncomputable def rU (g : Int -> V) : V -> Hp -> VK -> Prop := fun x H Q => ∃ i, x = .int i /\ Q (g i) H
section
variable {X : Cx} {a b c : Expr} {ta tb tc : TE} {pos : Pos}
theorem binT (ha : PE X a ta) (hb : PE X b tb) {pins : List (Addr × Obj)} {s : Shared} {σ : St} {H : Hp} {R : V -> V -> Hp -> Prop} (I : Inv X pins σ H s)
  (h : ta σ H fun x H1 => tb σ H1 fun y H2 => R x y H2) {Q : Value -> Shared -> Prop} {f : Value -> Value -> Sem Value}
  (hf : ∀ v u s2 x y H2, Inv X pins σ H2 s2 -> RelV x v -> RelV y u -> R x y H2 -> wpAny (model X.prog X.w) X.A (f v u) Q X.xe s2) :
  wpAny (model X.prog X.w) X.A (eval a X.env) (fun v s₁ => wpAny (model X.prog X.w) X.A (eval b X.env) (fun u s₂ => wpAny (model X.prog X.w) X.A (f v u) Q X.xe s₂) X.xe s₁) X.xe s := by
 refine thn (ha pins s σ H _ I h) fun v s1 hpat => ?_
 obtain ⟨x, H1, I1, r1, q1⟩ := hpat
 refine thn (hb pins s1 σ H1 _ I1 q1) fun u s2 hpat => ?_
 obtain ⟨y, H2, I2, r2, q2⟩ := hpat
 exact hf v u s2 x y H2 I2 r1 r2 q2
theorem pe_op {op : Operator} {r : R2} (ho : OpR X (binaryOp op) r) (ha : PE X a ta) (hb : PE X b tb) : PE X (.BinOp a op b pos) (tOp r ta tb) := by
 intro pins s σ H Q I h
 exact wpAny_BinOp (binT ha hb I h fun v u s2 x y H2 I2 rx ry q => ho pins s2 σ H2 x y v u Q I2 rx ry q)
theorem pe_un {op : UnaryOp} {r : V -> Hp -> VK -> Prop} (ho : UnR X (unaryOp op) r) (ha : PE X a ta) : PE X (.UnaryOp op a pos) (tUn r ta) := by
 intro pins s σ H Q I h
 exact UnaryOp_ (thn (ha pins s σ H _ I h) fun v s1 ⟨x, H1, I1, r1, q1⟩ => ho pins s1 σ H1 x v Q I1 r1 q1)
theorem opI {f : Value -> Value -> Sem Value} {C : Int -> Int -> Prop} {g : Int -> Int -> Int}
  (rule : ∀ (i j : Int) (t u : Tok) (s : Shared) (Q : Value -> Shared -> Prop) (E : Value -> Shared -> Prop), C i j -> Q (.int (g i j) s.toks) { s with toks := s.toks + 1 } -> wpAny (model X.prog X.w) X.A (f (.int i t) (.int j u)) Q E s) :
  OpR X f (rI C fun i j => .int (g i j)) := by
 intro pins s σ H x y v u Q I rx ry h
 obtain ⟨i, j, rfl, rfl, hc, q⟩ := h
 obtain ⟨t, rfl⟩ := rx
 obtain ⟨t', rfl⟩ := ry
 exact rule i j t t' s _ _ hc ⟨.int (g i j), H, I.tok _, ⟨_, rfl⟩, q⟩
theorem opI0 {f : Value -> Value -> Sem Value} {g : Int -> Int -> Int}
  (rule : ∀ (i j : Int) (t u : Tok) (s : Shared) (Q : Value -> Shared -> Prop) (E : Value -> Shared -> Prop), Q (.int (g i j) s.toks) { s with toks := s.toks + 1 } -> wpAny (model X.prog X.w) X.A (f (.int i t) (.int j u)) Q E s) :
  OpR X f (rI0 fun i j => .int (g i j)) := by
 intro pins s σ H x y v u Q I rx ry h
 obtain ⟨i, j, rfl, rfl, q⟩ := h
 obtain ⟨t, rfl⟩ := rx
 obtain ⟨t', rfl⟩ := ry
 exact rule i j t t' s _ _ ⟨.int (g i j), H, I.tok _, ⟨_, rfl⟩, q⟩
theorem opB0 {f : Value -> Value -> Sem Value} {g : Int -> Int -> Bool}
  (rule : ∀ (i j : Int) (t u : Tok) (s : Shared) (Q : Value -> Shared -> Prop) (E : Value -> Shared -> Prop), Q (.bool (g i j)) s -> wpAny (model X.prog X.w) X.A (f (.int i t) (.int j u)) Q E s) :
  OpR X f (rI0 fun i j => .bl (g i j)) := by
 intro pins s σ H x y v u Q I rx ry h
 obtain ⟨i, j, rfl, rfl, q⟩ := h
 obtain ⟨t, rfl⟩ := rx
 obtain ⟨t', rfl⟩ := ry
 exact rule i j t t' s _ _ ⟨.bl (g i j), H, I, rfl, q⟩
noncomputable def CDiv (i j : Int) : Prop := 0 < j /\ j < 1073741824
noncomputable def CPow (i j : Int) : Prop := 0 <= j /\ j <= 1000000 /\ i.natAbs < 2 ^ 64
noncomputable def CMul (i j : Int) : Prop := (-(2 ^ 64) < i /\ i < 2 ^ 64) \/ (-(2 ^ 64) < j /\ j < 2 ^ 64)
theorem CMul.ok {i j : Int} (h : CMul i j) : IntMulOk i j := by
 rcases h with ⟨h1, h2⟩ | ⟨h1, h2⟩
 ·exact .of_left (intBits_le_64 h1 h2)
 ·exact .of_right (intBits_le_64 h1 h2)
theorem op_add : OpR X (binaryOp .Add) (rI0 fun i j => .int (i + j)) := opI0 fun _ _ _ _ _ _ _ q => add_int q
theorem op_sub : OpR X (binaryOp .Sub) (rI0 fun i j => .int (i - j)) := opI0 fun _ _ _ _ _ _ _ q => sub_int q
theorem op_mul : OpR X (binaryOp .Mult) (rI CMul fun i j => .int (i * j)) := opI fun _ _ _ _ _ _ _ hc q => mul_int q hc.ok
theorem op_fdiv : OpR X (binaryOp .FloorDiv) (rI CDiv fun i j => .int (i / j)) := opI fun i j _ _ _ _ _ hc q => by
 have h1 : (0 : Int) < j := hc.1
 have h2 : j < 1073741824 := hc.2
 exact floordiv_int (by omega) (by rw [Int.fdiv_eq_ediv_of_nonneg i (by omega)]; exact q) (.inl (PyProof.noPylong_small (by omega)))
theorem op_mod : OpR X (binaryOp .Mod) (rI (fun _ j => 0 < j) fun i j => .int (i % j)) := opI fun i j _ _ _ _ _ hc q => by
 have h1 : (0 : Int) < j := hc
 exact mod_int' (by omega) (by rw [Int.fmod_eq_emod_of_nonneg i (by omega)]; exact q)
theorem op_pow : OpR X (binaryOp .Pow) (rI CPow fun i j => .int (i ^ j.toNat)) := opI fun _ _ _ _ _ _ _ hc q => pow_int_small hc.1 hc.2.1 hc.2.2 q
theorem unI {f : Value -> Sem Value} {g : Int -> Int}
  (rule : ∀ (i : Int) (t : Tok) (s : Shared) (Q : Value -> Shared -> Prop) (E : Value -> Shared -> Prop), Q (.int (g i) s.toks) { s with toks := s.toks + 1 } -> wpAny (model X.prog X.w) X.A (f (.int i t)) Q E s) :
  UnR X f (rU fun i => .int (g i)) := by
 intro pins s σ H x v Q I rx h
 obtain ⟨i, rfl, q⟩ := h
 obtain ⟨t, rfl⟩ := rx
 exact rule i t s _ _ ⟨.int (g i), H, I.tok _, ⟨_, rfl⟩, q⟩
theorem un_neg : UnR X (unaryOp .USub) (rU fun i => .int (-i)) := unI fun _ _ _ _ _ q => neg_int q
end
noncomputable def scal : V -> V -> Bool
 | .non, .non => true | .non, .int _ => true | .int _, .non => true | .non, .bl _ => true | .bl _, .non => true | .non, .str _ => true | .str _, .non => true
 | .int _, .int _ => true | .bl _, .bl _ => true | .str _, .str _ => true | .byt _, .byt _ => true
 | .int _, .str _ => true | .str _, .int _ => true | .bl _, .str _ => true | .str _, .bl _ => true
 | _, _ => false
noncomputable def rEq : R2 := fun x y H Q => scal x y = true /\ Q (.bl (decide (x = y))) H
theorem dec_int {i j : Int} : decide (V.int i = V.int j) = (i == j) := by
 rw [Bool.eq_iff_iff]
 simp
theorem dec_bl {i j : Bool} : decide (V.bl i = V.bl j) = (i == j) := by
 rw [Bool.eq_iff_iff]
 simp
theorem dec_str {i j : Str} : decide (V.str i = V.str j) = (i == j) := by
 rw [Bool.eq_iff_iff]
 simp
theorem dec_byt {i j : Array UInt8} : decide (V.byt i = V.byt j) = (i.toList == j.toList) := by
 rw [Bool.eq_iff_iff]
 cases i
 cases j
 simp
section
variable {X : Cx} {a b c : Expr} {ta tb tc : TE} {pos : Pos}
theorem fin_bl {pins : List (Addr × Obj)} {σ : St} {H : Hp} {s : Shared} {Q : VK} {k k' : Bool} (I : Inv X pins σ H s) (q : Q (.bl k) H) (e : k = k') : EP X pins σ Q (.bool k') s := by
 subst e
 exact ⟨.bl k, H, I, rfl, q⟩
theorem op_eq : OpR X (compareOp .Eq) rEq := by
 intro pins s σ H x y v u Q I rx ry h
 obtain ⟨hs, q⟩ := h
 cases x with
 | non =>
  cases rx
  cases y with
  | non => cases ry; exact PySem.EqNone.eq_none_none (fin_bl I q (by simp))
  | bl j => cases ry; exact PySem.EqNone.eq_none_bool (fin_bl I q (by simp))
  | int j => obtain ⟨t', rfl⟩ := ry; exact PySem.EqNone.eq_none_int (fin_bl I q (by simp))
  | str j => obtain ⟨t', rfl⟩ := ry; exact PySem.EqNone.eq_none_str (fin_bl I q (by simp))
  | _ => exact absurd (show false = true from hs) Bool.false_ne_true
 | bl i =>
  cases rx
  cases y with
  | non => cases ry; exact PySem.EqNone.eq_bool_none (fin_bl I q (by simp))
  | bl j => cases ry; exact eq_bool (fin_bl I q dec_bl)
  | str j => obtain ⟨t', rfl⟩ := ry; exact PySem.EqMixed.eq_bool_str (fin_bl I q (by simp))
  | _ => exact absurd (show false = true from hs) Bool.false_ne_true
 | int i =>
  obtain ⟨t, rfl⟩ := rx
  cases y with
  | non => cases ry; exact PySem.EqNone.eq_int_none (fin_bl I q (by simp))
  | int j => obtain ⟨t', rfl⟩ := ry; exact eq_int (fin_bl I q dec_int)
  | str j => obtain ⟨t', rfl⟩ := ry; exact PySem.EqMixed.eq_int_str (fin_bl I q (by simp))
  | _ => exact absurd (show false = true from hs) Bool.false_ne_true
 | str i =>
  obtain ⟨t, rfl⟩ := rx
  cases y with
  | non => cases ry; exact PySem.EqNone.eq_str_none (fin_bl I q (by simp))
  | bl j => cases ry; exact PySem.EqMixed.eq_str_bool (fin_bl I q (by simp))
  | int j => obtain ⟨t', rfl⟩ := ry; exact PySem.EqMixed.eq_str_int (fin_bl I q (by simp))
  | str j => obtain ⟨t', rfl⟩ := ry; exact eq_str (fin_bl I q dec_str)
  | _ => exact absurd (show false = true from hs) Bool.false_ne_true
 | byt i =>
  obtain ⟨t, rfl⟩ := rx
  cases y with
  | byt j => obtain ⟨t', rfl⟩ := ry; exact PySem.W.eq_bytes (fin_bl I q dec_byt)
  | _ => exact absurd (show false = true from hs) Bool.false_ne_true
 | _ => cases y <;> exact absurd (show false = true from hs) Bool.false_ne_true
theorem op_lt : OpR X (compareOp .Lt) (rI0 fun i j => .bl (decide (i < j))) := opB0 fun _ _ _ _ _ _ _ q => lt_int q
theorem op_ge : OpR X (compareOp .GtE) (rI0 fun i j => .bl (decide (j <= i))) := opB0 fun _ _ _ _ _ _ _ q => ge_int q
theorem OpR.or {f : Value -> Value -> Sem Value} {r r' : R2} (h : OpR X f r) (h' : OpR X f r') : OpR X f (fun x y H Q => r x y H Q \/ r' x y H Q) := by
 intro pins s σ H x y v u Q I rx ry q
 rcases q with q | q
 ·exact h pins s σ H x y v u Q I rx ry q
 ·exact h' pins s σ H x y v u Q I rx ry q
theorem nomark (b : Expr) {op : CmpOp} (h : op ≠ .In := by decide) (h2 : op ≠ .NotIn := by decide) : behindInMarks op b = false := by
 have e1 : (op == CmpOp.In) = false := by cases op <;> first | rfl | exact absurd rfl h
 have e2 : (op == CmpOp.NotIn) = false := by cases op <;> first | rfl | exact absurd rfl h2
 cases b <;> simp [behindInMarks, e1, e2]
theorem pe_cmpR {op : CmpOp} {r : R2} (ho : OpR X (compareOp op) r) (ha : PE X a ta) (hb : PE X b tb) (hm : behindInMarks op b = false) : PE X (.Compare a [op] [b] pos) (tOp r ta tb) := by
 intro pins s σ H Q I h
 exact wpAny_Compare1 (binT ha hb I h fun v u s2 x y H2 I2 rx ry q => ho pins s2 σ H2 x y v u Q I2 rx ry q) hm
noncomputable def tTest (t : TE) : TT := fun σ H Q => t σ H fun x H' => ∃ k, x = .bl k /\ Q k H'
theorem pt_cmpR {op : CmpOp} {r : R2} (ho : OpR X (compareOp op) r) (ha : PE X a ta) (hb : PE X b tb) (hm : behindInMarks op b = false) : PT X (.Compare a [op] [b] pos) (tTest (tOp r ta tb)) := by
 intro pins s σ H Q I h
 refine wpAny_isTrue_Compare1 (thn (ha pins s σ H _ I h) fun v s1 ⟨x, H1, I1, r1, q1⟩ => thn (hb pins s1 σ H1 _ I1 q1) fun u s2 ⟨y, H2, I2, r2, q2⟩ =>
  thn (ho pins s2 σ H2 x y v u _ I2 r1 r2 q2) fun c s3 ⟨z, H3, I3, r3, k, e, q3⟩ => ?_) hm
 subst e
 cases r3
 exact wpAny_truthy_bool ⟨H3, I3, q3⟩
theorem line63 : (sizeLine : Nat) < 2 ^ 63 := by rw [sizeLine_eq]; decide
theorem vals1 {x : V} {us : List Value} (r : Vals [x] us) : ∃ u, us = [u] /\ RelV x u := by
 cases r with
 | cons r1 r2 => cases r2; exact ⟨_, rfl, r1⟩
theorem vals2 {x y : V} {us : List Value} (r : Vals [x, y] us) : ∃ u w', us = [u, w'] /\ RelV x u /\ RelV y w' := by
 cases r with
 | cons r1 r2 =>
  cases r2 with
  | cons r3 r4 => cases r4; exact ⟨_, _, rfl, r1, r3⟩
theorem call_min2 (hc : X.calm = true) : CallR X (.builtin "min") (fun xs H Q => ∃ i j, xs = [.int i, .int j] /\ Q (.int (if j < i then j else i)) H) := by
 intro pins s σ H xs us Q I r h
 obtain ⟨i, j, rfl, q⟩ := h
 obtain ⟨u, w', rfl, ⟨t, rfl⟩, ⟨t', rfl⟩⟩ := vals2 r
 refine min_two_ints (I.ok.hd hc) fun h' tk k => ⟨_, H, I.kept k, ?_, q⟩
 by_cases hj : j < i
 ·rw [if_pos hj, if_pos hj]; exact ⟨_, rfl⟩
 ·rw [if_neg hj, if_neg hj]; exact ⟨_, rfl⟩
theorem call_int1 : CallR X (.type "int") (fun xs H Q => (∃ i, xs = [.int i] /\ Q (.int i) H) \/ ∃ k, xs = [.bl k] /\ Q (.int (if k then 1 else 0)) H) := by
 intro pins s σ H xs us Q I r h
 rcases h with ⟨i, rfl, q⟩ | ⟨k, rfl, q⟩
 ·obtain ⟨u, rfl, t, rfl⟩ := vals1 r
  exact call_int_int ⟨.int i, H, I, ⟨_, rfl⟩, q⟩
 ·obtain ⟨u, rfl, r1⟩ := vals1 r
  cases r1
  exact call_int_bool ⟨.int (if k then 1 else 0), H, I.tok _, ⟨_, rfl⟩, q⟩
end
end L2
namespace L2
open PySem PySem.Spec PyProof.Rows
structure ObjM (h : Heap) (x dx C : Addr) (mA : Str -> Option Value) : Prop where
 obj : h.get? x = some (PySem.W.instObj C dx)
 ns : h.Ns1 dx mA
 ne : dx ≠ x
section
variable {prog : Program} {w : World} {A : Around} {E : Value -> Shared -> Prop} {s : Shared} {K : PySem.W.Frag} {x dx C f : Addr} {mA : Str -> Option Value} {name : Str} {v : Value}
end
section
variable {P : Program} {w : World} {H H' : Hp} {h h' : Heap} {a C dx : Addr} {fs fs' : List (Str × V)}
end
structure Cls (K : PySem.W.Frag) (C : Addr) : Prop where
 pg : PySem.W.plainGet K C Str.empty = true
 hd : PySem.W.hasDictIn K C = true
 po : PySem.W.plainOver K C = true
 sa : PySem.W.findIn K (.ref C) "__setattr__" = some (some (.builtin "object.__setattr__"))
theorem Cls.get {K : PySem.W.Frag} {C : Addr} (c : Cls K C) (f : Str) : PySem.W.plainGet K C f = true := c.pg
structure Con (K : PySem.W.Frag) (C : Addr) (f : Str) (v : V) (u : Value) : Prop where
 at_ : PySem.W.findIn K (.ref C) f = some (some u)
 rel : RelV v u
 get : PySem.W.specialIn K u "__get__" = some none
 cp : PySem.W.copiedNames.contains f = false
structure Meth (K : PySem.W.Frag) (C : Addr) (m : Str) (f : Addr) : Prop where
 at_ : PySem.W.findIn K (.ref C) m = some (some (.ref f))
 fn : PySem.W.isFn K (.ref f) = true
 kp : PySem.W.keepIn K (.ref f) = true
section
variable {X : Cx} {pins : List (Addr × Obj)} {σ : St} {H : Hp} {s : Shared} {a C dx : Addr} {fs : List (Str × V)} {f : Str} {v : V} {A : Around} {E : Value -> Shared -> Prop}
end
section
variable {X : Cx} {o e value : Expr} {f : Str} {pos pos' tpos : Pos} {ta tv : TE}
end
section
variable {X : Cx} {pins : List (Addr × Obj)} {σ : St} {H : Hp} {s : Shared} {A : Around} {E : Value -> Shared -> Prop} {Q : Value -> Shared -> Prop} {c : Value} {b : Bool}
inductive TyOf (K : PySem.W.Frag) (H : Hp) : V -> Value -> Prop where
 | non : TyOf K H .non (.type "NoneType")
 | bl (x : Bool) : TyOf K H (.bl x) (.type "bool")
 | int (i : Int) : TyOf K H (.int i) (.type "int")
 | str (x : Str) : TyOf K H (.str x) (.type "str")
 | flt (x : UInt64) : TyOf K H (.flt x) (.type "float")
 | lst {a : Addr} {xs : List V} (e : H a = some (.lst xs)) : TyOf K H (.ref a) (.type "list")
 | frz {a : Addr} {o : Obj} {xs : List V} (e : H a = some (.frz o (.lst xs))) : TyOf K H (.ref a) (.type "list")
 | tup {a : Addr} {xs : List V} (e : H a = some (.tup xs)) : TyOf K H (.ref a) (.type "tuple")
 | dK {a : Addr} {kvs : List (Key × V)} (e : H a = some (.dK kvs)) : TyOf K H (.ref a) (.type "dict")
 | dT {a : Addr} {kvs : List (List Key × V)} (e : H a = some (.dT kvs)) : TyOf K H (.ref a) (.type "dict")
 | ins {a C dx : Addr} {fs : List (Str × V)} (e : H a = some (.ins C dx fs)) (cl : Cls K C) (ha : PySem.W.findIn K (.ref C) "__class__" = some (some (.builtin "object.__class__")))
   (hn : PySem.W.specialIn K (.builtin "object.__class__") "__get__" = some (some (.builtin "getset_descriptor.__get__"))) (htk : PySem.W.takesIn K (.builtin "object.__class__") = some true)
   (hm : PySem.W.mroIn K C (.type "object") = some true) : TyOf K H (.ref a) (.ref C)
end
end L2
namespace L2
open PySem PySem.Spec PyProof.Rows
structure Room (k : Nat) (A : Around) : Prop where
 hd : A.handled = none
 dp : A.depth + 3 * k + 5 < recursionLimit
 un : A.units + 16 * k + 200 < cLine
theorem Room.mono {j k : Nat} {A : Around} (r : Room k A) (h : j <= k) : Room j A := ⟨r.hd, by have := r.dp; omega, by have := r.un; omega⟩
theorem Room.deeper {k : Nat} {A : Around} (r : Room (k + 1) A) (env : Env) : Room k (A.deeper env) :=
 ⟨r.hd, by have := r.dp; show A.depth + 1 + 3 * k + 5 < _; omega, by have := r.un; show A.units + 3 + 16 * k + 200 < _; omega⟩
theorem Room.in1 {k : Nat} {A : Around} (r : Room (k + 1) A) : Room k A.in1 :=
 ⟨r.hd, by have := r.dp; show A.depth + 3 * k + 5 < _; omega, by have := r.un; show A.units + 1 + 16 * k + 200 < _; omega⟩
theorem Room.depth {k : Nat} {A : Around} (r : Room k A) : A.depth < recursionLimit := by have := r.dp; omega
theorem Room.units {k : Nat} {A : Around} (r : Room k A) : A.units + 64 < cLine := by have := r.un; omega
noncomputable def tNil : TA := fun _ H Q => Q [] H
noncomputable def tCons (ta : TE) (tr : TA) : TA := fun σ H Q => ta σ H fun x H1 => tr σ H1 fun xs H2 => Q (x :: xs) H2
section
variable {X : Cx} {e : Expr} {es : List Expr} {te : TE} {t : TA} {pos : Pos}
theorem pa_nil : PA X [] tNil := fun _ _ _ _ H Q I h => Calls.spliced_nil ⟨[], H, I, .nil, h⟩
theorem pa_cons (ha : PE X e te) (hr : PA X es t) (hs : starEach (e :: es) X.env = (false, eval e X.env) :: starEach es X.env := by rfl) : PA X (e :: es) (tCons te t) := by
 intro pos pins s σ H Q I h
 rw [hs]
 show wpAny _ _ (spliced ((false, eval e X.env) :: backTo pos (starEach es X.env))) _ _ s
 refine Calls.spliced_cons (thn (ha pins s σ H _ I h) fun u s1 hpat => ?_)
 obtain ⟨x, H1, I1, r1, q1⟩ := hpat
 exact thn (hr pos pins s1 σ H1 _ I1 q1) fun us s2 ⟨xs, H2, I2, r2, q2⟩ => ⟨x :: xs, H2, I2, .cons r1 r2, q2⟩
noncomputable def tTup (t : TA) : TE := fun σ H Q => t σ H fun xs H1 => xs.length <= sizeLine /\ ∀ p, H1 p = none -> Q (.ref p) (upd H1 p (.tup xs))
noncomputable def tLst (t : TA) : TE := fun σ H Q => t σ H fun xs H1 => xs.length <= sizeLine /\ ∀ p, H1 p = none -> Q (.ref p) (upd H1 p (.lst xs))
theorem pe_tup {x1} (h : PA X es t) : PE X (.Tuple es x1 pos) (tTup t) := by
 intro pins s σ H Q I hq
 refine wpAny_Tuple_spliced (thn (h pos pins s σ H _ I hq) fun us s1 ⟨xs, H1, I1, r, z, q⟩ => ⟨by rw [<- r.length]; exact z, ?_⟩)
 have hf : H1 s1.heap.objs.size = none := I1.hok.fresh (Nat.le_refl _)
 refine ⟨.ref s1.heap.objs.size, upd H1 s1.heap.objs.size (.tup xs), I1.laid (t' := s1.toks) (fun b u e => Heap.get?_push_of_some _ e) (Nat.le_refl _) ?_, rfl, q _ hf⟩
 exact ⟨z, us, r, ⟨_, Heap.get?_push_size _ rfl, rfl, _, rfl⟩⟩
theorem pe_lst (h : PA X es t) : PE X (.List es pos) (tLst t) := by
 intro pins s σ H Q I hq
 refine wpAny_List_spliced (thn (h pos pins s σ H _ I hq) fun us s1 ⟨xs, H1, I1, r, z, q⟩ => ⟨by rw [<- r.length]; exact z, ?_⟩)
 have hf : H1 s1.heap.objs.size = none := I1.hok.fresh (Nat.le_refl _)
 refine ⟨.ref s1.heap.objs.size, upd H1 s1.heap.objs.size (.lst xs), I1.laid (t' := s1.toks) (fun b u e => Heap.get?_push_of_some _ e) (Nat.le_refl _) ?_, rfl, q _ hf⟩
 exact ⟨z, us, 0, r, Heap.get?_push_size _ rfl⟩
end
noncomputable abbrev Sp := List V -> Hp -> VK -> XK -> Prop
noncomputable abbrev CXT := List Env -> Hp -> Shared -> XK -> Value -> Shared -> Prop
structure Env0 (P : Program) (w : World) (K : PySem.W.Frag) (mg : Str -> Option Value) (base : Heap) (A : Around) (outer : List Env) (s : Shared) (H : Hp) : Prop where
 frames : A.frames = some outer
 mod : Mod K mg base
 bs : ∀ b o, base.get? b = some o -> s.heap.get? b = some o /\ H b = none
 bsz : base.objs.size <= s.heap.objs.size
 funs : s.heap.FunFrames base outer
 frf : ∀ b ∈ frs outer, H b = none
 hok : HOk P w H s.heap
 bare : AllBare s.gens
noncomputable def CE (outer : List Env) (P : Program) (w : World) (H : Hp) (s : Shared) (Q : VK) (u : Value) (s' : Shared) : Prop :=
 ∃ v H', s'.os = s.os /\ AllBare s'.gens /\ Un (frs outer) [] H H' s.heap s'.heap /\ HOk P w H' s'.heap /\ RelV v u /\ Q v H'
noncomputable def CR (CX : CXT) (outer : List Env) (P : Program) (w : World) (H : Hp) (s : Shared) (Q : VK) (E : XK) (r : Result) (s' : Shared) : Prop :=
 match r with
 | .ok (.ret u) => CE outer P w H s Q u s'
 | .ok _ => False
 | .error e => CX outer H s E e s'
structure FnOk (P : Program) (w : World) (K : PySem.W.Frag) (mg : Str -> Option Value) (base : Heap) (CX : CXT) (k : Nat) (f : Addr) (fd : FuncData) (ps : List Str) (sp : Sp) : Prop where
 len : ∀ vs H Q E, sp vs H Q E -> vs.length = ps.length
 run : ∀ (A : Around) (outer : List Env) (s : Shared) (H : Hp) (args : Args) (us : List Value) (vs : List V) (Q : VK) (E : XK), Room k A -> Env0 P w K mg base A outer s H -> BindsTo s fd args (ps.zip us) -> Vals vs us -> sp vs H Q E ->
  codeAny (model P w) A (.call (.ref f) args) (CR CX outer P w H s Q E) s
theorem FnOk.mono {P : Program} {w : World} {K : PySem.W.Frag} {mg : Str -> Option Value} {base : Heap} {CX : CXT} {j k : Nat} {f : Addr} {fd : FuncData} {ps : List Str} {sp : Sp} (F : FnOk P w K mg base CX j f fd ps sp) (h : j <= k) :
  FnOk P w K mg base CX k f fd ps sp := ⟨F.len, fun A outer s H args us vs Q E hr => F.run A outer s H args us vs Q E (hr.mono h)⟩
theorem FnOk.imp {P : Program} {w : World} {K : PySem.W.Frag} {mg : Str -> Option Value} {base : Heap} {CX : CXT} {k : Nat} {f : Addr} {fd : FuncData} {ps : List Str} {sp sp' : Sp} (F : FnOk P w K mg base CX k f fd ps sp)
  (h : ∀ vs H Q E, sp' vs H Q E -> sp vs H Q E) : FnOk P w K mg base CX k f fd ps sp' :=
 ⟨fun vs H Q E q => F.len vs H Q E (h _ _ _ _ q), fun A outer s H args us vs Q E hr he hb hv hs => F.run A outer s H args us vs Q E hr he hb hv (h _ _ _ _ hs)⟩
theorem Env0.in1 {P : Program} {w : World} {K : PySem.W.Frag} {mg : Str -> Option Value} {base : Heap} {A : Around} {outer : List Env} {s : Shared} {H : Hp} (e : Env0 P w K mg base A outer s H) :
  Env0 P w K mg base A.in1 outer s H := ⟨e.frames, e.mod, e.bs, e.bsz, e.funs, e.frf, e.hok, e.bare⟩
section
variable {X : Cx} {pins : List (Addr × Obj)} {σ : St} {H : Hp} {s s' : Shared}
theorem Inv.env0 (I : Inv X pins σ H s) : Env0 X.prog X.w X.K X.mg X.base X.A X.stack s H :=
 ⟨I.ok.frames, I.ok.mod, I.bs, Nat.le_trans I.ok.bsz I.sz, I.stack, I.stkFree, I.hok, I.bare⟩
theorem Inv.after {Q : VK} {u : Value} (I : Inv X pins σ H s) (h : CE X.stack X.prog X.w H s Q u s') : EP X pins σ Q u s' := by
 obtain ⟨v, H', os, bare, un, hok, r, q⟩ := h
 obtain ⟨hh, g, d, t, os'⟩ := s'
 obtain rfl : os' = s.os := os
 exact ⟨v, H', I.call (h' := hh) (g' := g) (d' := d) (t' := t) (ch := []) un hok bare (fun b z => absurd z (by simp)), r, q⟩
end
noncomputable def tCall (sp : Sp) (dvs : List V) (E : XK) (t : TA) : TE := fun σ H Q => t σ H fun vs H1 => sp (vs ++ dvs) H1 Q E
noncomputable def Binds (K : PySem.W.Frag) (fd : FuncData) (ps : List Str) (ds : List Value) : Prop :=
 ∀ (s : Shared) (us : List Value), K.In s.heap -> (us ++ ds).length = ps.length -> BindsTo s fd ⟨us, []⟩ (ps.zip (us ++ ds))
theorem Binds.all {K : PySem.W.Frag} {fd : FuncData} {ps : List Str} (h : ∀ us : List Value, us.length = ps.length -> bindArgs fd ⟨us, []⟩ = pure (ps.zip us)) : Binds K fd ps [] := fun s us _ hl => by
 rw [List.append_nil] at hl ⊢
 exact .of_eq (h us hl)
noncomputable def Passes (CX : CXT) (X : Cx) (E : XK) : Prop := ∀ (pins : List (Addr × Obj)) (σ : St) (H : Hp) (s : Shared) (e : Value) (s' : Shared), Inv X pins σ H s -> CX X.stack H s E e s' -> X.xe e s'
section
variable {X : Cx} {CX : CXT} {k : Nat} {f C : Addr} {fd : FuncData} {ps : List Str} {sp : Sp} {dvs : List V} {ds : List Value} {E : XK} {x m : Str} {p pos apos : Pos} {e o : Expr} {es : List Expr} {ta : TE} {t : TA}
theorem run_fn {pins : List (Addr × Obj)} {σ : St} {H : Hp} {s : Shared} {Q : VK} {us : List Value} {vs : List V} (F : FnOk X.prog X.w X.K X.mg X.base CX k f fd ps sp) (hr : Room k X.A) (hb : Binds X.K fd ps ds) (hd : Vals dvs ds) (hx : Passes CX X E)
  (I : Inv X pins σ H s) (r : Vals vs us) (h : sp (vs ++ dvs) H Q E) : wpAny (model X.prog X.w) X.A (call (.ref f) us) (EP X pins σ Q) X.xe s := by
 have r2 : Vals (vs ++ dvs) (us ++ ds) := r.append hd
 have hl : (us ++ ds).length = ps.length := by rw [<- r2.length]; exact F.len _ _ _ _ h
 refine wpAny_call (codeAny_mono (F.run X.A X.stack s H ⟨us, []⟩ (us ++ ds) (vs ++ dvs) Q E hr I.env0 (hb s us I.kIn hl) r2 h) fun r s' hq => ?_)
 cases r with
 | error e => exact hx pins σ H s e s' I hq
 | ok fl =>
  cases fl with
  | ret u => exact I.after hq
  | next => exact False.elim hq
  | brk => exact False.elim hq
  | cont => exact False.elim hq
theorem pe_call (F : FnOk X.prog X.w X.K X.mg X.base CX k f fd ps sp) (hr : Room k X.A) (hg : Gl X x) (hm : X.mg x = some (.ref f)) (hk : PySem.W.keepIn X.K (.ref f) = true) (hb : Binds X.K fd ps ds) (hd : Vals dvs ds) (hx : Passes CX X E)
  (ha : PA X (e :: es) t) (hdb : (x == ("__debug__" : Str)) = false := by decide) (he : starEach (e :: es) X.env = (false, eval e X.env) :: starEach es X.env := by rfl) (hpl : (backTo pos (starEach es X.env)).any (·.1) = false := by rfl) :
  PE X (.Call (.Name x p) (e :: es) [] pos) (tCall sp dvs E t) := by
 intro pins s σ H Q I h
 refine wpAny_Call_Name_kw (ld_glob I hg hm ?_ hdb)
 refine PySem.W.callWith_K (h₀ := X.base) I.ok.mod.kin hk (thn (ha pos pins s σ H _ I h) fun us s1 ⟨vs, H1, I1, r, q⟩ => ⟨I1.kIn, ?_⟩) he hpl
 exact run_fn F hr hb hd hx I1 r q
structure Mk (K : PySem.W.Frag) (C f : Addr) : Prop where
 makes : PySem.W.makesIn K C = true
 init : PySem.W.findIn K (.ref C) "__init__" = some (some (.ref f))
 fn : PySem.W.isFn K (.ref f) = true
 kp : PySem.W.keepIn K (.ref C) = true
end
noncomputable def PK (X : Cx) (kws : List Keyword) (t : TA) : Prop :=
 ∀ (pos : Pos) (pins : List (Addr × Obj)) (s : Shared) (σ : St) (H : Hp) (Q : List V -> Hp -> Prop), Inv X pins σ H s -> t σ H Q -> wpAny (model X.prog X.w) X.A (evalAll ((backToKw pos (keywordEach kws X.env)).map (·.2))) (AP X pins σ Q) X.xe s
section
variable {X : Cx} {CX : CXT} {k : Nat} {f C : Addr} {fd : FuncData} {ps ks : List Str} {sp : Sp} {E : XK} {x m : Str} {p pos apos kpos : Pos} {e o : Expr} {es : List Expr} {kws : List Keyword} {te ta : TE} {t tk : TA} {nm : Option Str}
theorem pk_nil : PK X [] tNil := fun _ _ _ _ H Q I h => wpAny_evalAll_nil ⟨[], H, I, .nil, h⟩
theorem pk_cons (ha : PE X e te) (hr : PK X kws t) : PK X (⟨nm, e, kpos⟩ :: kws) (tCons te t) := by
 intro pos pins s σ H Q I h
 show wpAny _ _ (evalAll ((do let v ← eval e X.env; standAt pos; pure v) :: (backToKw pos (keywordEach kws X.env)).map (·.2))) _ _ s
 refine wpAny_evalAll_cons (wpAny_bind (thn (ha pins s σ H _ I h) fun u s1 ⟨x, H1, I1, r1, q1⟩ => wpAny_bind (wpAny_standAt (wpAny_pure ?_))))
 exact thn (hr pos pins s1 σ H1 _ I1 q1) fun us s2 ⟨xs, H2, I2, r2, q2⟩ => ⟨x :: xs, H2, I2, .cons r1 r2, q2⟩
structure KBinds (K : PySem.W.Frag) (fd : FuncData) (ps ks : List Str) (g : List Value -> List Value -> List Value) (gV : List V -> List V -> List V) : Prop where
 to : ∀ (s : Shared) (us ws : List Value), K.In s.heap -> (g us ws).length = ps.length -> BindsTo s fd ⟨us, ks.zip ws⟩ (ps.zip (g us ws))
 rel : ∀ {vs : List V} {us : List Value} {zs : List V} {ws : List Value}, Vals vs us -> Vals zs ws -> Vals (gV vs zs) (g us ws)
variable {g : List Value -> List Value -> List Value} {gV : List V -> List V -> List V}
end
structure FnScope (N P : List Str) (sc : Scope) : Prop where
 kind : sc.kind = .function
 co : sc.isCoroutine = false
 gen : sc.isGenerator = false
 nd : N.Nodup
 pre : N.take P.length = P
 par : ∀ x ∈ P, sc.names.lookup x = some .local \/ sc.names.lookup x = some .cell
 nofree : ∀ y ∈ sc.names, y.2 ≠ .free
theorem bindL_out {kindOf : Str -> Option NameKind} {x : Str} : ∀ {binds : List (Str × Value)} {m : Str -> Option Value}, (∀ v, (x, v) ∉ binds) -> bindL kindOf binds m x = m x
 | [], _, _ => rfl
 | (n, v) :: r, m, h => by
  unfold bindL
  rw [bindL_out fun w hw => h w (List.mem_cons_of_mem _ hw)]
  split
  ·have : x ≠ n := by rintro rfl; exact h v List.mem_cons_self
   simp [this]
  ·rfl
theorem bindC_out {kindOf : Str -> Option NameKind} {x : Str} : ∀ {binds : List (Str × Value)} {m : Str -> Option Value}, (∀ v, (x, v) ∉ binds) -> bindC kindOf binds m x = m x
 | [], _, _ => rfl
 | (n, v) :: r, m, h => by
  unfold bindC
  rw [bindC_out fun w hw => h w (List.mem_cons_of_mem _ hw)]
  split
  ·rfl
  ·have : x ≠ n := by rintro rfl; exact h v List.mem_cons_self
   simp [this]
theorem bindL_get {kindOf : Str -> Option NameKind} {x : Str} {v : Value} : ∀ {P : List Str} {vs : List Value} {i : Nat} {m : Str -> Option Value}, P.Nodup -> P[i]? = some x -> vs[i]? = some v -> kindOf x = some .local ->
  bindL kindOf (P.zip vs) m x = some v
 | [], _, _, _, _, h, _, _ => by simp at h
 | _ :: _, [], _, _, _, _, h, _ => by simp at h
 | p :: P, w :: vs, 0, m, nd, h1, h2, hk => by
  simp at h1 h2; subst h1; subst h2
  show bindL kindOf ((p, w) :: P.zip vs) m p = _
  unfold bindL
  rw [bindL_out fun v hv => (List.nodup_cons.mp nd).1 (List.of_mem_zip hv).1, if_pos hk]
  simp
 | p :: P, w :: vs, i + 1, m, nd, h1, h2, hk => by
  show bindL kindOf ((p, w) :: P.zip vs) m x = _
  unfold bindL
  exact bindL_get (i := i) (List.nodup_cons.mp nd).2 (by simpa using h1) (by simpa using h2) hk
theorem bindC_get {kindOf : Str -> Option NameKind} {x : Str} {v : Value} : ∀ {P : List Str} {vs : List Value} {i : Nat} {m : Str -> Option Value}, P.Nodup -> P[i]? = some x -> vs[i]? = some v -> kindOf x ≠ some .local ->
  bindC kindOf (P.zip vs) m x = some v
 | [], _, _, _, _, h, _, _ => by simp at h
 | _ :: _, [], _, _, _, _, h, _ => by simp at h
 | p :: P, w :: vs, 0, m, nd, h1, h2, hk => by
  simp at h1 h2; subst h1; subst h2
  show bindC kindOf ((p, w) :: P.zip vs) m p = _
  unfold bindC
  rw [bindC_out fun v hv => (List.nodup_cons.mp nd).1 (List.of_mem_zip hv).1, if_neg hk]
  simp
 | p :: P, w :: vs, i + 1, m, nd, h1, h2, hk => by
  show bindC kindOf ((p, w) :: P.zip vs) m x = _
  unfold bindC
  exact bindC_get (i := i) (List.nodup_cons.mp nd).2 (by simpa using h1) (by simpa using h2) hk
noncomputable def start (N : List Str) (vs : List V) : St := vs.map some ++ List.replicate (N.length - vs.length) none
noncomputable def cxOf (CX : CXT) (P : Program) (w : World) (K : PySem.W.Frag) (mg : Str -> Option Value) (base : Heap) (N : List Str) (qual : Str) (scope : Scope) (f : Addr) (cd : Value) (A : Around) (outer : List Env) (s : Shared) (H : Hp) (E : XK) : Cx where
 prog := P
 w := w
 K := K
 mg := mg
 base := base
 A := A.deeper (envOfC qual scope s.heap.objs.size f cd)
 N := N
 s₀ := s
 H₀ := H
 env := envOfC qual scope s.heap.objs.size f cd
 outer := outer
 stack := envOfC qual scope s.heap.objs.size f cd :: outer
 ex := []
 calm := true
 fn := fun _ => true
 pn := []
 xe := fun e s' => wpAny (model P w) (A.deeper (envOfC qual scope s.heap.objs.size f cd)) (leaving (envOfC qual scope s.heap.objs.size f cd) e) (fun _ s'' => CX outer H s E e s'') (fun e' s'' => CX outer H s E e' s'') s'
theorem cell_has {sc : Scope} {n : Nat} {x : Str} (h : sc.names.lookup x = some .cell) : ∃ c, (cellsFrom n sc.names []).lookup x = some c := by
 have q := PySem.W.cellsFrom_some sc.names n [] (.inl h)
 exact Option.isSome_iff_exists.mp q
theorem inv_start {CX : CXT} {P : Program} {w : World} {K : PySem.W.Frag} {mg : Str -> Option Value} {base : Heap} {N ps : List Str} {qual : Str} {scope : Scope} {f : Addr} {cd : Value} {A : Around} {outer : List Env} {s s1 : Shared} {H : Hp} {E : XK} {us : List Value} {vs : List V}
  (S : FnScope N ps scope) (hd : A.handled = none) (e0 : Env0 P w K mg base A outer s H) (hl : vs.length = ps.length) (r : Vals vs us)
  (x : InCallC s s.heap.objs.size (bindL (envOfC qual scope s.heap.objs.size f cd).kindOf (ps.zip us) fun _ => none) (cellsFrom (s.heap.objs.size + 1) scope.names []) (bindC (envOfC qual scope s.heap.objs.size f cd).kindOf (ps.zip us) fun _ => none) s1) :
  Inv (cxOf CX P w K mg base N qual scope f cd A outer s H E) [] (start N vs) H s1 := by
 have hpl : ps.length <= N.length := by have := congrArg List.length S.pre; rw [List.length_take] at this; omega
 obtain ⟨h1, tk, rfl, hk⟩ := x.done
 have noA : ∀ b : Addr, b ∉ (cxOf CX P w K mg base N qual scope f cd A outer s H E).ex := fun b z => absurd (show b ∈ ([] : List Addr) from z) (by simp)
 refine ⟨⟨e0.mod, S.kind, rfl, rfl, Nat.le_refl _, fun y z c h1 h2 => ?_, fun y hy => ?_, fun y c _ h => ?_, fun _ => hd, Around.frames_deeper e0.frames, .inr ⟨rfl, rfl⟩, fun b z => absurd z (noA b), e0.bs, e0.bsz, fun b _ _ => noA b, fun b z => absurd z (noA b), e0.funs, e0.frf⟩,
  rfl, e0.bare, Un.kept hk, ⟨_, x.toInCall.ns, fun i y v h1 h2 h3 => ?_⟩, fun y c h => ⟨_, x.cell y c h⟩, e0.hok.fresh (Nat.le_refl _), fun y c h => ?_, fun p hp => absurd (show p ∈ ([] : List (Addr × Obj)) from hp) (by simp), e0.hok.kept hk, ?_⟩
 ·exact name_of_addr x.apart (PySem.mem_of_lookup h1) (PySem.mem_of_lookup h2)
 ·have hy : scope.names.lookup y = some .cell \/ scope.names.lookup y = some .free := hy
  rcases hy with hy | hy
  ·exact cell_has hy
  ·exact absurd rfl (S.nofree _ (PySem.mem_of_lookup hy))
 ·exact Nat.le_of_lt (x.above y c (PySem.mem_of_lookup h))
 ·have hi : i < vs.length := by
   unfold start at h2
   by_cases hi : i < vs.length
   ·exact hi
   ·rw [List.getElem?_append_right (by simpa using hi)] at h2
    rw [List.getElem?_replicate] at h2
    split at h2 <;> cases h2
  have ha : vs[i]? = some v := by
   unfold start at h2
   rw [List.getElem?_append_left (by simpa using hi), List.getElem?_map] at h2
   cases e : vs[i]? with
   | none => rw [e] at h2; cases h2
   | some a => rw [e] at h2; cases h2; rfl
  obtain ⟨u, hu, rv⟩ := r.get ha
  have hp : ps[i]? = some y := by
   rw [<- S.pre, List.getElem?_take_of_lt (by omega)]; exact h1
  have ndP : ps.Nodup := by rw [<- S.pre]; exact S.nd.sublist (List.take_sublist _ _)
  refine ⟨u, rv, ?_⟩
  rcases S.par y (List.mem_of_getElem? hp) with k | k
  ·exact .inl ⟨k, bindL_get ndP hp hu k⟩
  ·obtain ⟨c, e⟩ := cell_has (n := s.heap.objs.size + 1) k
   refine .inr ⟨.inl k, c, e, ?_⟩
   have q := x.cell y c e
   rw [bindC_get ndP hp hu (by show scope.names.lookup y ≠ _; rw [k]; decide)] at q
   exact q
 ·exact e0.hok.fresh (Nat.le_of_lt (x.above y c (PySem.mem_of_lookup h)))
 ·unfold start
  show _ = N.length
  rw [List.length_append, List.length_map, List.length_replicate]
  omega
theorem fn_of {CX : CXT} {P : Program} {w : World} {K : PySem.W.Frag} {mg : Str -> Option Value} {base : Heap} {k : Nat} {f : Addr} {name qual : Str} {params : Arguments} {body : List Stmt} {scope : Scope} {dV kV doc pm cdv ct oc : Value} {an od : Option Addr}
  {osl : Array (Option Value)} {N ps : List Str} {sp : Sp} (lk : K.lookup f = some ⟨oc, od, .func (PySem.W.fnOf name qual params body scope dV kV doc pm an cdv ct), osl⟩) (hcd : PySem.W.codeIn K cdv qual = true) (S : FnScope N ps scope)
  (len : ∀ vs H Q E, sp vs H Q E -> vs.length = ps.length)
  (hbody : ∀ (A : Around) (outer : List Env) (s : Shared) (H : Hp) (vs : List V) (Q : VK) (E : XK), Room k (A.deeper (envOfC qual scope s.heap.objs.size f cdv)) -> sp vs H Q E ->
   ∃ t, PSs (cxOf CX P w K mg base N qual scope f cdv A outer s H E) body t /\ t { nx := fun _ H' => Q .non H', rt := Q } (start N vs) H) :
  FnOk P w K mg base CX (k + 1) f (PySem.W.fnOf name qual params body scope dV kV doc pm an cdv ct) ps sp := by
 refine ⟨len, fun A outer s H args us vs Q E hr e0 hb r hsp => ?_⟩
 have hl := len _ _ _ _ hsp
 have KX : K.In s.heap := e0.mod.kin.keeps fun b o e => (e0.bs b o e).1
 have lim : s.heap.NoLimit := e0.mod.nolimit.keeps fun b o e => (e0.bs b o e).1
 have hkind : ∀ y ∈ ps.zip us, scope.names.lookup y.1 = some .local \/ (scope.names.lookup y.1 = some .cell /\ ((cellsFrom (s.heap.objs.size + 1) scope.names []).lookup y.1).isSome = true) := fun ⟨n, v⟩ hy => by
  rcases S.par n (List.of_mem_zip hy).1 with q | q
  ·exact .inl q
  ·exact .inr ⟨q, PySem.W.cellsFrom_some _ _ _ (.inl q)⟩
 refine codeAny_call_function hr.depth (KX _ _ lk) rfl S.co S.gen rfl (PySem.W.codeRec_of KX hcd) (hb _ _ _ _ ?_)
 refine wpAny_newFunctionEnv_cells S.kind hkind fun env he s1 x => ?_
 subst he
 refine ⟨lim.keeps x.toInCall.keep, codeAny_func ?_⟩
 obtain ⟨t, ht, hq⟩ := hbody A outer s H vs Q E (hr.deeper _) hsp
 have I : Inv (cxOf CX P w K mg base N qual scope f cdv A outer s H E) [] (start N vs) H s1 := inv_start S hr.hd e0 hl r x
 refine wpAny_mono (ht [] s1 (start N vs) H _ I hq) (fun fl s' hs => ?_) fun e s' hs => hs
 have fin : ∀ {σ' : St} {H' : Hp} {v : V} {u : Value}, Inv (cxOf CX P w K mg base N qual scope f cdv A outer s H E) [] σ' H' s' -> RelV v u -> Q v H' -> CE outer P w H s Q u s' :=
  fun {σ' H' v u} J rv q => ⟨v, H', J.os, J.bare, J.base, J.hok, rv, q⟩
 cases fl with
 | ret u =>
  obtain ⟨v, σ', H', J, rv, q⟩ := hs
  exact fin J rv q
 | next =>
  obtain ⟨σ', H', J, q⟩ := hs
  exact fin (v := V.non) (u := Value.none) J rfl q
 | brk =>
  obtain ⟨_, _, _, q⟩ := hs
  exact False.elim q
 | cont =>
  obtain ⟨_, _, _, q⟩ := hs
  exact False.elim q
end L2
namespace L2
open PySem PySem.Spec PyProof.Rows
section
variable {X : Cx} {x : Str} {p pos : Pos} {e : Expr} {es : List Expr} {t : TA} {id T : String} {r : List V -> Hp -> VK -> Prop}
noncomputable def tCB (r : List V -> Hp -> VK -> Prop) (t : TA) : TE := fun σ H Q => t σ H fun vs H1 => r vs H1 Q
theorem pe_callB (hc : CallR X (.builtin id) r) (hg : Gl X x) (hm : X.mg x = none) (hv : bootBuiltins x = some (.builtin id)) (ha : PA X (e :: es) t) (hn : x ≠ "__name__" := by decide) (hdb : (x == ("__debug__" : Str)) = false := by decide)
  (he : starEach (e :: es) X.env = (false, eval e X.env) :: starEach es X.env := by rfl) (hpl : (backTo pos (starEach es X.env)).any (·.1) = false := by rfl) : PE X (.Call (.Name x p) (e :: es) [] pos) (tCB r t) := by
 intro pins s σ H Q I h
 refine wpAny_Call_Name_kw (ld_blt I hg hm hv ?_ hn hdb)
 exact PyProof.Rows.callWith_builtin1 (thn (ha pos pins s σ H _ I h) fun us s1 ⟨vs, H1, I1, r1, q1⟩ => hc pins s1 σ H1 vs us Q I1 r1 q1) he hpl
theorem pe_callTy (hc : CallR X (.type T) r) (hg : Gl X x) (hm : X.mg x = none) (hv : bootBuiltins x = some (.type T)) (ha : PA X (e :: es) t) (hn : x ≠ "__name__" := by decide) (hdb : (x == ("__debug__" : Str)) = false := by decide)
  (he : starEach (e :: es) X.env = (false, eval e X.env) :: starEach es X.env := by rfl) (hpl : (backTo pos (starEach es X.env)).any (·.1) = false := by rfl) : PE X (.Call (.Name x p) (e :: es) [] pos) (tCB r t) := by
 intro pins s σ H Q I h
 refine wpAny_Call_Name_kw (ld_blt I hg hm hv ?_ hn hdb)
 exact PyProof.Rows.callWith_type1 (thn (ha pos pins s σ H _ I h) fun us s1 ⟨vs, H1, I1, r1, q1⟩ => hc pins s1 σ H1 vs us Q I1 r1 q1) he hpl
end
end L2
namespace HT
open PySem PyProof.Rows
theorem rcLt_int (A : Around) (s : Shared) (a : Int) (t : Tok) (c : Int) (u : Tok) (prog : Program) (w : World) (E : Value -> Shared -> Prop) (Q : Value -> Shared -> Prop) (h : Q (.bool (decide (a < c))) s) :
  wpAny (model prog w) A (richCompare .Lt (.int a t) (.int c u)) Q E s :=
 (PyProof.Rows.lt_int h : wpAny (model prog w) A (compareOp .Lt (.int a t) (.int c u)) Q E s)
section
open PySem.SeqAt
open PySem.AutoSeq1 (wpAny_loadPart')
open PySem.MeetsSeq PySem.MeetsSeq2 PySem.MeetsSeq3
end
section
variable {prog : Program} {w : World} {A : Around} {E : Value -> Shared -> Prop} {s : Shared}
noncomputable def sIx (n d : Nat) : Option Int -> Nat
 | none => d
 | some v => if v < 0 then (v + (n : Int)).toNat else min v.toNat n
theorem sIx_none (n d : Nat) : sIx n d none = d := rfl
theorem sIx_nat (n d k : Nat) : sIx n d (some (k : Int)) = min k n := by
 show (if (k : Int) < 0 then ((k : Int) + (n : Int)).toNat else min (k : Int).toNat n) = min k n
 rw [if_neg (by omega), Int.toNat_natCast]
end
end HT
namespace L2
open PySem PySem.Spec PyProof.Rows
noncomputable abbrev TO := St -> Hp -> (Option Int -> Hp -> Prop) -> Prop
noncomputable def PO (X : Cx) (e : Option Expr) (t : TO) : Prop :=
 ∀ (pins : List (Addr × Obj)) (s : Shared) (σ : St) (H : Hp) (Q : Option Int -> Hp -> Prop), Inv X pins σ H s -> t σ H Q ->
  wpAny (model X.prog X.w) X.A (evalPart e X.env) (fun u s' => ∃ o H', Inv X pins σ H' s' /\ IsPart u o /\ Q o H') X.xe s
noncomputable def tNoPart : TO := fun _ H Q => Q none H
noncomputable def tPart (t : TE) : TO := fun σ H Q => t σ H fun x H1 => ∃ i, x = .int i /\ Q (some i) H1
section
variable {X : Cx} {e : Expr} {te : TE} {lo hi : Option Expr} {tl th : TO} {pos p2 : Pos}
theorem po_none : PO X none tNoPart := by
 intro pins s σ H Q I h
 rw [evalPart_none]
 exact wpAny_pure ⟨none, H, I, .none, h⟩
theorem po_some (h : PE X e te) : PO X (some e) (tPart te) := by
 intro pins s σ H Q I hw
 rw [evalPart_some]
 refine thn (h pins s σ H _ I hw) fun u s1 hpat => ?_
 obtain ⟨x, H1, I1, r1, q1⟩ := hpat
 obtain ⟨i, rfl, q⟩ := q1
 obtain ⟨t, rfl⟩ := r1
 exact ⟨some i, H1, I1, .int i t, q⟩
noncomputable def SlR (X : Cx) (r : V -> Option Int -> Option Int -> Hp -> VK -> Prop) : Prop :=
 ∀ (pins : List (Addr × Obj)) (s : Shared) (σ : St) (H : Hp) (x : V) (v vl vu : Value) (lo hi : Option Int) (sl : Addr) (Q : VK), Inv X pins σ H s -> RelV x v -> s.heap.IsSliceOf sl vl vu .none -> IsPart vl lo -> IsPart vu hi -> r x lo hi H Q ->
  ∃ T id, typeLookup (.type T) "__getitem__" = pure (some (.builtin id)) /\ s.TypeIs v T /\ wpAny (model X.prog X.w) X.A (getItem v (.ref sl)) (EP X pins σ Q) X.xe s
theorem SlR.or {r r' : V -> Option Int -> Option Int -> Hp -> VK -> Prop} (h : SlR X r) (h' : SlR X r') : SlR X (fun x lo hi H Q => r x lo hi H Q \/ r' x lo hi H Q) := by
 intro pins s σ H x v vl vu lo hi sl Q I rx hs pl pu q
 rcases q with q | q
 ·exact h pins s σ H x v vl vu lo hi sl Q I rx hs pl pu q
 ·exact h' pins s σ H x v vl vu lo hi sl Q I rx hs pl pu q
noncomputable def tSl (r : V -> Option Int -> Option Int -> Hp -> VK -> Prop) (te : TE) (tl th : TO) : TE := fun σ H Q => te σ H fun x H1 => tl σ H1 fun l H2 => th σ H2 fun u H3 => r x l u H3 Q
theorem pe_slice {r : V -> Option Int -> Option Int -> Hp -> VK -> Prop} (hr : SlR X r) (he : PE X e te) (hl : PO X lo tl) (hu : PO X hi th) : PE X (.Subscript e (.Slice lo hi none p2) pos) (tSl r te tl th) := by
 intro pins s σ H Q I h
 refine Subscript_ (thn (he pins s σ H _ I h) fun v s1 hpat => ?_)
 obtain ⟨x, H1, I1, r1, q1⟩ := hpat
 refine wpAny_Slice (thn (hl pins s1 σ H1 _ I1 q1) fun vl s2 ⟨l, H2, I2, pl, q2⟩ => thn (hu pins s2 σ H2 _ I2 q2) fun vu s3 hpat => ?_)
 obtain ⟨u, H3, I3, pu, q3⟩ := hpat
 rw [evalPart_none]
 refine wpAny_pure ?_
 have I4 : Inv X pins σ H3 { s3 with heap := s3.heap.push { cls := .type "slice", data := .fields #[vl, vu, .none] } } := I3.kept (t' := s3.toks) fun b ob q => Heap.get?_push_of_some _ q
 obtain ⟨T, id, hT, ht, hg⟩ := hr pins { s3 with heap := s3.heap.push { cls := .type "slice", data := .fields #[vl, vu, .none] } } σ H3 x v vl vu l u s3.heap.objs.size Q I4 r1 (Heap.IsSliceOf.new ..) pl pu q3
 show wpAny (model X.prog X.w) X.A (subscriptTail e (.Slice lo hi none p2) v (.ref s3.heap.objs.size)) (EP X pins σ Q) X.xe { s3 with heap := s3.heap.push { cls := .type "slice", data := .fields #[vl, vu, .none] } }
 exact tail_any (ops := [.ref s3.heap.objs.size, v]) ht hT hg (by with_unfolding_all rfl)
noncomputable def cutV (xs : List V) (lo hi : Option Int) : List V := (xs.drop (HT.sIx xs.length 0 lo)).take (HT.sIx xs.length xs.length hi - HT.sIx xs.length 0 lo)
theorem cutV_length (xs : List V) (lo hi : Option Int) : (cutV xs lo hi).length <= xs.length := by
 unfold cutV
 rw [List.length_take, List.length_drop]
 omega
end
end L2
namespace L2
open PySem PySem.Spec PyProof.Rows
noncomputable def ixN (n : Nat) (i : Int) : Option Nat := if 0 <= i then (if i < n then some i.toNat else none) else if -(n : Int) <= i then some (i + n).toNat else none
noncomputable def atI {α : Type} (xs : List α) (i : Int) : Option α := (ixN xs.length i).bind fun j => xs[j]?
theorem ixN_seq {n : Nat} {i : Int} {j : Nat} (h : ixN n i = some j) : seqIndex? i n = some j /\ j < n /\ -(n : Int) <= i /\ i < n := by
 unfold ixN at h
 by_cases h0 : 0 <= i
 ·rw [if_pos h0] at h
  by_cases h1 : i < n
  ·rw [if_pos h1] at h
   have e : i.toNat = j := Option.some.inj h
   exact ⟨by rw [seqIndex_of h0 h1, e], by omega, by omega, h1⟩
  ·rw [if_neg h1] at h; cases h
 ·rw [if_neg h0] at h
  by_cases h1 : -(n : Int) <= i
  ·rw [if_pos h1] at h
   have e : (i + n).toNat = j := Option.some.inj h
   exact ⟨by rw [seqIndex_neg (by omega) h1, e], by omega, h1, by omega⟩
  ·rw [if_neg h1] at h; cases h
theorem atI_get {α : Type} {xs : List α} {i : Int} {v : α} (h : atI xs i = some v) : ∃ j, seqIndex? i xs.length = some j /\ xs[j]? = some v /\ j < xs.length /\ -(xs.length : Int) <= i /\ i < xs.length := by
 unfold atI at h
 cases e : ixN xs.length i with
 | none => rw [e] at h; cases h
 | some j =>
  rw [e] at h
  obtain ⟨h1, h2, h3, h4⟩ := ixN_seq e
  exact ⟨j, h1, h, h2, h3, h4⟩
noncomputable def PlainIx (b : Expr) : Prop := ∀ o i, subscripted b false o i = operate [o, i] (getItem o i)
noncomputable def IxR (X : Cx) (r : R2) : Prop :=
 ∀ (value slice : Expr) (pins : List (Addr × Obj)) (s : Shared) (σ : St) (H : Hp) (x y : V) (v u : Value) (Q : VK), Inv X pins σ H s -> RelV x v -> RelV y u -> r x y H Q ->
  subscripted slice false v u = operate [v, u] (getItem v u) -> wpAny (model X.prog X.w) X.A (subscriptTail value slice v u) (EP X pins σ Q) X.xe s
noncomputable def MtR (X : Cx) (id : String) (r : V -> List V -> Hp -> VK -> Prop) : Prop :=
 ∀ (pins : List (Addr × Obj)) (s : Shared) (σ : St) (H : Hp) (x : V) (xs : List V) (v : Value) (us : List Value) (Q : VK), Inv X pins σ H s -> RelV x v -> Vals xs us -> r x xs H Q ->
  wpAny (model X.prog X.w) X.A (call (.builtin id) (v :: us)) (EP X pins σ Q) X.xe s
section
variable {X : Cx} {a b : Expr} {ta tb : TE} {pos : Pos}
theorem IxR.or {r r' : R2} (h : IxR X r) (h' : IxR X r') : IxR X (fun x y H Q => r x y H Q \/ r' x y H Q) := by
 intro value slice pins s σ H x y v u Q I rx ry q hs
 rcases q with q | q
 ·exact h value slice pins s σ H x y v u Q I rx ry q hs
 ·exact h' value slice pins s σ H x y v u Q I rx ry q hs
theorem MtR.or {id : String} {r r' : V -> List V -> Hp -> VK -> Prop} (h : MtR X id r) (h' : MtR X id r') : MtR X id (fun x xs H Q => r x xs H Q \/ r' x xs H Q) := by
 intro pins s σ H x xs v us Q I rx rs q
 rcases q with q | q
 ·exact h pins s σ H x xs v us Q I rx rs q
 ·exact h' pins s σ H x xs v us Q I rx rs q
theorem pe_ix {r : R2} (hr : IxR X r) (ha : PE X a ta) (hb : PE X b tb) (hs : PlainIx b) : PE X (.Subscript a b pos) (tOp r ta tb) := by
 intro pins s σ H Q I h
 exact Subscript_ (binT ha hb I h fun v u s2 x y H2 I2 rx ry q => hr a b pins s2 σ H2 x y v u Q I2 rx ry q (hs _ _))
noncomputable def rIxL (K : PySem.W.Frag) : R2 := fun x y H Q => ∃ p xs i v, x = .ref p /\ y = .int i /\ SqL K H p xs /\ atI xs i = some v /\ Q v H
theorem ix_list : IxR X (rIxL X.K) := by
 intro value slice pins s σ H x y v u Q I rx ry h hs
 obtain ⟨p, xs, i, z, rfl, rfl, hq, he, q⟩ := h
 cases rx
 obtain ⟨t, rfl⟩ := ry
 obtain ⟨its, r, pl, hz⟩ := I.list hq
 obtain ⟨j, h1, h2, h3, h4, h5⟩ := atI_get he
 obtain ⟨w, ew, rw'⟩ := r.get h2
 have hl := r.length
 have hn := line63
 have fin : EP X pins σ Q w s := ⟨z, H, I, rw', q⟩
 by_cases h0 : 0 <= i
 ·have hj : i.toNat = j := by
   rw [seqIndex_of h0 h5] at h1
   exact Option.some.inj h1
  exact item_listR pl.isList h0 (by omega) (by rw [hj]; simpa using ew) fin hs
 ·have hj : (i + (its.toArray.size : Int)).toNat = j := by
   rw [seqIndex_neg (by omega) h4] at h1
   rw [List.size_toArray, <- hl]
   exact Option.some.inj h1
  exact subscriptTail_builtinR (x := w) pl.isList.typeIs slot_list_getitem.lookup
   (wpAny_getItem_list_neg (Q := fun r s' => r = w /\ EP X pins σ Q r s') pl.isList (by omega) (by rw [List.size_toArray] <;> omega) (by omega) (by rw [hj]; simpa using ew) ⟨rfl, fin⟩) hs
theorem mapSeq_set (its : List Value) (n j : Nat) (u : Value) : Obj.mapSeq (·.setIfInBounds j u) { cls := .type "list", data := .seq its.toArray n } = { cls := .type "list", data := .seq (its.set j u).toArray n } := by
 simp [Obj.mapSeq]
theorem Inv.lst {pins : List (Addr × Obj)} {σ : St} {H : Hp} {s : Shared} {p : Addr} {xs : List V} (I : Inv X pins σ H s) (h : H p = some (.lst xs)) :
  ∃ (its : List Value) (n : Nat), Vals xs its /\ s.heap.get? p = some { cls := .type "list", data := .seq its.toArray n } /\ xs.length <= sizeLine := by
 obtain ⟨z, its, n, r, e⟩ := I.hok p _ h
 exact ⟨its, n, r, e, z⟩
theorem Inv.lstUpd {pins : List (Addr × Obj)} {σ : St} {H : Hp} {s : Shared} {p : Addr} {xs ys : List V} {its its' : List Value} {n n' : Nat} {f : Obj -> Obj} (I : Inv X pins σ H s) (h : H p = some (.lst xs))
  (ho : s.heap.get? p = some { cls := .type "list", data := .seq its.toArray n }) (hf : f { cls := .type "list", data := .seq its.toArray n } = { cls := .type "list", data := .seq its'.toArray n' }) (r : Vals ys its') (hz : ys.length <= sizeLine) (t : Nat) :
  Inv X pins σ (upd H p (.lst ys)) { s with heap := s.heap.update p f, toks := t } := by
 have e : (s.heap.update p f).get? p = some { cls := .type "list", data := .seq its'.toArray n' } := by
  rw [Heap.get?_update_self f ho (by rw [hf] <;> rfl), hf]
 refine I.write (x := p) (e := p) (by rw [h]; trivial) (.inl rfl) (fun b u hb q => (Heap.get?_update_other _ _ (Ne.symm hb)).trans q) ⟨_, e⟩ ?_
 exact ⟨hz, its', n', r, e⟩
noncomputable def rSetL : V -> V -> V -> Hp -> (Hp -> Prop) -> Prop := fun o i v H Q => ∃ p xs k j, o = .ref p /\ i = .int k /\ H p = some (.lst xs) /\ ixN xs.length k = some j /\ Q (upd H p (.lst (xs.set j v)))
theorem set_list : PSet X rSetL := by
 intro pins s σ H o i v ov iv u Q I ro ri rv h
 obtain ⟨p, xs, k, j, rfl, rfl, hp, hj, q⟩ := h
 cases ro
 obtain ⟨t, rfl⟩ := ri
 obtain ⟨its, n, r, ho, hz⟩ := I.lst hp
 obtain ⟨h1, h2, h3, h4⟩ := ixN_seq hj
 have hl := r.length
 have hn := line63
 have I' : Inv X pins σ (upd H p (.lst (xs.set j v))) { s with heap := s.heap.update p (Obj.mapSeq (·.setIfInBounds j u)) } :=
  I.lstUpd hp ho (mapSeq_set its n j u) (r.set rv j) (by rw [List.length_set]; exact hz) s.toks
 by_cases h0 : 0 <= k
 ·have hk : k.toNat = j := by
   rw [seqIndex_of h0 h4] at h1
   exact Option.some.inj h1
  exact PySem.W.ki_setAt ho h0 (by omega) (by rw [List.size_toArray, <- hl]; exact h4) (by rw [hk]; exact ⟨_, I', q⟩)
 ·have hk : (k + (its.toArray.size : Int)).toNat = j := by
   rw [seqIndex_neg (by omega) h3] at h1
   rw [List.size_toArray, <- hl]
   exact Option.some.inj h1
  exact PySem.W.ki_setBack ho (by omega) (by rw [List.size_toArray, <- hl]; exact h3) (by omega) (by rw [hk]; exact ⟨_, I', q⟩)
theorem slice_bounds (lo hi : Option Int) (n : Nat) : (sliceBounds lo hi none n).1 = ((HT.sIx n 0 lo : Nat) : Int) /\ (sliceBounds lo hi none n).2.1 = ((HT.sIx n n hi : Nat) : Int) /\ (sliceBounds lo hi none n).2.2 = 1 := by
 refine ⟨?_, ?_, rfl⟩
 ·cases lo with
  | none => simp [sliceBounds, HT.sIx]
  | some i =>
   simp only [sliceBounds, HT.sIx, Option.getD_none, show (1 : Int) > 0 by decide, if_true]
   by_cases h : i < 0
   ·simp only [h, if_true] <;> omega
   ·simp only [h, if_false] <;> omega
 ·cases hi with
  | none => simp [sliceBounds, HT.sIx]
  | some i =>
   simp only [sliceBounds, HT.sIx, Option.getD_none, show (1 : Int) > 0 by decide, if_true]
   by_cases h : i < 0
   ·simp only [h, if_true] <;> omega
   ·simp only [h, if_false] <;> omega
theorem slicePick_cut (its : List Value) (lo hi : Option Int) : slicePick its.toArray lo hi none = ((its.drop (HT.sIx its.length 0 lo)).take (HT.sIx its.length its.length hi - HT.sIx its.length 0 lo)).toArray := by
 obtain ⟨h1, h2, h3⟩ := slice_bounds lo hi its.toArray.size
 unfold slicePick
 rw [h1, h2, h3]
 simp only [sliceRange_one, pick_run, List.size_toArray] <;> rfl
noncomputable def rSlL (K : PySem.W.Frag) : V -> Option Int -> Option Int -> Hp -> VK -> Prop := fun x lo hi H Q => ∃ a xs, x = .ref a /\ SqL K H a xs /\ ∀ p, H p = none -> Q (.ref p) (upd H p (.lst (cutV xs lo hi)))
theorem sl_list : SlR X (rSlL X.K) := by
 intro pins s σ H x v vl vu lo hi sl Q I rx hs pl pu h
 obtain ⟨a, xs, rfl, hx, q⟩ := h
 cases rx
 obtain ⟨its, r, ht, hz⟩ := I.list hx
 have hlen := r.length
 refine ⟨"list", _, slot_list_getitem.lookup, ht.isList.typeIs, ?_⟩
 refine wpAny_getItem_list_slice ht.isList hs pl pu .none (by simp) ?_ (by rw [List.size_toArray] <;> omega)
 rw [slicePick_cut, <- hlen]
 refine ⟨.ref s.heap.objs.size, _, I.laid (t' := s.toks) (o := .lst (cutV xs lo hi)) (fun b ob q => Heap.get?_push_of_some _ q) (Nat.le_refl _) ?_, rfl, q _ (I.hok.fresh (Nat.le_refl _))⟩
 exact ⟨Nat.le_trans (cutV_length xs lo hi) hz, _, 0, (r.drop (HT.sIx xs.length 0 lo)).take (HT.sIx xs.length xs.length hi - HT.sIx xs.length 0 lo), Heap.get?_push_size _ rfl⟩
theorem call_len_seq : CallR X (.builtin "len") (fun xs H Q => ∃ p ys, xs = [.ref p] /\ (SqL X.K H p ys \/ SqT X.K H p ys) /\ Q (.int ys.length) H) := by
 intro pins s σ H xs us Q I r h
 obtain ⟨p, ys, rfl, hq, q⟩ := h
 obtain ⟨u, rfl, rx⟩ := vals1 r
 cases rx
 have hn := line63
 rcases hq with hq | hq
 ·obtain ⟨its, r', pl, hz⟩ := I.list hq
  have hlen := r'.length
  exact Calls.call_len_list pl.isList (by simp only [List.size_toArray] <;> omega) ⟨.int ys.length, H, I.tok _, ⟨s.toks + 1, by rw [List.size_toArray, hlen]⟩, q⟩
 ·obtain ⟨its, r', pl, hz⟩ := I.tuple hq
  have hlen := r'.length
  exact len_tuple pl (by simp only [List.size_toArray] <;> omega) ⟨.int ys.length, H, I.tok _, ⟨s.toks + 1, by rw [List.size_toArray, hlen]⟩, q⟩
theorem CallR.or {f : Value} {r r' : List V -> Hp -> VK -> Prop} (h : CallR X f r) (h' : CallR X f r') : CallR X f (fun xs H Q => r xs H Q \/ r' xs H Q) := by
 intro pins s σ H xs us Q I rs q
 rcases q with q | q
 ·exact h pins s σ H xs us Q I rs q
 ·exact h' pins s σ H xs us Q I rs q
theorem call_list_of : CallR X (.type "list") (fun xs H Q => ∃ p ys, xs = [.ref p] /\ (SqL X.K H p ys \/ SqT X.K H p ys) /\ ∀ l, H l = none -> Q (.ref l) (upd H l (.lst ys))) := by
 intro pins s σ H xs us Q I r h
 obtain ⟨p, ys, rfl, hq, q⟩ := h
 obtain ⟨u, rfl, rx⟩ := vals1 r
 cases rx
 have fin : ∀ (its : List Value), Vals ys its -> ys.length <= sizeLine -> ∀ (h' : Heap) (c' : Nat), (∀ b o', s.heap.get? b = some o' -> h'.get? b = some o') ->
   h'.get? s.heap.objs.size = some { cls := .type "list", dict := none, data := .seq its.toArray c', slots := #[] } -> EP X pins σ Q (.ref s.heap.objs.size) { s with heap := h' } := fun its r' hz h' c' kp e =>
  ⟨.ref s.heap.objs.size, _, I.laid (t' := s.toks) kp (Nat.le_refl _) (show ObjOk X.prog X.w _ h' _ (.lst ys) from ⟨hz, its, c', r', e⟩), rfl, q _ (I.hok.fresh (Nat.le_refl _))⟩
 rcases hq with hq | hq
 ·obtain ⟨its, r', pl, hz⟩ := I.list hq
  have hlen := r'.length
  obtain ⟨o, ho, hc, n, hd⟩ := pl.isList
  exact call_list_seq p (.inl rfl) ho hc hd (fun h' c' kp e => fin its r' hz h' c' kp e) (by simp only [List.size_toArray] <;> omega)
 ·obtain ⟨its, r', pl, hz⟩ := I.tuple hq
  have hlen := r'.length
  obtain ⟨o, ho, hc, n, hd⟩ := pl
  exact call_list_seq p (.inr rfl) ho hc hd (fun h' c' kp e => fin its r' hz h' c' kp e) (by simp only [List.size_toArray] <;> omega)
noncomputable def tyV (K : PySem.W.Frag) (T : String) (x : V) (H : Hp) : Prop := match x with
 | .str _ => T = "str"
 | .int _ => T = "int"
 | .ref p => (T = "list" /\ ∃ xs, SqL K H p xs) \/ (T = "tuple" /\ ∃ o, K.lookup p = some o /\ o.cls = .type "tuple" /\ o.dict = none) \/
   (T = "dict" /\ ((∃ kvs, H p = some (.dK kvs)) \/ ∃ kvs, H p = some (.dT kvs))) \/ (T = "set" /\ ∃ S n, H p = some (.set S n))
 | _ => False
theorem tyV_is {pins : List (Addr × Obj)} {σ : St} {H : Hp} {s : Shared} {T : String} {x : V} {v : Value} (I : Inv X pins σ H s) (r : RelV x v) (ty : tyV X.K T x H) :
  s.TypeIs v T /\ ∀ a, v = .ref a -> ∃ ob, s.heap.get? a = some ob /\ ob.dict = none := by
 cases x with
 | str z =>
  obtain ⟨t, rfl⟩ := r
  cases (show T = "str" from ty)
  exact ⟨typeIs_str s z t, fun _ e => nomatch e⟩
 | int i =>
  obtain ⟨t, rfl⟩ := r
  cases (show T = "int" from ty)
  exact ⟨typeIs_int s i t, fun _ e => nomatch e⟩
 | ref p =>
  cases r
  rcases ty with ⟨rfl, xs, hq⟩ | ⟨rfl, o, hk, hc, hd⟩ | ⟨rfl, hk⟩ | ⟨rfl, S, n, hk⟩
  ·obtain ⟨its, _, pl, _⟩ := I.list hq
   refine ⟨pl.isList.typeIs, fun a e => ?_⟩
   cases e
   obtain ⟨o, n, e, c, hd, _⟩ := pl
   exact ⟨o, e, hd⟩
  ·refine ⟨⟨o, I.kIn p o hk, hc⟩, fun a e => ?_⟩
   cases e
   exact ⟨o, I.kIn _ o hk, hd⟩
  ·have z : ∃ o, s.heap.get? p = some o /\ o.ExactDict := by
    rcases hk with ⟨kvs, hk⟩ | ⟨kvs, hk⟩
    ·obtain ⟨_, _, _, _, o, _, _, e, ex, _⟩ := I.hok p _ hk
     exact ⟨o, e, ex⟩
    ·obtain ⟨_, _, _, _, o, _, _, e, ex, _⟩ := I.hok p _ hk
     exact ⟨o, e, ex⟩
   obtain ⟨o, e, ex⟩ := z
   refine ⟨⟨o, e, ex.1⟩, fun a e2 => ?_⟩
   cases e2
   exact ⟨o, e, ex.2.1⟩
  ·obtain ⟨o, _, _, _, e, ex, _⟩ := I.hok p _ hk
   refine ⟨⟨o, e, ex.1⟩, fun a e2 => ?_⟩
   cases e2
   exact ⟨o, e, ex.2.1⟩
 | _ => exact False.elim ty
noncomputable def tBM (K : PySem.W.Frag) (T : String) (r : V -> List V -> Hp -> VK -> Prop) (to : TE) (t : TA) : TE := fun σ H Q => to σ H fun x H1 => tyV K T x H1 /\ t σ H1 fun xs H2 => r x xs H2 Q
variable {o e : Expr} {es : List Expr} {to : TE} {t : TA} {name : Str} {apos cpos : Pos} {T id : String} {r : V -> List V -> Hp -> VK -> Prop}
theorem pe_bm (pa : PlainAttrs T) (slot : Slot T name id) (hty : typeOf (.builtin id) = pure (.type "method_descriptor")) (hm : MtR X id r) (ho : PE X o to) (ha : PA X (e :: es) t)
  (hbase : attributeBase o name X.env (eval o X.env) = eval o X.env := by rfl)
  (hfew : ((backTo cpos (starEach (e :: es) X.env)).all (fun x => !x.1) && (backToKw cpos (keywordEach [] X.env)).all (fun x => x.1.isSome)
   && decide ((e :: es).length + ([] : List Keyword).length + (if ([] : List Keyword).isEmpty then 0 else 1) < 30)) = true := by rfl)
  (hline : (apos.endLine == cpos.line) = true := by rfl) (hs : starEach (e :: es) X.env = (false, eval e X.env) :: starEach es X.env := by rfl) (hplain : (backTo cpos (starEach es X.env)).any (·.1) = false := by rfl) :
  PE X (.Call (.Attribute o name apos) (e :: es) [] cpos) (tBM X.K T r to t) := by
 intro pins s σ H Q I h
 refine wpAny_Call_method_late hbase hfew hline rfl (thn (ho pins s σ H _ I h) fun v s1 hpat => ?_)
 obtain ⟨x, H1, I1, r1, ty, q1⟩ := hpat
 obtain ⟨h1, h2⟩ := tyV_is I1 r1 ty
 refine ⟨T, id, pa, slot, hty, h1, h2, ?_⟩
 have hA := ha cpos pins s1 σ H1 _ I1 q1
 rw [hs] at hA ⊢
 refine Calls.callWith_builtin (by show (false || (backTo cpos (starEach es X.env)).any (·.1)) = false; rw [hplain] <;> rfl) (Calls.evalArgs_plain ?_)
 exact thn hA fun us s2 ⟨vs, H2, I2, r2, q2⟩ => hm pins s2 σ H2 x vs v us Q I2 r1 r2 q2
/- xs.append(e), list.index on a module's tuple .. are MtR facts of 06m -/
end
end L2
namespace L2
open PySem PySem.Spec PyProof.Rows
noncomputable def MtM (X : Cx) (id : String) (r : V -> List V -> Hp -> VK -> Prop) : Prop :=
 ∀ (pins : List (Addr × Obj)) (s : Shared) (σ : St) (H : Hp) (x : V) (xs : List V) (v : Value) (us : List Value) (Q : VK), Inv X pins σ H s -> RelV x v -> Vals xs us -> r x xs H Q ->
  wpAny (model X.prog X.w) X.A (call (.builtin id) (v :: us)) (EP X pins σ Q) X.xe s
theorem Vals.one : ∀ {x : V} {us : List Value}, Vals [x] us -> ∃ u, us = [u] /\ RelV x u
 | _, _, .cons r .nil => ⟨_, rfl, r⟩
theorem Vals.zero : ∀ {us : List Value}, Vals [] us -> us = []
 | _, .nil => rfl
theorem Vals.rep {xs : List V} {us : List Value} (h : Vals xs us) : ∀ k : Nat, Vals (List.replicate k xs).flatten (List.replicate k us).flatten
 | 0 => .nil
 | k + 1 => by
  rw [List.replicate_succ, List.replicate_succ, List.flatten_cons, List.flatten_cons]
  exact Vals.append h (Vals.rep h k)
theorem foldl_rep (its : List Value) : ∀ (k : Nat) (acc : List Value),
  List.foldl (fun x1 x2 => x1 ++ x2) acc.toArray (List.replicate k its.toArray) = (acc ++ (List.replicate k its).flatten).toArray
 | 0, acc => by simp
 | k + 1, acc => by
  have e : acc.toArray ++ its.toArray = (acc ++ its).toArray := by simp
  have e2 : (acc ++ its) ++ (List.replicate k its).flatten = acc ++ (List.replicate (k + 1) its).flatten := by
   rw [List.replicate_succ, List.flatten_cons, List.append_assoc]
  rw [<- e2, <- foldl_rep its k (acc ++ its), <- e, List.replicate_succ, List.foldl_cons]
section
variable {X : Cx} {pins : List (Addr × Obj)} {σ : St} {H : Hp} {s : Shared} {l b : Addr} {xs ys zs : List V}
theorem Inv.lset {its its' : List Value} {n : Nat} {f : Array Value -> Array Value} {t' : Nat} (I : Inv X pins σ H s) (hH : H l = some (.lst xs))
  (e : s.heap.get? l = some { cls := .type "list", data := .seq its.toArray n }) (hf : f its.toArray = its'.toArray) (hv : Vals ys its') (hz : ys.length <= sizeLine) :
  Inv X pins σ (upd H l (.lst ys)) { s with heap := s.heap.update l (Obj.mapSeq f), toks := t' } := by
 have q := PySem.IsL.update e f
 rw [hf] at q
 refine I.write (x := l) (e := l) (by rw [hH]; exact trivial) (.inl rfl) (fun b' u hb hu => (Heap.get?_update_other s.heap (Obj.mapSeq f) (Ne.symm hb)).trans hu) ⟨_, q⟩ ?_
 exact ⟨hz, its', _, hv, q⟩
theorem Inv.lnew {its : List Value} {t' : Nat} (I : Inv X pins σ H s) (hv : Vals ys its) (hz : ys.length <= sizeLine) :
  Inv X pins σ (upd H s.heap.objs.size (.lst ys)) { s with heap := s.heap.push { cls := .type "list", data := .seq its.toArray }, toks := t' } :=
 I.laid (fun _ _ q => Heap.get?_push_of_some _ q) (Nat.le_refl _) ⟨hz, its, 0, hv, Heap.get?_push_size _ rfl⟩
theorem Inv.fresh (I : Inv X pins σ H s) : H s.heap.objs.size = none := I.hok.fresh (Nat.le_refl _)
theorem Inv.lstM (I : Inv X pins σ H s) (hH : H l = some (.lst xs)) : xs.length <= sizeLine /\ ∃ (its : List Value) (n : Nat), Vals xs its /\ xs.length = its.length /\ s.heap.get? l = some { cls := .type "list", data := .seq its.toArray n } := by
 obtain ⟨z, its, n, r, e⟩ := I.hok l _ hH
 exact ⟨z, its, n, r, r.length, e⟩
theorem notLongL {n : Nat} (h : n <= sizeLine) : Builtin.List.listTooLong n = false := by
 unfold Builtin.List.listTooLong
 exact decide_eq_false (by omega)
end
section
variable {X : Cx}
noncomputable def rAppend : V -> List V -> Hp -> VK -> Prop := fun x vs H Q => ∃ l xs y, x = .ref l /\ vs = [y] /\ H l = some (.lst xs) /\ xs.length < sizeLine /\ Q .non (upd H l (.lst (xs ++ [y])))
theorem mt_append : MtM X "list.append" rAppend := by
 intro pins s σ H x vs v us Q I rx rv h
 obtain ⟨l, xs, y, rfl, rfl, hH, hz, q⟩ := h
 cases rx
 obtain ⟨u, rfl, ru⟩ := rv.one
 obtain ⟨z, its, n, r, hl, e⟩ := I.lstM hH
 refine call_meets F.slot_list_append ⟨_, e, rfl⟩ F.entry_list_append (F.args_list_append_2 _ _) (PySem.list_append l its.toArray n u (by rw [List.size_toArray]; omega)) ⟨e, ?_⟩
 refine ⟨.non, _, I.lset (its' := its ++ [u]) hH e (by simp) (r.append (.cons ru .nil)) ?_, rfl, q⟩
 rw [List.length_append, List.length_singleton]
 omega
noncomputable def rRep : R2 := fun x y H Q => ∃ l k xs, x = .ref l /\ y = .int k /\ H l = some (.lst xs) /\ -(2 ^ 63) <= k /\ k < 2 ^ 63 /\ xs.length * k.toNat <= sizeLine /\
 ∀ p, H p = none -> Q (.ref p) (upd H p (.lst (List.replicate k.toNat xs).flatten))
theorem len_rep {α : Type} (xs : List α) (k : Nat) : (List.replicate k xs).flatten.length = k * xs.length := by
 induction k with
 | zero => simp
 | succ k ih => rw [List.replicate_succ, List.flatten_cons, List.length_append, ih, Nat.succ_mul, Nat.add_comm]
theorem op_rep : OpR X (binaryOp .Mult) rRep := by
 intro pins s σ H x y v u Q I rx ry h
 obtain ⟨l, k, xs, rfl, rfl, hH, h1, h2, hz, q⟩ := h
 cases rx
 obtain ⟨t, rfl⟩ := ry
 obtain ⟨z, its, n, r, hl, e⟩ := I.lstM hH
 have hlen : its.toArray.size * k.toNat <= sizeLine := by rw [List.size_toArray, <- hl]; exact hz
 have hcap : ¬ its.toArray.size * k.toNat > (2 ^ 63 - 1) / 8 := by
  have : (sizeLine : Nat) <= (2 ^ 63 - 1) / 8 := by decide
  omega
 have hfit : ¬ (!Builtin.List.listFitsIndex k) = true := by
  rw [fitsIndex_both h1 h2]
  exact Bool.false_ne_true
 have hlong : ¬ Builtin.List.listTooLong (its.toArray.size * k.toNat) = true := by
  rw [notLongL hlen]
  exact Bool.false_ne_true
 have hnew : List.foldl (fun x1 x2 => x1 ++ x2) #[] (List.replicate (if its.toArray.isEmpty = true then 0 else k.toNat) its.toArray) = (List.replicate k.toNat its).flatten.toArray := by
  have f0 : ∀ m : Nat, List.foldl (fun x1 x2 => x1 ++ x2) #[] (List.replicate m its.toArray) = (List.replicate m its).flatten.toArray := fun m => by
   have := foldl_rep its m []
   rw [List.nil_append] at this
   exact this
  rw [f0]
  cases its with
  | nil => simp
  | cons a r' => rw [if_neg (by simp)]
 refine wpAny_binaryOp_repeat_ref (T := "list") (U := "int") (by decide) ⟨_, e, rfl⟩ (fun s' => typeIs_int s' k t) noFill_list_mul F.fills_int_mul F.slot_int_rmul repeat_list F.slot_int_index.lookup
  (call_meets F.slot_int_rmul (typeIs_int s k t) F.entry_int_rmul (F.args_int_rmul_2 _ _) (int___rmul___int_list k t l its.toArray n)
   ⟨e, rfl, ⟨_, e, rfl⟩, call_meets F.slot_list_mul ⟨_, e, rfl⟩ F.entry_list_mul (F.args_list_mul_2 _ _) (AutoListH.list___mul___list_int_3 l its.toArray n k t hfit hcap hlong) ⟨e, ?_⟩⟩)
 rw [hnew]
 exact ⟨.ref _, _, I.lnew (t' := s.toks) (r.rep k.toNat) (by rw [len_rep, Nat.mul_comm]; exact hz), rfl, q _ I.fresh⟩
end
section
variable {prog : Program} {w : World} {A : Around} {E : Value -> Shared -> Prop} {s : Shared}
end
section
variable {X : Cx}
end
end L2
namespace Att
open PySem PySem.W PySem.Calls PyProof.Rows
theorem ints_of_wellAll {P : Params} {h : Heap} : ∀ (ns : List Int) (vs : List Value), WellAll P h vs (ns.map WData.int) -> IntsAre vs ns := by
 intro ns
 induction ns with
 | nil =>
  intro vs w
  rw [List.map_nil] at w
  cases w
  exact .nil
 | cons n ns ih =>
  intro vs w
  rw [List.map_cons] at w
  cases w with
  | cons a b =>
   cases a
   exact .cons _ _ (ih _ b)
theorem script_of {l : OpenLaw} {n : Nat} (hn : l.most = some n) {P : Params} {h : Heap} {args : List WData} {vals : List Value}
  (hpre : l.row.toRowW.claim.pre args = true) (hwl : WellAll P h vals args) :
  ∃ a vs ns, vals = [Value.ref a] /\ args = [WData.list (ns.map WData.int)] /\ h.get? a = some { cls := .type "list", data := .seq vs.toArray } /\ IntsAre vs ns /\ ns.length <= n := by
 have hsh : WShape.hasAll [] args [.list .int] = true := (pre_splitW hpre).1
 have hc : l.pre.holds [] { args := args } = true := (pre_splitW hpre).2
 obtain ⟨d, r, rfl, h1, h2⟩ := hasAllW_cons hsh
 obtain rfl := hasAllW_nil h2
 obtain ⟨xs, rfl, h3⟩ := hasW_list h1
 obtain ⟨ns, rfl⟩ := items_int h3
 have hlen : ns.length <= n := by
  unfold OpenLaw.pre at hc
  have h4 : (WTm.not (.lt (.lit (.int (n : Int))) (.len (.arg 0)))).holds [] { args := [.list (ns.map .int)] } = true := by
   have h4 := (holds_andW hc).1
   rw [hn] at h4
   exact h4
  have h5 := condW_of h4 (w_not (w_lt w_lit (w_len_list (w_arg rfl))))
  rw [List.length_map] at h5
  refine Nat.le_of_not_lt fun q => ?_
  have q' : (n : Int) < ((ns.length : Nat) : Int) := by omega
  first
   | (rw [decide_eq_true q'] at h5; exact absurd h5 (by decide))
   | (simp at h5; omega)
 cases hwl with
 | cons w1 w2 =>
  cases w2
  cases w1 with
  | list ho hall => exact ⟨_, _, ns, rfl, rfl, ho, ints_of_wellAll ns _ hall, hlen⟩
theorem post_true (l : OpenLaw) (args : List WData) : l.row.toRowW.claim.post args (.bool true) args = true :=
 postW_of (r := l.row.toRowW) (X := (true == true))
  (show WShape.has [] (.bool true) .bool = true by first | rfl | decide | simp [WShape.has, WShape.arms, WShape.armsAll])
  (show (WTm.eq .res (.lit (.bool true))).value [] { args := args, res := some (.bool true), after := args } = some (.bool (true == true)) from w_eq_bool (w_res rfl) w_lit) rfl
theorem attach_call {l : OpenLaw} {n : Nat} {q : Program} {loose : List Str} {XP : (Str -> Option Value) -> Heap -> Prop} {YP : World -> Heap -> Prop} {d : DefRec}
  (hn : l.most = some n) (hdf : d.params.defaults = [])
  (call : ∀ (w : World) (s₀ s₁ : Shared) (mg mb : Str -> Option Value) (fa : Addr) (o : Obj) (pm cd doc : Value) (a : Addr) (vs : List Value) (ns : List Int),
   Ground q loose [] XP w s₀ mg mb s₁.heap -> YP w s₁.heap ->
   s₁.heap.get? fa = some o -> o.data = .func (docDef d.name d.params d.body d.scope pm cd doc) -> s₁.heap.CodeRec cd d.name -> mg d.name = some (.ref fa) ->
   s₁.heap.get? a = some { cls := .type "list", data := .seq vs.toArray } -> IntsAre vs ns -> ns.length <= n -> s₁.gens = #[] ->
   codeAny (model l.prog w) callerA (.call (.ref fa) ⟨[.ref a], []⟩) (fun r s' => r = .ok (.ret (.bool true)) /\ OldK s₁.heap s'.heap /\ s'.os = s₁.os /\ AllBare s'.gens) s₁) :
  WalkO q loose XP YP l.row.toRowW d [] (fun f vs => PySem.call f vs) := by
 intro w s₀ s₁ mg mb G Y fa o pm cd doc dV kV ho hd hcd hD hmg hg args vals as hpre hlay hrd hwl hlo
 obtain rfl : dV = .none := Dflts.none hD hdf
 obtain rfl : kV = .none := Dflts.noKw hD
 obtain ⟨a, vs, ns, rfl, rfl, hobj, hints, hlen⟩ := script_of hn hpre hwl
 refine enter_call (codeAny_mono (call w s₀ s₁ mg mb fa o pm cd doc a vs ns G Y ho (fd_plain hd) hcd hmg hobj hints hlen hg) fun r s' hq => ?_)
 obtain ⟨rfl, h2, h3, h4⟩ := hq
 exact ⟨.inl ⟨.bool true, .bool true, [], rfl, fun _ => rfl, .bool true, post_true l _, fun _ => ⟨List.Pairwise.nil, fun _ hm => (nomatch hm)⟩⟩, h2, h3, h4⟩
section
variable {prog : Program} {w : World} {A : Around} {E : Value -> Shared -> Prop} {s : Shared} {K : Frag}
end
end Att
namespace L2
open PySem PySem.Spec PyProof.Rows
theorem vals_ints : ∀ {vs : List Value} {ns : List Int}, IntsAre vs ns -> Vals (ns.map V.int) vs
 | _, _, .nil => .nil
 | _, _, .cons n t h => .cons ⟨t, rfl⟩ (vals_ints h)
noncomputable def Only (H : Hp) : Prop := ∀ b, H b = none \/ ∃ o xs, H b = some (.frz o (.lst xs))
theorem law_call {P : Program} {w : World} {K : PySem.W.Frag} {mg mb : Str -> Option Value} {CX : CXT} {k : Nat} {fa a : Addr} {fd : FuncData} {x : Str} {sp : Sp} {s₁ : Shared} {vs : List Value} {ns : List Int}
  (KX : K.In s₁.heap) (hns : s₁.heap.Ns mainGlobals mg) (hb : s₁.heap.Ns builtinsNs mb) (hbb : ∀ x : Str, x ≠ "__name__" -> mb x = bootBuiltins x) (hlim : s₁.heap.NoLimit) (hg : s₁.gens = #[])
  (ha : s₁.heap.get? a = some { cls := .type "list", data := .seq vs.toArray }) (hi : IntsAre vs ns) (hl : ns.length <= sizeLine) (hr : Room k callerA)
  (F : ∀ base : Heap, K.In base -> base.Ns mainGlobals mg -> FnOk P w K mg base CX k fa fd [x] sp) (hbind : ∀ (s : Shared) (u : Value), BindsTo s fd ⟨[u], []⟩ [(x, u)])
  (hsp : ∀ H : Hp, Only H -> SqL K H a (ns.map V.int) -> sp [.ref a] H (fun v _ => v = .bl true) fun _ _ _ => False)
  (hCX : ∀ H e s', CX [] H s₁ (fun _ _ _ => False) e s' -> False) :
  codeAny (model P w) callerA (.call (.ref fa) ⟨[.ref a], []⟩) (fun r s' => r = .ok (.ret (.bool true)) /\ OldK s₁.heap s'.heap /\ s'.os = s₁.os /\ AllBare s'.gens) s₁ := by
 have rv := vals_ints hi
 have lenV := hi.length
 have core : ∀ H : Hp, Only H -> SqL K H a (ns.map V.int) -> HOk P w H s₁.heap -> (∀ b, H b ≠ none -> b = a) -> (H a ≠ none -> K.lookup a = none) ->
   codeAny (model P w) callerA (.call (.ref fa) ⟨[.ref a], []⟩) (fun r s' => r = .ok (.ret (.bool true)) /\ OldK s₁.heap s'.heap /\ s'.os = s₁.os /\ AllBare s'.gens) s₁ := by
  intro H hO hS hok hA hK
  have base_of : ∀ {b : Addr} {o : Obj}, s₁.heap.get? b = some o -> H b = none -> (hidT s₁.heap H).get? b = some o := fun e n => hidT_get e n
  have noA : ∀ {b : Addr} {o : Obj} {es : Array DictEntry} {ep : Nat}, s₁.heap.get? b = some o -> o.data = .dict es ep -> H b = none := fun {b o es ep} e d => by
   cases q : H b with
   | none => rfl
   | some u =>
    have e' : b = a := hA b (by rw [q]; simp)
    subst e'
    rw [ha] at e; cases e
    have d' : Data.seq vs.toArray _ = Data.dict es ep := d
    cases d'
  have nsK : ∀ {b : Addr} {m : Str -> Option Value}, s₁.heap.Ns b m -> (hidT s₁.heap H).Ns b m := fun {b m} ⟨o, es, ep, e, d, r⟩ => ⟨o, es, ep, base_of e (noA e d), d, r⟩
  have hKb : K.In (hidT s₁.heap H) := fun b o e => base_of (KX b o e) (by
   cases q : H b with
   | none => rfl
   | some u =>
    have e' : b = a := hA b (by rw [q]; simp)
    subst e'
    rw [hK (by rw [q]; simp)] at e; cases e)
  have hM : Mod K mg (hidT s₁.heap H) := ⟨hKb, nsK hns, ⟨mb, nsK hb, hbb⟩, let ⟨mc, h1, h2⟩ := hlim; ⟨mc, nsK h1, h2⟩⟩
  have e0 : Env0 P w K mg (hidT s₁.heap H) callerA [] s₁ H := ⟨rfl, hM, fun b o e => of_hidT e, Nat.le_of_eq (hidT_size _ _), trivial, fun b hb => absurd (show b ∈ ([] : List Addr) from hb) (by simp), hok, .of_eq hg⟩
  refine codeAny_mono ((F _ hKb (nsK hns)).run callerA [] s₁ H ⟨[.ref a], []⟩ [.ref a] [.ref a] _ _ hr e0 (hbind s₁ (.ref a)) (.cons rfl .nil) (hsp H hO hS)) fun r s' h => ?_
  cases r with
  | error e => exact (hCX H e s' h).elim
  | ok fl =>
   cases fl with
   | next => exact False.elim h
   | brk => exact False.elim h
   | cont => exact False.elim h
   | ret u =>
    obtain ⟨v, H', os, bare, un, hok', r', q⟩ := h
    have q' : v = .bl true := q
    subst q'
    obtain rfl : u = Value.bool true := r'
    refine ⟨rfl, OldK.of_keep fun b o e => ?_, os, bare⟩
    cases q : H b with
    | none => exact un.keep b o e q (by intro z; exact absurd (show b ∈ ([] : List Addr) from z) (by simp)) (by simp)
    | some u =>
     rcases hO b with z | ⟨ob, xs, z⟩
     ·rw [q] at z; cases z
     ·have z2 := un.frzs b ob _ z
      obtain ⟨e1, _⟩ := hok b _ z
      obtain ⟨e2, _⟩ := hok' b _ z2
      rw [e] at e1; cases e1
      exact e2
 cases hk : K.lookup a with
 | some o =>
  have e := KX a o hk
  rw [ha] at e
  cases e
  refine core (fun _ => none) (fun _ => .inl rfl) (.inr ⟨_, vs.toArray, _, hk, rfl, rfl, rfl, by rw [List.size_toArray, lenV]; exact hl, by simpa using rv⟩) (fun b u z => by have z' : (none : Option HO) = some u := z; cases z') (fun b z => absurd rfl z) fun z => absurd rfl z
 | none =>
  refine core (fun b => if b = a then some (.frz { cls := .type "list", data := .seq vs.toArray } (.lst (ns.map V.int))) else none) (fun b => ?_) (.inl (.inr ⟨{ cls := .type "list", data := .seq vs.toArray }, if_pos rfl⟩)) (fun b u z => ?_) (fun b z => ?_) fun _ => hk
  ·by_cases hb : b = a
   ·exact .inr ⟨_, _, if_pos hb⟩
   ·exact .inl (if_neg hb)
  ·by_cases hb : b = a
   ·have z' := (if_pos hb).symm.trans z
    cases z'
    subst hb
    exact ⟨ha, by rw [List.length_map]; exact hl, vs, _, rv, ha⟩
   ·have z' := (if_neg hb).symm.trans z
    cases z'
  ·by_cases hb : b = a
   ·exact hb
   ·exact absurd (if_neg hb) z
end L2
namespace L2
open PySem PySem.Spec PyProof.Rows
noncomputable abbrev KOf {K : PySem.W.Frag} {h : Heap} (_ : K.In h) : PySem.W.Frag := K
theorem walk_of {l : PySem.W.OpenLaw} {n k : Nat} {q : Program} {loose : List Str} {XP : (Str -> Option Value) -> Heap -> Prop} {YP : World -> Heap -> Prop} {d : DefRec} {K : Params -> PySem.W.Frag} {CX : World -> CXT} {sp : World -> Sp} {x : Str}
  (hn : l.most = some n) (hn2 : n <= sizeLine) (hdf : d.params.defaults = []) (hr : Room k callerA)
  (hY : ∀ (w : World) (h : Heap), YP w h -> (K w.params).In h)
  (F : ∀ (w : World) (mg : Str -> Option Value) (fa : Addr) (h : Heap), (K w.params).In h -> h.Ns mainGlobals mg -> mg d.name = some (.ref fa) ->
   ∃ fd : FuncData, (∀ (s : Shared) (u : Value), BindsTo s fd ⟨[u], []⟩ [(x, u)]) /\
    ∀ base : Heap, (K w.params).In base -> base.Ns mainGlobals mg -> FnOk l.prog w (K w.params) mg base (CX w) k fa fd [x] (sp w))
  (hsp : ∀ (w : World) (H : Hp) (a : Addr) (ns : List Int), ns.length <= n -> Only H -> SqL (K w.params) H a (ns.map V.int) -> sp w [.ref a] H (fun v _ => v = .bl true) fun _ _ _ => False)
  (hCX : ∀ (w : World) (H : Hp) (s : Shared) (e : Value) (s' : Shared), CX w [] H s (fun _ _ _ => False) e s' -> False) :
  PySem.W.WalkO q loose XP YP l.row.toRowW d [] (fun f vs => PySem.call f vs) := by
 refine Att.attach_call hn hdf fun w s₀ s₁ mg mb fa o pm cd doc a vs ns G Y ho hd hcd hmg hobj hints hlen hg => ?_
 have KX := hY w _ Y
 obtain ⟨fd, hb, hF⟩ := F w mg fa _ KX G.T.g hmg
 exact law_call KX G.T.g G.T.b G.T.builtins G.T.nolimit hg hobj hints (Nat.le_trans hlen hn2) hr hF hb (fun H hO hS => hsp w H a ns hlen hO hS) fun H e s' => hCX w H s₁ e s'
end L2
/- THE LAST THEOREM (shape; LID, My.* are yours):
   My.Adr: a structure of the addresses that your layer names (classes, functions); My.Txt K t: a structure (Prop) of the equations over K;
   My.txt_mk : {K} {implicit addresses ..} (e1 : nsIn K mainGlobals "law" = some (some (.ref f))) (e2 : K.lookup f = some ⟨oc, od, .func (fnOf "law" "law" params body scope dV kV doc pm an cdv ct), sl⟩) (e3 : codeIn K cdv "law" = true) .. : ∃ t, My.Txt K t
set_option maxRecDepth 100000 in
set_option maxHeartbeats 0 in
theorem PySem.Challenge.cw_LID_holds : PySem.Challenge.rw_LID.Holds := by
 w_on; o_law; k_head; (case hw => w_witness2)
 k_fill
 refine L2.walk_of (l := PySem.Challenge.rw_LID) (n := 63) (k := 40) (x := "script") (CX := fun w => ..) (sp := fun _ => My.sp_Z17) rfl (by decide) rfl ⟨rfl, by decide, by decide⟩ (fun w h Y => PySem.W.kIn_of Y) ?F ?S ?C
 case F =>
  intro w mg fa h KX G hmg
  have T : ∃ t, My.Txt (L2.KOf KX) t := by
   dsimp only [L2.KOf]                          -- K must stand as «<heap const> w.params» for k_is
   refine' My.txt_mk ?e1 ?e2 ?e3 ..
   (case e1 => PySem.W.k_is)                    -- in the order: a name -> its address -> its object -> its parts
   (case e2 => PySem.W.k_is)
   ..
  obtain ⟨t, T⟩ := T
  have e0 := hmg.symm.trans (PySem.W.mg_of KX G T.law)
  cases e0                                       -- fa is the law's own address
  exact ⟨_, fun s u => .of_eq rfl, fun base kb nb => My.law_fn T kb nb⟩     -- if «.of_eq rfl» comes too early: refine' ⟨_, ?b, fun base kb nb => My.law_fn T kb nb⟩; exact fun s u => .of_eq rfl
 case S => exact fun w H a ns hl hO hS => ..
 case C => exact ..
(the tactic k_is has no namespace: write k_is) -/
namespace L2
open PySem PySem.Spec PyProof.Rows
noncomputable def defArgs (s : Stmt) : Arguments := match s with
 | .FunctionDef _ a _ _ _ _ _ _ _ _ => a
 | _ => { posonlyargs := [], args := [], vararg := none, kwonlyargs := [], kw_defaults := [], kwarg := none, defaults := [] }
noncomputable def defBody (s : Stmt) : List Stmt := match s with
 | .FunctionDef _ _ b _ _ _ _ _ _ _ => b
 | _ => []
noncomputable def defScope (s : Stmt) : Scope := match s with
 | .FunctionDef _ _ _ _ _ _ sc _ _ _ => sc
 | _ => { kind := .function, names := [], isGenerator := false, isCoroutine := false }
noncomputable abbrev CX0 : CXT := fun _ _ _ _ _ _ => False
noncomputable abbrev E0 : XK := fun _ _ _ => False
theorem pass0 {X : Cx} : Passes CX0 X E0 := fun _ _ _ _ _ _ _ h => h.elim
structure Fun (K : PySem.W.Frag) (x qual : Str) (st : Stmt) (f : Addr) (fd : FuncData) : Prop where
 ex : ∃ (oc : Value) (od : Option Addr) (kV doc pm : Value) (an : Option Addr) (cdv ct : Value) (osl : Array (Option Value)),
  fd = PySem.W.fnOf x qual (defArgs st) (defBody st) (defScope st) .none kV doc pm an cdv ct /\ K.lookup f = some ⟨oc, od, .func fd, osl⟩ /\ PySem.W.codeIn K cdv qual = true
 kp : PySem.W.keepIn K (.ref f) = true
section
variable {P : Program} {w : World} {K : PySem.W.Frag} {mg : Str -> Option Value} {base : Heap}
theorem Fun.ok {x qual : Str} {st : Stmt} {f : Addr} {fd : FuncData} {N ps : List Str} {k : Nat} {sp : Sp} (F : Fun K x qual st f fd) (S : FnScope N ps (defScope st)) (len : ∀ vs H Q E, sp vs H Q E -> vs.length = ps.length)
  (hbody : ∀ (cdv : Value) (A : Around) (outer : List Env) (s : Shared) (H : Hp) (vs : List V) (Q : VK) (E : XK), Room k (A.deeper (envOfC qual (defScope st) s.heap.objs.size f cdv)) -> sp vs H Q E ->
   ∃ t, PSs (cxOf CX0 P w K mg base N qual (defScope st) f cdv A outer s H E).nox (defBody st) t /\ t { nx := fun _ H' => Q .non H', rt := Q } (start N vs) H) : FnOk P w K mg base CX0 (k + 1) f fd ps sp := by
 obtain ⟨oc, od, kV, doc, pm, an, cdv, ct, osl, rfl, lk, hcd⟩ := F.ex
 refine fn_of lk hcd S len fun A outer s H vs Q E hr hsp => ?_
 obtain ⟨t, h, q⟩ := hbody cdv A outer s H vs Q E hr hsp
 exact ⟨t, h.nox, q⟩
theorem Fun.binds {x qual : Str} {st : Stmt} {f : Addr} {fd : FuncData} {ps : List Str} (F : Fun K x qual st f fd)
  (h : ∀ (kV doc pm : Value) (an : Option Addr) (cdv ct : Value) (us : List Value), us.length = ps.length -> bindArgs (PySem.W.fnOf x qual (defArgs st) (defBody st) (defScope st) .none kV doc pm an cdv ct) ⟨us, []⟩ = pure (ps.zip us)) : Binds K fd ps [] := by
 obtain ⟨oc, od, kV, doc, pm, an, cdv, ct, osl, rfl, lk, hcd⟩ := F.ex
 exact .all (h kV doc pm an cdv ct)
theorem fun_mk {x qual : Str} {st : Stmt} {f : Addr} {oc : Value} {od an : Option Addr} {osl : Array (Option Value)} {kV doc pm cdv ct : Value} (l : K.lookup f = some ⟨oc, od, .func (PySem.W.fnOf x qual (defArgs st) (defBody st) (defScope st) .none kV doc pm an cdv ct), osl⟩)
  (c : PySem.W.codeIn K cdv qual = true) (k : PySem.W.keepIn K (.ref f) = true) : Fun K x qual st f (PySem.W.fnOf x qual (defArgs st) (defBody st) (defScope st) .none kV doc pm an cdv ct) := ⟨⟨oc, od, kV, doc, pm, an, cdv, ct, osl, rfl, l, c⟩, k⟩
end
section
variable {X : Cx}
theorem pv (i : Nat) {x : Str} {pos : Pos} (hN : X.N[i]? = some x := by rfl) (hv : Vis X.env.scope x := by first | exact Or.inl rfl | exact Or.inr (Or.inl rfl) | exact Or.inr (Or.inr rfl)) (hd : (x == ("__debug__" : Str)) = false := by decide)
  (hcd : (x == ("__classdict__" : Str)) = false := by decide) : PE X (.Name x pos) (tVar i) := pe_var hN hv hd hcd
end
theorem iteF {A B : Prop} (h : B) : if false = true then A else B := by
 rw [if_neg Bool.false_ne_true]
 exact h
theorem iteT {A B : Prop} (h : A) : if true = true then A else B := by
 rw [if_pos rfl]
 exact h
noncomputable def Same (H H' : Hp) : Prop := ∀ b o, H b = some o -> H' b = some o
theorem Same.refl (H : Hp) : Same H H := fun _ _ h => h
theorem Same.trans {H H1 H2 : Hp} (a : Same H H1) (b : Same H1 H2) : Same H H2 := fun c o h => b c o (a c o h)
theorem Same.free {H H' : Hp} (e : Same H H') {l : Addr} (h : H' l = Option.none) : H l = Option.none := by
 cases q : H l with
 | none => rfl
 | some o =>
  rw [e l o q] at h
  cases h
theorem Same.seq {K : PySem.W.Frag} {H H' : Hp} {a : Addr} {xs : List V} (e : Same H H') (h : SqL K H a xs) : SqL K H' a xs := by
 rcases h with (h | ⟨o, h⟩) | h
 ·exact .inl (.inl (e _ _ h))
 ·exact .inl (.inr ⟨o, e _ _ h⟩)
 ·exact .inr h
end L2
namespace L2
open PySem PySem.Spec PyProof.Rows
noncomputable def clOf (cells : List (Str × Addr)) : List (Str × NameKind) -> List (Str × Addr) -> List (Str × Addr)
 | [], cs => cs
 | (n, k) :: r, cs => if k = .free then (match cells.lookup n with | some c => clOf cells r ((n, c) :: cs) | none => clOf cells r cs) else clOf cells r cs
theorem closure_run {env : Env} : ∀ (names : List (Str × NameKind)) (cs : List (Str × Addr)), (∀ x ∈ names, x.2 = .free -> ∃ c, env.cells.lookup x.1 = some c) ->
  (forIn names cs fun x r => if (x.2 == NameKind.free) = true then do let c ← cellOf env x.1; pure (ForInStep.yield ((x.1, c) :: r)) else pure (ForInStep.yield r) : Sem (List (Str × Addr))) = pure (clOf env.cells names cs)
 | [], cs, _ => rfl
 | (n, k) :: r, cs, h => by
  have hr : ∀ x ∈ r, x.2 = .free -> ∃ c, env.cells.lookup x.1 = some c := fun x hx => h x (List.mem_cons_of_mem _ hx)
  rw [List.forIn_cons]
  by_cases hk : k = .free
  ·subst hk
   obtain ⟨c, hc⟩ := h (n, .free) List.mem_cons_self rfl
   have hc' : env.cells.lookup n = some c := hc
   have e : cellOf env n = pure c := by unfold cellOf; rw [hc']
   simp only [beq_self_eq_true, if_true, e, pure_bind]
   rw [closure_run r _ hr]
   simp only [clOf, if_true, hc']
  ·have hb : (k == NameKind.free) = false := by simpa using hk
   simp only [hb, Bool.false_eq_true, if_false, pure_bind]
   rw [closure_run r cs hr]
   simp only [clOf, hk, if_false]
theorem closureFor_clOf {env : Env} {scope : Scope} (h : ∀ x ∈ scope.names, x.2 = .free -> ∃ c, env.cells.lookup x.1 = some c) : closureFor scope env = pure (clOf env.cells scope.names []) := by
 have q := closure_run (env := env) scope.names [] h
 simp only [closureFor]
 refine Eq.trans ?_ q
 have e : ∀ (m : Sem (List (Str × Addr))), (m >>= fun cs => pure cs) = m := fun m => by simp
 first | (rw [e]; rfl) | rfl | simp
theorem clOf_sub {cells : List (Str × Addr)} {x : Str} {c : Addr} : ∀ (names : List (Str × NameKind)) (cs : List (Str × Addr)), (∀ y d, cs.lookup y = some d -> cells.lookup y = some d) -> (clOf cells names cs).lookup x = some c -> cells.lookup x = some c
 | [], cs, h, e => h x c e
 | (n, k) :: r, cs, h, e => by
  unfold clOf at e
  split at e
  ·split at e
   ·rename_i d hd
    refine clOf_sub r _ (fun y d' q => ?_) e
    rw [List.lookup_cons] at q
    split at q
    ·rename_i hy
     have : y = n := by simpa using hy
     subst this
     cases q; exact hd
    ·exact h y d' q
   ·exact clOf_sub r cs h e
  ·exact clOf_sub r cs h e
theorem clOf_mono {cells : List (Str × Addr)} {x : Str} : ∀ (names : List (Str × NameKind)) (cs : List (Str × Addr)), (cs.lookup x).isSome = true -> ((clOf cells names cs).lookup x).isSome = true
 | [], cs, h => h
 | (n, k) :: r, cs, h => by
  unfold clOf
  split
  ·split
   ·refine clOf_mono r _ ?_
    rw [List.lookup_cons]; split
    ·rfl
    ·exact h
   ·exact clOf_mono r cs h
  ·exact clOf_mono r cs h
theorem clOf_has {cells : List (Str × Addr)} {x : Str} {c : Addr} (hc : cells.lookup x = some c) : ∀ (names : List (Str × NameKind)) (cs : List (Str × Addr)), (x, NameKind.free) ∈ names -> ((clOf cells names cs).lookup x).isSome = true
 | [], cs, h => absurd h (by simp)
 | (n, k) :: r, cs, h => by
  unfold clOf
  rcases List.mem_cons.mp h with e | h
  ·cases e
   rw [if_pos rfl, hc]
   refine clOf_mono r _ ?_
   simp [List.lookup_cons]
  ·split
   ·split
    ·exact clOf_has hc r _ h
    ·exact clOf_has hc r cs h
   ·exact clOf_has hc r cs h
theorem lookup_relabel_free {env : Env} : ∀ {names : List (Str × NameKind)} {x : Str}, names.lookup x = some .free ->
  (names.map fun (n, k) => if (k == NameKind.free && env.scope.kind == .function && env.kindOf n == some .cell) then (n, NameKind.cell) else (n, k)).lookup x = some .cell \/
  (names.map fun (n, k) => if (k == NameKind.free && env.scope.kind == .function && env.kindOf n == some .cell) then (n, NameKind.cell) else (n, k)).lookup x = some .free
 | [], _, h => by simp at h
 | (n, k) :: r, x, h => by
  have ih := @lookup_relabel_free env r x
  show List.lookup x ((if (k == NameKind.free && env.scope.kind == .function && env.kindOf n == some .cell) = true then (n, NameKind.cell) else (n, k)) :: _) = _ \/ List.lookup x ((if (k == NameKind.free && env.scope.kind == .function && env.kindOf n == some .cell) = true then (n, NameKind.cell) else (n, k)) :: _) = _
  by_cases hc : (k == NameKind.free && env.scope.kind == .function && env.kindOf n == some .cell) = true
  ·rw [if_pos hc]
   cases hx : x == n with
   | true => left; simp only [List.lookup_cons, hx]
   | false => simp only [List.lookup_cons, hx] at h ⊢; exact ih h
  ·rw [if_neg hc]
   cases hx : x == n with
   | true => right; simp only [List.lookup_cons, hx] at h ⊢; exact h
   | false => simp only [List.lookup_cons, hx] at h ⊢; exact ih h
theorem relabel_free_mem {env : Env} : ∀ {names : List (Str × NameKind)} {x : Str} {k : NameKind}, (∀ y ∈ names, y.2 ≠ .cell) ->
  (names.map fun (n, k) => if (k == NameKind.free && env.scope.kind == .function && env.kindOf n == some .cell) then (n, NameKind.cell) else (n, k)).lookup x = some k -> (k = .cell \/ k = .free) -> (x, NameKind.free) ∈ names
 | [], _, _, _, h, _ => by simp at h
 | (n, k') :: r, x, k, hc0, h, hk => by
  have ih := @relabel_free_mem env r x k (fun y hy => hc0 y (List.mem_cons_of_mem _ hy))
  have h : List.lookup x ((if (k' == NameKind.free && env.scope.kind == .function && env.kindOf n == some .cell) = true then (n, NameKind.cell) else (n, k')) :: _) = _ := h
  by_cases hc : (k' == NameKind.free && env.scope.kind == .function && env.kindOf n == some .cell) = true
  ·rw [if_pos hc] at h
   have hf : k' = .free := by
    have := hc; simp only [Bool.and_eq_true] at this; simpa using this.1.1
   cases hx : x == n with
   | true =>
    have hxn : x = n := by simpa using hx
    subst hxn; subst hf; exact List.mem_cons_self
   | false => simp only [List.lookup_cons, hx] at h; exact List.mem_cons_of_mem _ (ih h hk)
  ·rw [if_neg hc] at h
   cases hx : x == n with
   | true =>
    have hxn : x = n := by simpa using hx
    subst hxn
    simp only [List.lookup_cons, hx] at h
    have e : k' = k := Option.some.inj h
    subst e
    rcases hk with hk | hk
    ·exact absurd hk (hc0 _ List.mem_cons_self)
    ·subst hk; exact List.mem_cons_self
   | false => simp only [List.lookup_cons, hx] at h; exact List.mem_cons_of_mem _ (ih h hk)
end L2
namespace L2
open PySem PySem.Spec PyProof.Rows
structure Blk (X : Cx) (sc : Scope) (N : List Str) (src : List (Option Nat)) : Prop where
 kind : sc.kind = .function
 nocell : ∀ y ∈ sc.names, y.2 ≠ .cell
 names : ∀ y ∈ sc.names, y.2 = .local -> sc.names.lookup y.1 = some .local
 free : ∀ y ∈ sc.names, y.2 = .free -> X.env.kindOf y.1 = some .cell \/ X.env.kindOf y.1 = some .free
 fv : ∀ (j i : Nat), src[j]? = some (some i) -> ∃ x, N[j]? = some x /\ X.N[i]? = some x /\ sc.names.lookup x = some .free
 len : src.length = N.length
noncomputable def blk0 (src : List (Option Nat)) (σ : St) : St := src.map fun o => o.bind fun i => (σ[i]?).join
noncomputable def blkCx (X : Cx) (sc : Scope) (C : Addr) (N : List Str) (fp : List Addr) (s : Shared) (H : Hp) : Cx where
 prog := X.prog
 w := X.w
 K := X.K
 mg := X.mg
 base := X.base
 A := X.A
 N := N
 s₀ := s
 H₀ := H
 env := compEnvC sc (clOf X.env.cells sc.names []) C X.env
 outer := X.stack
 stack := X.stack
 ex := fp
 fn := fun _ => false
 calm := true
 pn := []
 xe := fun _ _ => False
section
variable {X : Cx} {pins : List (Addr × Obj)} {σ : St} {H : Hp} {s : Shared}
theorem Blk.cl {sc : Scope} {N : List Str} {src : List (Option Nat)} (B : Blk X sc N src) (ok : X.Ok) : closureFor sc X.env = pure (clOf X.env.cells sc.names []) :=
 closureFor_clOf fun x hx hk => ok.has x.1 (B.free x hx hk)
theorem cl_sub {sc : Scope} {x : Str} {c : Addr} (h : (clOf X.env.cells sc.names []).lookup x = some c) : X.env.cells.lookup x = some c :=
 clOf_sub sc.names [] (fun y d e => by simp at e) h
theorem blk_start {sc : Scope} {N : List Str} {src : List (Option Nat)} {fp : List Addr} {D C : Addr} {h4 : Heap} {t : Nat} {m : Str -> Option Value}
  (B : Blk X sc N src) (I : Inv X pins σ H s) (hc : X.calm = true) (hf : ∀ b ∈ fp, FpOk X pins H b) (hfo : ∀ b ∈ fp, ∃ o, s.heap.get? b = some o)
  (hk : ∀ b o, s.heap.get? b = some o -> h4.get? b = some o) (hD : s.heap.objs.size <= D) (hDl : h4.get? D = some { cls := .type "list", data := .seq #[] 0 })
  (hn : h4.Ns C m) (hC : s.heap.objs.size <= C) (hDC : D ≠ C) :
  Inv (blkCx X sc C N fp s H) [] (blk0 src σ) (upd H D (.lst [])) { s with heap := h4, toks := t } := by
 have hHD : H D = none := I.hok.fresh hD
 have hHC : H C = none := I.hok.fresh hC
 have new : ObjOk X.prog X.w (upd H D (.lst [])) h4 D (.lst []) := ⟨Nat.zero_le _, [], 0, .nil, hDl⟩
 have cC : ∀ x c, X.env.cells.lookup x = some c -> c ≠ C := fun x c e z => by
  obtain ⟨v, q⟩ := I.cell x c e
  exact absurd (Nat.lt_of_lt_of_le q.lt (by rw [z]; exact hC)) (Nat.lt_irrefl _)
 have cD : ∀ x c, X.env.cells.lookup x = some c -> c ≠ D := fun x c e z => by
  obtain ⟨v, q⟩ := I.cell x c e
  exact absurd (Nat.lt_of_lt_of_le q.lt (by rw [z]; exact hD)) (Nat.lt_irrefl _)
 refine ⟨⟨I.ok.mod, ?_, I.ok.glob, I.ok.blt, hC, fun x y c h1 h2 => ?_, fun x hx => ?_, fun x c h _ => (by cases h), fun _ => I.ok.hd hc, I.ok.frames, .inl rfl, fun b hb => ⟨?_, fun x c e => ?_⟩, I.bs, Nat.le_trans I.ok.bsz I.sz, fun b o e hb => ?_, fun b hb z => ?_, I.stack, I.stkFree⟩,
  rfl, I.bare, Un.laid hk hD hHD, ⟨m, hn, fun i x v e1 e2 e3 => ?_⟩, fun x c e => ?_, ?_, fun x c e => ?_, fun p hp => ?_, I.hok.laid hk hD new, ?_⟩
 ·show (relabel sc X.env).kind = _
  exact B.kind
 ·exact I.ok.inj x y c (cl_sub h1) (cl_sub h2)
 ·have hx' : (∃ k, (relabel sc X.env).names.lookup x = some k /\ (k = .cell \/ k = .free)) := by
   rcases hx with hx | hx
   ·exact ⟨_, hx, .inl rfl⟩
   ·exact ⟨_, hx, .inr rfl⟩
  obtain ⟨k, e, hk'⟩ := hx'
  have hm := relabel_free_mem B.nocell e hk'
  obtain ⟨c, hc'⟩ := I.ok.has x (B.free _ hm rfl)
  exact Option.isSome_iff_exists.mp (clOf_has hc' sc.names [] hm)
 ·obtain ⟨o, e⟩ := hfo b hb
  exact Nat.ne_of_lt (Nat.lt_of_lt_of_le (Heap.lt_size e) hC)
 ·exact (hf b hb).2.2.2.2.1 x c (cl_sub e)
 ·rcases (hf b hb).2.2.2.1 with z | z
  ·exact I.ok.noex b o e z
  ·exact absurd (Nat.lt_of_lt_of_le (Heap.lt_size e) (Nat.le_trans I.ok.bsz z)) (Nat.lt_irrefl _)
 ·rcases List.mem_cons.mp (I.stkSub b z) with z | z
  ·exact (hf b hb).2.1 z
  ·exact (hf b hb).2.2.1 z
 ·have e2' : ∃ k, src[i]? = some (some k) /\ σ[k]? = some (some v) := by
   unfold blk0 at e2
   rw [List.getElem?_map] at e2
   cases q : src[i]? with
   | none => rw [q] at e2; cases e2
   | some o =>
    rw [q] at e2
    cases o with
    | none => cases e2
    | some k =>
     refine ⟨k, rfl, ?_⟩
     have e2 : (σ[k]?).join = some v := Option.some.inj e2
     cases qq : σ[k]? with
     | none => rw [qq] at e2; cases e2
     | some z => rw [qq] at e2; exact congrArg some e2
  obtain ⟨k, ek, ev⟩ := e2'
  obtain ⟨x', n1, n2, n3⟩ := B.fv i k ek
  have : x' = x := by
   have e1 : N[i]? = some x := e1
   rw [n1] at e1; exact Option.some.inj e1
  subst this
  obtain ⟨m0, hn0, hl0⟩ := I.loc
  have hfk := B.free (x', .free) (PySem.mem_of_lookup n3) rfl
  obtain ⟨u, r, l⟩ := hl0 k x' v n2 ev (by rcases hfk with z | z; exact .inr (.inl z); exact .inr (.inr z))
  refine ⟨u, r, .inr ⟨?_, ?_⟩⟩
  ·exact lookup_relabel_free n3
  ·rcases l with ⟨l, _⟩ | ⟨_, c, ec, z⟩
   ·rcases hfk with q | q <;> (rw [q] at l; cases l)
   ·obtain ⟨c', ec'⟩ := Option.isSome_iff_exists.mp (clOf_has ec sc.names [] (PySem.mem_of_lookup n3))
    have := cl_sub ec'
    rw [ec] at this; cases this
    obtain ⟨o, ho, hd⟩ := z
    exact ⟨c, ec', o, hk c o ho, hd⟩
 ·obtain ⟨v, o, ho, hd⟩ := I.cell x c (cl_sub e)
  exact ⟨v, o, hk c o ho, hd⟩
 ·show upd H D _ C = none
  rw [upd_ne (Ne.symm hDC)]; exact hHC
 ·rw [upd_ne (cD x c (cl_sub e))]; exact I.freeC x c (cl_sub e)
 ·exact absurd (show p ∈ ([] : List (Addr × Obj)) ++ [] from hp) (by simp)
 ·show (blk0 src σ).length = N.length
  unfold blk0; rw [List.length_map]; exact B.len
end
end L2
namespace L2
open PySem PySem.Spec PyProof.Rows
noncomputable abbrev noE : Value -> Shared -> Prop := fun _ _ => False
theorem toE {α : Type} {t : Sem α} {Q Q' : α -> Shared -> Prop} {M : Model} {A : Around} {E : Value -> Shared -> Prop} {s : Shared} (h : wpAny M A t Q noE s) (hQ : ∀ a s, Q a s -> Q' a s) : wpAny M A t Q' E s :=
 wpAny_mono h hQ fun _ _ x => x.elim
noncomputable abbrev compTests (ifs : List Expr) (env : Env) : Sem Bool := forIn ifs true fun c r => if r = true then do let ok ← isTrue c env (eval c env); pure (ForInStep.yield ok) else pure (ForInStep.yield r)
theorem compLoop_any {prog : Program} {w : World} {A : Around} {R : Result -> Shared -> Prop} {s : Shared} {elt target iter : Expr} {ifs : List Expr} {scope : Scope} {pos : Pos} {it acc : Value} {env : Env} (I : Nat -> Shared -> Prop)
  (turn : ∀ n s, I n s -> wpAny (model prog w) A (pyNext it) (fun r s₁ => match r with
   | none => R (.ok .next) s₁
   | some v => wpAny (model prog w) A (letOwnedTupleGo target it v) (fun _ s₁' => wpAny (model prog w) A (assign target env v) (fun _ s₂ =>
     wpAny (model prog w) A (compTests ifs env) (fun ok s₃ =>
      if ok = true then wpAny (model prog w) A (eval elt env) (fun x s₄ =>
       wpAny (model prog w) A (call (.builtin "list.append") [acc, x]) (fun _ s₅ => ∃ m, m < n /\ I m s₅) noE s₄) noE s₃
      else ∃ m, m < n /\ I m s₃) noE s₂) noE s₁') noE s₁) noE s)
  (n : Nat) (h : I n s) :
  codeAny (model prog w) A (.compLoop (.ListComp elt [⟨target, iter, ifs, 0⟩] scope pos) 0 it acc env) R s := by
 refine codeAny_loop rfl I (fun n s hI => ?_) n h
 show wpAny _ A ((compTurn (.ListComp elt [⟨target, iter, ifs, 0⟩] scope pos) 0 it acc env).onRaise (fun x => do noteFrame x env; theTreesLotGoes x)) _ _ s
 refine wpAny_noted ?_
 rw [compTurn_list]
 refine wpAny_bind (wpAny_standAt (wpAny_bind (toE (turn n s hI) (fun r s₁ h₁ => ?_))))
 cases r with
 | none => exact wpAny_pure h₁
 | some v =>
  refine wpAny_bind (toE h₁ fun _ s₁' h₁' => ?_)
  refine wpAny_bind (toE h₁' (fun _ s₂ h₂ => wpAny_bind (toE h₂ (fun ok s₃ h₃ => ?_))))
  cases ok with
  | false => exact wpAny_pure ⟨rfl, h₃⟩
  | true =>
   exact wpAny_bind (wpAny_bind (toE h₃ (fun x s₄ h₄ => wpAny_bind (toE h₄ (fun _ s₅ h₅ => wpAny_pure (wpAny_pure ⟨rfl, h₅⟩))))))
noncomputable def PTs (X : Cx) (ifs : List Expr) (t : TT) : Prop :=
 ∀ (pins : List (Addr × Obj)) (s : Shared) (σ : St) (H : Hp) (Q : Bool -> Hp -> Prop), Inv X pins σ H s -> t σ H Q -> wpAny (model X.prog X.w) X.A (compTests ifs X.env) (TP X pins σ Q) X.xe s
noncomputable def tYes : TT := fun _ H Q => Q true H
theorem pts_nil {X : Cx} : PTs X [] tYes := fun pins s σ H Q I h => wpAny_pure ⟨H, I, h⟩
theorem pts_one {X : Cx} {c : Expr} {t : TT} (h : PT X c t) : PTs X [c] t := fun pins s σ H Q I q => wpAny_tests_one (h pins s σ H Q I q)
noncomputable def tComp (src : List (Option Nat)) (wi : TI) (g : TG) (tc : TT) (te : TE) : TE := fun σ H Q => wi σ H fun J H1 => ∀ D, H1 D = none -> ∃ W : Nat -> Nat -> St -> Hp -> Prop, (∃ m, W 0 m (blk0 src σ) (upd H1 D (.lst []))) /\ ∀ i m σ' H', W i m σ' H' ->
 (J.stop i H' /\ Q (.ref D) H') \/ (J.go i H' /\ ∃ N : St -> Hp -> Prop, (∀ σ2 H2, N σ2 H2 -> ∃ m', m' < m /\ W (i + 1) m' σ2 H2) /\ ∀ x H2, J.yld i H' x H2 -> g x σ' H2 fun σ3 H3 => tc σ3 H3 fun b H4 =>
  if b = true then te σ3 H4 fun y H5 => ∃ xs, H5 D = some (.lst xs) /\ xs.length < sizeLine /\ N σ3 (upd H5 D (.lst (xs ++ [y]))) else N σ3 H4)
section
variable {X : Cx}
theorem comp_block {sc : Scope} {N : List Str} {src : List (Option Nat)} {tg elt iter : Expr} {ifs : List Expr} {pos : Pos} {g : TG} {tc : TT} {te : TE} (B : Blk X sc N src) (hc : X.calm = true)
  (hg : ∀ C fp s H, PG (blkCx X sc C N fp s H) tg g) (ht : ∀ C fp s H, PTs (blkCx X sc C N fp s H) ifs tc) (he : ∀ C fp s H, PE (blkCx X sc C N fp s H) elt te)
  {pins : List (Addr × Obj)} {σ : St} {H : Hp} {s : Shared} {it : Addr} {fp : List Addr} {tn : Nat -> Heap -> Prop} {J : It} {Q : VK} {E : Value -> Shared -> Prop}
  (I : Inv X pins σ H s) (T : Turn X.prog X.w X.K tg J fp it tn) (st : tn 0 s.heap) (hf : ∀ b ∈ fp, FpOk X pins H b)
  (hW : ∀ D, H D = none -> ∃ W : Nat -> Nat -> St -> Hp -> Prop, (∃ m, W 0 m (blk0 src σ) (upd H D (.lst []))) /\ ∀ i m σ' H', W i m σ' H' ->
   (J.stop i H' /\ Q (.ref D) H') \/ (J.go i H' /\ ∃ N : St -> Hp -> Prop, (∀ σ2 H2, N σ2 H2 -> ∃ m', m' < m /\ W (i + 1) m' σ2 H2) /\ ∀ x H2, J.yld i H' x H2 -> g x σ' H2 fun σ3 H3 => tc σ3 H3 fun b H4 =>
    if b = true then te σ3 H4 fun y H5 => ∃ xs, H5 D = some (.lst xs) /\ xs.length < sizeLine /\ N σ3 (upd H5 D (.lst (xs ++ [y]))) else N σ3 H4))
  {RR : Value -> Addr -> Result -> Shared -> Prop}
  (hRR : ∀ D C H' s' m', Inv X pins σ H' s' -> s'.heap.Ns C m' -> H' C = none -> s.heap.objs.size <= C -> Q (.ref D) H' -> RR (.ref D) C (.ok .next) s') :
  wpAny (model X.prog X.w) X.A (newList []) (fun acc s₃ => wpAny (model X.prog X.w) X.A (newFunctionEnv sc X.env.globals (clOf X.env.cells sc.names []) [] X.env.qual none .none (some X.env)) (fun cenv s₄ =>
   codeAny (model X.prog X.w) X.A (.compStart (.ListComp elt [⟨tg, iter, ifs, 0⟩] sc pos) 0 (.ref it) acc { cenv with scope := relabel sc X.env }) (RR acc cenv.locals) s₄) E s₃) E s := by
 refine wpAny_newObj_type (wpAny_newFunctionEnv B.nocell (by intro y hy; simp at hy) (fun h₁ hns₁ hsb₁ => ?_) B.kind)
 dsimp only at hns₁ hsb₁ ⊢
 generalize hH2 : s.heap.push { cls := .type "list", dict := none, data := .seq ([] : List Value).toArray } = H2 at hns₁ hsb₁ ⊢
 have hC : H2.objs.size = s.heap.objs.size + 1 := by rw [<- hH2, Heap.size_push]
 have hDC : s.heap.objs.size ≠ H2.objs.size := by rw [hC]; exact Nat.ne_of_lt (Nat.lt_succ_self _)
 have hCle : s.heap.objs.size <= H2.objs.size := by rw [hC]; exact Nat.le_succ _
 have below : ∀ b, b < s.heap.objs.size -> b ≠ H2.objs.size := fun b hb => by rw [hC]; exact Nat.ne_of_lt (Nat.lt_succ_of_lt hb)
 have old : ∀ b o, s.heap.get? b = some o -> h₁.get? b = some o := fun b o e => hsb₁.extBut b o (below b (Heap.lt_size e)) (Heap.get?_push_of_some _ (hH2 ▸ Heap.get?_push_of_some _ e))
 have hacc : h₁.get? s.heap.objs.size = some { cls := .type "list", data := .seq #[] 0 } := hsb₁.extBut _ _ hDC (Heap.get?_push_of_some _ (hH2 ▸ Heap.get?_push_size _ rfl))
 have hfo : ∀ b ∈ fp, ∃ o, s.heap.get? b = some o := fun b hb => by obtain ⟨o, e, _⟩ := T.obj _ _ st b hb; exact ⟨o, e⟩
 have st1 : tn 0 h₁ := T.keep _ _ _ st fun b _ o e => old b o e
 obtain ⟨W, ⟨m0, w0⟩, turn⟩ := hW s.heap.objs.size I.fresh
 have I1 := blk_start (t := s.toks + ([] : List (Str × Value)).length) B I hc hf hfo old (Nat.le_refl _) hacc hns₁ hCle hDC
 have stat : ∀ {H' : Hp}, (∀ b ∈ fp, H' b = none) -> ∀ b ∈ fp, FpOk (blkCx X sc H2.objs.size N fp s H) [] H' b := fun {H'} hn b hb => by
  obtain ⟨f0, f1, f2, f3, f4, f5⟩ := hf b hb
  refine ⟨hn b hb, I1.ok.exf b hb |>.1, I1.ok.exfs b hb, .inl hb, fun x c e => f4 x c (cl_sub e), fun p hp => absurd (show p ∈ ([] : List (Addr × Obj)) ++ [] from hp) (by simp)⟩
 have hfD : ∀ b ∈ fp, b ≠ s.heap.objs.size := fun b hb z => by
  obtain ⟨o, e⟩ := hfo b hb
  exact absurd (Heap.lt_size e) (by rw [z]; exact Nat.lt_irrefl _)
 have loop : ∀ s₃ : Shared, s₃ = { s with heap := h₁, toks := s.toks + ([] : List (Str × Value)).length } ->
   codeAny (model X.prog X.w) X.A (.compLoop (.ListComp elt [⟨tg, iter, ifs, 0⟩] sc pos) 0 (.ref it) (.ref s.heap.objs.size) (compEnvC sc (clOf X.env.cells sc.names []) H2.objs.size X.env))
    (RR (.ref s.heap.objs.size) H2.objs.size) s₃ := by
  rintro s₃ rfl
  refine compLoop_any (fun n s' => ∃ i σ' H', Inv (blkCx X sc H2.objs.size N fp s H) [] σ' H' s' /\ tn i s'.heap /\ (∀ b ∈ fp, H' b = none) /\ W i n σ' H') ?_ m0
   ⟨0, _, _, I1, st1, fun b hb => by rw [upd_ne (hfD b hb)]; exact (hf b hb).1, w0⟩
  rintro n s3 ⟨i, σ3, H3, I3, st3, fr3, w3⟩
  rcases turn i n σ3 H3 w3 with ⟨stop, qn⟩ | ⟨go, N', hN', step⟩
  ·refine thn (T.done (blkCx X sc H2.objs.size N fp s H) rfl rfl rfl rfl i [] s3 σ3 H3 noE I3 (stat fr3) st3 stop) fun r s4 ⟨hr, I4⟩ => ?_
   subst hr
   obtain ⟨m4, hn4, _⟩ := id I4.loc
   refine hRR _ _ H3 s4 m4 ?_ hn4 I4.free hCle qn
   exact I.call' (ch := fp) I4.os I4.base I4.hok I4.bare fun b hb => ⟨(hf b hb).2.2.2.1, (hf b hb).2.1, (hf b hb).2.2.2.2.1, (hf b hb).2.2.2.2.2⟩
  ·refine thn (T.item (blkCx X sc H2.objs.size N fp s H) rfl rfl rfl rfl i [] s3 σ3 H3 noE I3 (stat fr3) st3 go) fun r s4 ⟨u, hr, h4⟩ => ?_
   subst hr
   refine thn h4 fun _ s5 hpat => ?_
   obtain ⟨x, H5, I5, r5, y5, st5, fr5⟩ := hpat
   have I5' := I5.pinned (stat fr5) (T.obj _ _ st5)
   have again : ∀ {s7 : Shared} {σ7 : St} {H7 : Hp}, Inv (blkCx X sc H2.objs.size N fp s H) ([] ++ pinsAt fp s5.heap) σ7 H7 s7 -> N' σ7 H7 -> ∃ m, m < n /\ ∃ i σ' H', Inv (blkCx X sc H2.objs.size N fp s H) [] σ' H' s7 /\ tn i s7.heap /\ (∀ b ∈ fp, H' b = none) /\ W i m σ' H' := fun {s7 σ7 H7} I7 n7 => by
    obtain ⟨m', hm, w7⟩ := hN' σ7 H7 n7
    refine ⟨m', hm, i + 1, σ7, H7, I7.unpinned, T.keep _ _ _ st5 fun b hb o e => (I7.pin (b, o) (List.mem_append_right _ (List.mem_append_right _ (mem_pinsAt hb e)))).1, fun b hb => ?_, w7⟩
    obtain ⟨o, e, d⟩ := T.obj _ _ st5 b hb
    exact (I7.pin (b, o) (List.mem_append_right _ (List.mem_append_right _ (mem_pinsAt hb e)))).2.1
   refine thn (hg _ _ _ _ _ s5 σ3 H5 x u _ I5' r5 (step x H5 y5)) fun _ s6 hpat => ?_
   obtain ⟨σ6, H6, I6, q6⟩ := hpat
   refine thn (ht _ _ _ _ _ s6 σ6 H6 _ I6 q6) fun ok s7 hpat => ?_
   obtain ⟨H7, I7, q7⟩ := hpat
   cases ok with
   | false =>
    rw [if_neg Bool.false_ne_true] at q7 ⊢
    exact again I7 q7
   | true =>
    rw [if_pos rfl] at q7 ⊢
    refine thn (he _ _ _ _ _ s7 σ6 H7 _ I7 q7) fun y s8 hpat => ?_
    obtain ⟨v8, H8, I8, r8, q8⟩ := hpat
    obtain ⟨xs, hD8, hz8, n8⟩ := q8
    refine thn (mt_append _ s8 σ6 H8 (.ref s.heap.objs.size) [v8] (.ref s.heap.objs.size) [y] (fun _ H9 => H9 = upd H8 s.heap.objs.size (.lst (xs ++ [v8]))) I8 rfl (.cons r8 .nil) ⟨_, xs, v8, rfl, rfl, hD8, hz8, rfl⟩) fun _ s9 hpat => ?_
    obtain ⟨v9, H9, I9, r9, q9⟩ := hpat
    subst q9
    exact again I9 n8
 refine codeAny_compStart_list (loop _ rfl) (toE (T.self X.A 0 { s with heap := h₁, toks := s.toks + ([] : List (Str × Value)).length } (fun v s' => v = .ref it /\ s' = { s with heap := h₁, toks := s.toks + ([] : List (Str × Value)).length }) noE st1 ⟨rfl, rfl⟩) fun v s' hpat => ?_)
 obtain ⟨e1, e2⟩ := hpat
 subst e1; subst e2
 exact loop _ rfl
theorem Inv.letGo {pins : List (Addr × Obj)} {σ : St} {H : Hp} {s s0 : Shared} {C : Addr} {h' : Heap} (I : Inv X pins σ H s) (I0 : ∃ σ0 H0, Inv X pins σ0 H0 s0) (hC : s0.heap.objs.size <= C) (hn : H C = none) (hs : Heap.SameBut C s.heap h') : Inv X pins σ H { s with heap := h' } := by
 obtain ⟨σ0, H0, I0⟩ := I0
 refine I.turned (t' := s.toks) (it := C) (fun b o hb e => (hs.2 b hb).trans e) hn (Nat.ne_of_gt (Nat.lt_of_lt_of_le I0.lt hC)) (.inr (Nat.le_trans I0.sz hC)) (fun x c e z => ?_) fun p hp z => ?_
 ·obtain ⟨v, q⟩ := I0.cell x c e
  exact absurd (Nat.lt_of_lt_of_le q.lt (by rw [z]; exact hC)) (Nat.lt_irrefl _)
 ·exact absurd (Nat.lt_of_lt_of_le (Heap.lt_size (I0.pin p hp).1) (by rw [z]; exact hC)) (Nat.lt_irrefl _)
theorem pe_comp {sc : Scope} {N : List Str} {src : List (Option Nat)} {tg elt iter : Expr} {ifs : List Expr} {pos : Pos} {wi : TI} {g : TG} {tc : TT} {te : TE} (B : Blk X sc N src) (hc : X.calm = true)
  (hi : PI X tg iter wi) (hg : ∀ C fp s H, PG (blkCx X sc C N fp s H) tg g) (ht : ∀ C fp s H, PTs (blkCx X sc C N fp s H) ifs tc) (he : ∀ C fp s H, PE (blkCx X sc C N fp s H) elt te)
  (hs : ∀ x, foldedSetIterable iter X.env x = pure x := by intro _; rfl) :
  PE X (.ListComp elt [⟨tg, iter, ifs, 0⟩] sc pos) (tComp src wi g tc te) := by
 intro pins s σ H Q I h
 rw [eval_ListComp]
 refine wpAny_comprehension_free (use := none) rfl hs (B.cl I.ok) B.kind B.names (wpAny_mono (hi pins s σ H _ I h) (fun xv s₁ h₁ => wpAny_mono h₁ (fun itv s₂ h₂ => ?_) fun _ _ e => e) fun _ _ e => e)
 obtain ⟨it, fp, tn, J, H2, rfl, I2, T, st2, f2, hW⟩ := h₂
 refine comp_block (RR := fun acc C => compPost (model X.prog X.w) X.A X.xe none (EP X pins σ Q) acc C) (Q := Q) B hc hg ht he I2 T st2 f2 hW ?_
 intro D C H' s' m' I' hn hC hCs q
 exact ⟨m', hn, fun h'' hs'' => ⟨.ref D, H', I'.letGo ⟨_, _, I2⟩ hCs hC hs'', rfl, q⟩⟩
theorem ps_setC {i : Nat} {y : Str} {py : Pos} {sc : Scope} {N : List Str} {src : List (Option Nat)} {tg elt iter : Expr} {ifs : List Expr} {pos spos : Pos} {wi : TI} {g : TG} {tc : TT} {te : TE} (hN : X.N.Nodup) (hi' : X.N[i]? = some y) (hx : Loc X.env.scope y)
  (B : Blk X sc N src) (hc : X.calm = true)
  (hi : PI X tg iter wi) (hg : ∀ C fp s H, PG (blkCx X sc C N fp s H) tg g) (ht : ∀ C fp s H, PTs (blkCx X sc C N fp s H) ifs tc) (he : ∀ C fp s H, PE (blkCx X sc C N fp s H) elt te)
  (hsw : swapsWith (.ListComp elt [⟨tg, iter, ifs, 0⟩] sc pos) (some (.Name y py)) spos.line X.env = pure true := by rfl)
  (hs : ∀ x, foldedSetIterable iter X.env x = pure x := by intro _; rfl) (hf : X.fn y = true \/ X.env.scope.names.lookup y = some .local := by first | exact .inl rfl | exact .inr rfl | assumption) :
  PS X (.Assign [.Name y py] (.ListComp elt [⟨tg, iter, ifs, 0⟩] sc pos) spos) (tAsg (tComp src wi g tc te) (gName i)) := by
 intro pins s σ H Dn I h
 rw [exec_Assign_Name_used _ _ _ _ hsw]
 refine wpAny_bind (wpAny_standAt (wpAny_bind ?_))
 show wpAny _ _ (do let _ ← comprehension (.ListComp elt [⟨tg, iter, ifs, 0⟩] sc pos) sc X.env _ (newList []) false (eval iter X.env) (some (assign (.Name y py) X.env))) _ _ s
 refine wpAny_bind (wpAny_mono (wpAny_comprehension_free (use := some (assign (.Name y py) X.env)) (Q := fun _ s' => SP X pins Dn .next s') rfl hs (B.cl I.ok) B.kind B.names
  (wpAny_mono (hi pins s σ H _ I h) (fun xv s₁ h₁ => wpAny_mono h₁ (fun itv s₂ h₂ => ?_) fun _ _ e => e) fun _ _ e => e)) (fun _ s' hq => wpAny_pure (wpAny_pure hq)) fun _ _ e => e)
 obtain ⟨it, fp, tn, J, H2, rfl, I2, T, st2, f2, hW⟩ := h₂
 refine comp_block (RR := fun acc C => compPost (model X.prog X.w) X.A X.xe (some (assign (.Name y py) X.env)) (fun _ s' => SP X pins Dn .next s') acc C) (Q := fun x H1 => gName i x σ H1 Dn.nx) B hc hg ht he I2 T st2 f2 hW ?_
 intro D C H' s' m' I' hn hC hCs q
 show wpAny _ _ (assign (.Name y py) X.env (.ref D)) _ _ _
 refine wpAny_assign_Name (store_ok2 I' hN hi' hx (v := .ref D) rfl (fun s'' I'' hpat => ?_) hf)
 obtain ⟨a, hsb, ha⟩ := hpat
 have hCa : C ≠ a := fun z => by
  rcases ha with ha | ha
  ·have := I2.lt; rw [<- ha, <- z] at this
   exact absurd (Nat.lt_of_lt_of_le this hCs) (Nat.lt_irrefl _)
  ·obtain ⟨v, qv⟩ := I2.cell y a ha
   exact absurd (Nat.lt_of_lt_of_le qv.lt (by rw [<- z]; exact hCs)) (Nat.lt_irrefl _)
 exact ⟨m', hn.sameBut hsb hCa, fun h'' hs'' => ⟨_, H', I''.letGo ⟨_, _, I2⟩ hCs hC hs'', q⟩⟩
end
end L2
namespace L2
open PySem PySem.Spec PyProof.Rows
section
variable {X : Cx} {pins : List (Addr × Obj)} {σ : St} {H : Hp} {s : Shared} {h' : Heap}
theorem Inv.turnedL {t' : Nat} {fp : List Addr} (I : Inv X pins σ H s) (k : ∀ b o, b ∉ fp -> s.heap.get? b = some o -> h'.get? b = some o) (hf : ∀ b ∈ fp, FpOk X pins H b) : Inv X pins σ H { s with heap := h', toks := t' } := by
 have nit : ∀ b u, H b = some u -> b ∉ fp := fun b u e z => by rw [(hf b z).1] at e; cases e
 refine I.step (g' := s.gens) (d' := s.drawn) (ch := fp) (fun b hb => ⟨(hf b hb).2.2.2.1, (hf b hb).2.1, (hf b hb).2.2.2.2.1, (hf b hb).2.2.2.2.2⟩) (fun b o _ _ hc e _ => k b o hc e) (fun b o _ _ hc e _ => ⟨o.slots, k b o hc e⟩) (fun _ _ _ _ n => n)
  (fun b o hc e => ⟨o, k b o hc e⟩) (fun _ _ e => e) (fun _ _ _ e => e) (fun b ps e => ⟨#[], by rw [e]; simp⟩) (fun m hm => ?_) (fun b u e => ?_) I.bare
 ·obtain ⟨o, es, ep, ho, r⟩ := hm
  exact ⟨o, es, ep, k _ o (fun z => (hf _ z).2.1 rfl) ho, r⟩
 ·refine (I.hok b u e).stay (fun c v hc q => k c v ?_ q) (fun _ q => q) fun _ _ q => q
  rcases hc with z | z
  ·rw [z]; exact nit b u e
  ·exact nit c _ z
theorem Inv.turnedN {t' : Nat} {fp : List Addr} {T : Addr} {o : HO} (I : Inv X pins σ H s) (k : ∀ b o, b ∉ fp -> s.heap.get? b = some o -> h'.get? b = some o) (hf : ∀ b ∈ fp, FpOk X pins H b) (hT : s.heap.objs.size <= T)
  (new : ObjOk X.prog X.w (upd H T o) h' T o) : Inv X pins σ (upd H T o) { s with heap := h', toks := t' } := by
 have hn : H T = none := I.hok.fresh hT
 have ne : ∀ b u, s.heap.get? b = some u -> b ≠ T := fun b u e z => absurd (Nat.lt_of_lt_of_le (Heap.lt_size e) (by rw [z]; exact hT)) (Nat.lt_irrefl _)
 have nit : ∀ b u, H b = some u -> b ∉ fp := fun b u e z => by rw [(hf b z).1] at e; cases e
 refine I.step (g' := s.gens) (d' := s.drawn) (ch := fp) (fun b hb => ⟨(hf b hb).2.2.2.1, (hf b hb).2.1, (hf b hb).2.2.2.2.1, (hf b hb).2.2.2.2.2⟩) (fun b o _ _ hc e _ => k b o hc e) (fun b o _ _ hc e _ => ⟨o.slots, k b o hc e⟩) (fun b o _ e n => by rw [upd_ne (ne b o e)]; exact n)
  (fun b o hc e => ⟨o, k b o hc e⟩) (fun b xs e => by rw [upd_ne (ne_of_none e hn)]; exact e) (fun b _ _ e => by rw [upd_ne (ne_of_none e hn)]; exact e) (fun b ps e => ⟨#[], by rw [upd_ne (ne_of_none e hn), e]; simp⟩) (fun m hm => ?_) (fun b u e => ?_) I.bare
 ·obtain ⟨o, es, ep, ho, r⟩ := hm
  exact ⟨o, es, ep, k _ o (fun z => (hf _ z).2.1 rfl) ho, r⟩
 ·by_cases hb : b = T
  ·subst hb; rw [upd_same] at e; cases e; exact new
  ·rw [upd_ne hb] at e
   refine (I.hok b u e).stay (fun c v hc q => k c v ?_ q) (fun c q => by rw [upd_ne (ne_of_none q hn)]; exact q) fun c xs q => by rw [upd_ne (ne_of_none q hn)]; exact q
   rcases hc with z | z
   ·rw [z]; exact nit b u e
   ·exact nit c _ z
end
structure Zip2 (z TI TO i1 i2 : Addr) : Prop where
 TIz : TI ≠ z
 TOz : TO ≠ z
 i1z : i1 ≠ z
 i2z : i2 ≠ z
 TITO : TI ≠ TO
 TIi1 : TI ≠ i1
 TIi2 : TI ≠ i2
 TOi1 : TO ≠ i1
 TOi2 : TO ≠ i2
 i12 : i1 ≠ i2
section
variable {X : Cx}
end
end L2
namespace L2
open PySem PySem.Spec PyProof.Rows
structure Zip3 (z TI TO i1 i2 i3 : Addr) : Prop where
 TIz : TI ≠ z
 TOz : TO ≠ z
 i1z : i1 ≠ z
 i2z : i2 ≠ z
 i3z : i3 ≠ z
 TITO : TI ≠ TO
 TIi1 : TI ≠ i1
 TIi2 : TI ≠ i2
 TIi3 : TI ≠ i3
 TOi1 : TO ≠ i1
 TOi2 : TO ≠ i2
 TOi3 : TO ≠ i3
 i12 : i1 ≠ i2
 i13 : i1 ≠ i3
 i23 : i2 ≠ i3
structure Apart3 (z TO i1 i2 i3 l : Addr) : Prop where
 lz : l ≠ z
 lTO : l ≠ TO
 l1 : l ≠ i1
 l2 : l ≠ i2
 l3 : l ≠ i3
section
variable {prog : Program} {w : World} {A : Around} {E : Value -> Shared -> Prop} {s : Shared}
end
section
variable {X : Cx}
end
noncomputable def Ite (K : PySem.W.Frag) (l : Addr) : It :=
 ⟨fun i H => ∃ xs x, SqL K H l xs /\ xs[i]? = some x,
  fun i H v H' => ∃ t x, v = .ref t /\ H t = none /\ H' = upd H t (.tup [.int i, x]) /\ (∀ xs, SqL K H l xs -> xs[i]? = some x),
  fun i H => ∃ xs, SqL K H l xs /\ xs.length <= i⟩
theorem turn_enum {P : Program} {w : World} {K : PySem.W.Frag} {es : List Expr} {tk : Nat} {tp : Pos} (e it l : Addr) (hne : e ≠ it) :
  Turn P w K (.Tuple es tk tp) (Ite K l) [e, it] e (fun i h => (∃ old, IsEnum h e it (i : Nat) old) /\ h.IsListIter it l i) where
 mem := by simp
 obj := fun i h st b hb => by
  obtain ⟨⟨old, he⟩, ⟨o1, e1, _, d1⟩⟩ := st
  simp only [List.mem_cons, List.not_mem_nil, or_false] at hb
  rcases hb with rfl | rfl
  ·exact ⟨_, he, fun v q => by cases q⟩
  ·exact ⟨_, e1, fun v q => by rw [d1] at q; cases q⟩
 keep := fun i h h' st k => by
  obtain ⟨⟨old, he⟩, h1⟩ := st
  exact ⟨⟨old, k e (by simp) _ he⟩, h1.at fun o q => k it (by simp) o q⟩
 item := by
  intro X hP hw hK hc i pins s σ H E I hf st hg
  subst hP hw hK
  obtain ⟨xs, x, hq1, hx⟩ := hg
  obtain ⟨its1, rv1, p1, _⟩ := I.list hq1
  obtain ⟨u1, hu1, ru1⟩ := rv1.get hx
  obtain ⟨⟨old, he⟩, h1⟩ := st
  refine wpAny_pyNext_enum_item he h1 p1.isList (x := u1) (by simpa using hu1) hne fun h' a1 a2 a3 a4 hk => ?_
  refine ⟨_, rfl, ?_⟩
  refine wpAny_letOwnedTupleGo_enum a1 fun h'' he'' hs'' => ?_
  have hzs : e < s.heap.objs.size := Heap.lt_size he
  have kk : ∀ c o, c ∉ [e, it] -> s.heap.get? c = some o -> h''.get? c = some o := fun c o hc q => by
   simp only [List.mem_cons, List.not_mem_nil, or_false, not_or] at hc
   exact hs''.extBut _ _ hc.1 (hk c o hc.1 hc.2 q)
  have hT : h''.get? s.heap.objs.size = some { cls := .type "tuple", data := .seq #[.int i s.toks, u1] } := hs''.extBut _ _ (Nat.ne_of_gt hzs) a3
  have I2 : Inv X pins σ (upd H s.heap.objs.size (.tup [.int i, x])) { s with heap := h'', toks := s.toks + 1 } :=
   I.turnedN (T := s.heap.objs.size) (o := .tup [.int i, x]) kk hf (Nat.le_refl _) ⟨by show 2 <= sizeLine; decide, [.int i s.toks, u1], .cons ⟨_, rfl⟩ (.cons ru1 .nil), ⟨_, hT, rfl, _, rfl⟩⟩
  refine ⟨.ref s.heap.objs.size, _, I2, rfl, ⟨_, x, rfl, I.fresh, rfl, fun zs hzs' => by rw [I.list_inj hzs' hq1]; exact hx⟩,
   ⟨⟨_, he''⟩, a2.extBut hs''.extBut hne.symm⟩, fun c hc' => ?_⟩
  have hlt : c < s.heap.objs.size := by
   obtain ⟨o1, e1, _⟩ := h1
   simp only [List.mem_cons, List.not_mem_nil, or_false] at hc'
   rcases hc' with rfl | rfl
   ·exact hzs
   ·exact Heap.lt_size e1
  rw [upd_ne (Nat.ne_of_lt hlt)]
  exact (hf c hc').1
 done := by
  intro X hP hw hK hc i pins s σ H E I hf st hg
  subst hP hw hK
  obtain ⟨xs, hq1, hl⟩ := hg
  obtain ⟨its1, rv1, p1, _⟩ := I.list hq1
  obtain ⟨⟨old, he⟩, h1⟩ := st
  have l1' := rv1.length
  refine wpAny_pyNext_enum_end (I.ok.hd hc) he h1 p1.isList (by simp; omega) fun h' hk => ⟨rfl, ?_⟩
  exact I.turnedL (t' := s.toks) (fun c o hc q => by
   simp only [List.mem_cons, List.not_mem_nil, or_false, not_or] at hc
   exact hk c o hc.2 q) hf
 self := fun A i s Q E st h => by
  obtain ⟨⟨old, he⟩, h1⟩ := st
  have hT : s.TypeIs (.ref e) "enumerate" := ⟨_, he, rfl⟩
  refine wpAny_pyIter_slot hT F.slot_enumerate_iter (wpAny_call_entry F.slot_enumerate_iter hT F.entry_enumerate_iter ?_ (F.args_enumerate_iter_1 _))
  show wpAny _ _ (ret (.ref e)) _ _ s
  exact wpAny_pure ⟨_, rfl, "enumerate", _, hT, F.slot_enumerate_next.lookup, h⟩
section
variable {X : Cx}
noncomputable def iEnum (K : PySem.W.Frag) (ta : TA) : TI := fun σ H R => ta σ H fun vs H1 => ∃ a xs, vs = [.ref a] /\ SqL K H1 a xs /\ R (Ite K a) H1
theorem pi_enum {a : Expr} {ta : TA} {p pos : Pos} {es : List Expr} {tk : Nat} {tp : Pos} (hg : Gl X "enumerate") (hm : X.mg "enumerate" = none) (ha : PA X [a] ta) (hs : starEach [a] X.env = [(false, eval a X.env)] := by rfl) :
  PI X (.Tuple es tk tp) (.Call (.Name "enumerate" p) [a] [] pos) (iEnum X.K ta) := by
 intro pins s σ H R I h
 refine Call_ (ld_blt I hg hm boot_enumerate (PyProof.Rows.callWith_type1 (thn (ha pos pins s σ H _ I h) fun us s1 hpat => ?_) hs rfl))
 obtain ⟨vs, H1, I1, r1, q1⟩ := hpat
 obtain ⟨l, xs, e, q1, q⟩ := q1
 subst e
 cases r1 with
 | cons r rr =>
  cases rr
  cases r
  obtain ⟨its1, rv1, p1, _⟩ := I1.list q1
  refine call_enumerate_list p1.isList fun h' he hit hsz hk => ?_
  have I2 : Inv X pins σ H1 { s1 with heap := h', toks := s1.toks } := I1.kept hk
  have hT : ({ s1 with heap := h' } : Shared).TypeIs (.ref (s1.heap.objs.size + 1)) "enumerate" := ⟨_, he, rfl⟩
  refine (turn_enum (P := X.prog) (w := X.w) (K := X.K) (es := es) (tk := tk) (tp := tp) (s1.heap.objs.size + 1) s1.heap.objs.size l (Nat.ne_of_gt (Nat.lt_succ_self _))).self X.A 0 { s1 with heap := h' } _ _ ⟨⟨_, he⟩, hit⟩ ?_
  refine ⟨_, [s1.heap.objs.size + 1, s1.heap.objs.size], _, _, H1, rfl, I2, turn_enum _ _ l (Nat.ne_of_gt (Nat.lt_succ_self _)), ⟨⟨_, he⟩, hit⟩, fun b hb => ?_, q⟩
  have hb' : s1.heap.objs.size <= b := by
   simp only [List.mem_cons, List.not_mem_nil, or_false] at hb
   rcases hb with rfl | rfl
   ·exact Nat.le_succ _
   ·exact Nat.le_refl _
  exact I1.fpOk hb' (I1.hok.fresh hb')
end
end L2
namespace L2
open PySem PySem.Spec PyProof.Rows
noncomputable def XAt (a C : Addr) (h : Heap) : Prop := ∃ o vs, h.get? a = some o /\ o.cls = .ref C /\ o.data = .fields vs
noncomputable def xName (K : PySem.W.Frag) (C : Addr) : Option Str := match K.lookup C with
 | some ⟨_, _, .cls cd, _⟩ => some cd.name
 | _ => none
inductive D where
 | non | bl (b : Bool) | int (i : Int) | str (x : Str) | lst (ds : List D) | tup (ds : List D) | exc (c : Str)
mutual
inductive Rep (K : PySem.W.Frag) (F : Hp) : V -> D -> Prop
 | non : Rep K F .non .non
 | bl (b : Bool) : Rep K F (.bl b) (.bl b)
 | int (i : Int) : Rep K F (.int i) (.int i)
 | str (x : Str) : Rep K F (.str x) (.str x)
 | lst {a : Addr} {xs : List V} {ds : List D} : SqL K F a xs -> Reps K F xs ds -> Rep K F (.ref a) (.lst ds)
 | tup {a : Addr} {xs : List V} {ds : List D} : SqT K F a xs -> Reps K F xs ds -> Rep K F (.ref a) (.tup ds)
 | exc {a C : Addr} {c : Str} : (PySem.W.nsIn K mainGlobals c = some (some (.ref C)) /\ xName K C = some c) -> F a = some (.ext (XAt a C)) -> Rep K F (.ref a) (.exc c)
inductive Reps (K : PySem.W.Frag) (F : Hp) : List V -> List D -> Prop
 | nil : Reps K F [] []
 | cons {v : V} {d : D} {vs : List V} {ds : List D} : Rep K F v d -> Reps K F vs ds -> Reps K F (v :: vs) (d :: ds)
end
theorem Same.seqT {K : PySem.W.Frag} {H H' : Hp} {a : Addr} {xs : List V} (e : Same H H') (h : SqT K H a xs) : SqT K H' a xs := by
 rcases h with (h | ⟨o, h⟩) | h
 ·exact .inl (.inl (e _ _ h))
 ·exact .inl (.inr ⟨o, e _ _ h⟩)
 ·exact .inr h
section
variable {K : PySem.W.Frag} {F F' : Hp}
mutual
theorem Rep.mono (e : Same F F') : ∀ {v : V} {d : D}, Rep K F v d -> Rep K F' v d
 | _, _, .non => .non
 | _, _, .bl b => .bl b
 | _, _, .int i => .int i
 | _, _, .str x => .str x
 | _, _, .lst h r => .lst (e.seq h) (Reps.mono e r)
 | _, _, .tup h r => .tup (e.seqT h) (Reps.mono e r)
 | _, _, .exc h r => .exc h (e _ _ r)
theorem Reps.mono (e : Same F F') : ∀ {vs : List V} {ds : List D}, Reps K F vs ds -> Reps K F' vs ds
 | _, _, .nil => .nil
 | _, _, .cons h r => .cons (Rep.mono e h) (Reps.mono e r)
end
theorem Reps.length : ∀ {vs : List V} {ds : List D}, Reps K F vs ds -> vs.length = ds.length
 | _, _, .nil => rfl
 | _, _, .cons _ r => congrArg (· + 1) (Reps.length r)
theorem Reps.get : ∀ {vs : List V} {ds : List D} {i : Nat} {d : D}, Reps K F vs ds -> ds[i]? = some d -> ∃ v, vs[i]? = some v /\ Rep K F v d
 | _, _, _, _, .nil, e => by simp at e
 | _, _, 0, _, .cons h _, e => by simp at e; subst e; exact ⟨_, rfl, h⟩
 | _, _, i + 1, d, .cons _ r, e => by
  obtain ⟨v, h1, h2⟩ := Reps.get (i := i) (d := d) r (by simpa using e)
  exact ⟨v, by simpa using h1, h2⟩
theorem Reps.get' : ∀ {vs : List V} {ds : List D} {i : Nat} {v : V}, Reps K F vs ds -> vs[i]? = some v -> ∃ d, ds[i]? = some d /\ Rep K F v d
 | _, _, _, _, .nil, e => by simp at e
 | _, _, 0, _, .cons h _, e => by simp at e; subst e; exact ⟨_, rfl, h⟩
 | _, _, i + 1, d, .cons _ r, e => by
  obtain ⟨v, h1, h2⟩ := Reps.get' (i := i) (v := d) r (by simpa using e)
  exact ⟨v, by simpa using h1, h2⟩
theorem Reps.append : ∀ {vs ws : List V} {ds es : List D}, Reps K F vs ds -> Reps K F ws es -> Reps K F (vs ++ ws) (ds ++ es)
 | _, _, _, _, .nil, s => s
 | _, _, _, _, .cons h r, s => .cons h (Reps.append r s)
theorem Reps.take : ∀ {vs : List V} {ds : List D} (n : Nat), Reps K F vs ds -> Reps K F (vs.take n) (ds.take n)
 | _, _, 0, _ => .nil
 | _, _, _ + 1, .nil => .nil
 | _, _, n + 1, .cons h r => .cons h (Reps.take n r)
theorem Reps.drop : ∀ {vs : List V} {ds : List D} (n : Nat), Reps K F vs ds -> Reps K F (vs.drop n) (ds.drop n)
 | _, _, 0, r => r
 | _, _, _ + 1, .nil => .nil
 | _, _, n + 1, .cons _ r => Reps.drop n r
theorem Reps.set {v : V} {d : D} (h : Rep K F v d) : ∀ {vs : List V} {ds : List D} (i : Nat), Reps K F vs ds -> Reps K F (vs.set i v) (ds.set i d)
 | _, _, _, .nil => .nil
 | _, _, 0, .cons _ r => .cons h r
 | _, _, i + 1, .cons q r => .cons q (Reps.set h i r)
end
structure Ext (F H F' H' : Hp) : Prop where
 ff : Same F F'
 hh : Same H H'
 fh : Same F' H'
 new : ∀ b, F b = none -> F' b ≠ none -> H b = none
 nf : ∀ b o u, F' b = some (.frz o u) -> F b = some (.frz o u)
theorem Ext.refl {F H : Hp} (h : Same F H) : Ext F H F H := ⟨Same.refl _, Same.refl _, h, fun b e n => absurd e n, fun _ _ _ z => z⟩
theorem Ext.trans {F H F1 H1 F2 H2 : Hp} (a : Ext F H F1 H1) (b : Ext F1 H1 F2 H2) : Ext F H F2 H2 :=
 ⟨a.ff.trans b.ff, a.hh.trans b.hh, b.fh, fun c e n => by
  by_cases h : F1 c = none
  ·exact a.hh.free (b.new c h n)
  ·exact a.new c e h, fun c o u z => a.nf c o u (b.nf c o u z)⟩
theorem Same.put {F H : Hp} {p : Addr} {o : HO} (h : Same F H) (hp : F p = none) : Same F (upd H p o) := fun b u e => by
 rw [upd_ne (ne_of_none e hp)]; exact h b u e
theorem Same.put2 {F H : Hp} {p : Addr} {o : HO} (h : Same F H) : Same (upd F p o) (upd H p o) := fun b u e => by
 by_cases hb : b = p
 ·subst hb; rw [upd_same] at e ⊢; exact e
 ·rw [upd_ne hb] at e ⊢; exact h b u e
theorem Ext.laid {F H : Hp} {p : Addr} {o : HO} (h : Same F H) (hp : H p = none) (hz : ∀ a u, o ≠ .frz a u := by intro _ _ z; cases z) : Ext F H (upd F p o) (upd H p o) :=
 ⟨(Same.refl F).put (h.free hp), (Same.refl H).put hp, h.put2, fun b e n => by
  by_cases hb : b = p
  ·subst hb; exact hp
  ·rw [upd_ne hb] at n; exact absurd e n, fun b a u z => by
  by_cases hb : b = p
  ·subst hb; rw [upd_same] at z; exact absurd (Option.some.inj z) (hz a u)
  ·rw [upd_ne hb] at z; exact z⟩
theorem Ext.own {F H : Hp} {p : Addr} {o : HO} (h : Same F H) (hp : H p = none) : Ext F H F (upd H p o) :=
 ⟨Same.refl F, (Same.refl H).put hp, h.put (h.free hp), fun b e n => absurd e n, fun _ _ _ z => z⟩
theorem Ext.freeze {F H F' H' : Hp} {p : Addr} {o : HO} (a : Ext F H F' H') (hp' : F' p = none) (hp : H p = none) (ho : H' p = some o) (hz : ∀ a u, o ≠ .frz a u := by intro _ _ z; cases z) : Ext F H (upd F' p o) H' :=
 ⟨a.ff.put (a.ff.free hp'), a.hh, fun b u e => by
   by_cases hb : b = p
   ·subst hb; rw [upd_same] at e; cases e; exact ho
   ·rw [upd_ne hb] at e; exact a.fh b u e, fun b e n => by
   by_cases hb : b = p
   ·subst hb; exact hp
   ·rw [upd_ne hb] at n; exact a.new b e n, fun b c u z => by
   by_cases hb : b = p
   ·subst hb; rw [upd_same] at z; exact absurd (Option.some.inj z) (hz c u)
   ·rw [upd_ne hb] at z; exact a.nf b c u z⟩
inductive S where
 | sh (d : D) | own (ds : List D) | ob (p : Addr) (ds : List D)
noncomputable abbrev Ro := List (Option S)
structure Rl (K : PySem.W.Frag) (F0 H0 F H : Hp) (σ : St) (ρ : Ro) : Prop where
 ext : Ext F0 H0 F H
 len : σ.length = ρ.length
 sh : ∀ (i : Nat) d, ρ[i]? = some (some (.sh d)) -> ∃ v, σ[i]? = some (some v) /\ Rep K F v d
 own : ∀ (i : Nat) ds, ρ[i]? = some (some (.own ds)) -> ∃ p xs, σ[i]? = some (some (.ref p)) /\ F p = none /\ H p = some (.lst xs) /\ Reps K F xs ds /\ H0 p = none
 inj : ∀ (i j : Nat) p ds es, i ≠ j -> ρ[i]? = some (some (.own ds)) -> ρ[j]? = some (some (.own es)) -> σ[i]? = some (some (.ref p)) -> σ[j]? = some (some (.ref p)) -> False
 ob : ∀ (i : Nat) p ds, ρ[i]? = some (some (.ob p ds)) -> σ[i]? = some (some (.ref p)) /\ F p = none /\ H0 p = none /\ ∃ xs, H p = some (.lst xs) /\ Reps K F xs ds
 obn : ∀ (i j : Nat) p ds es, ρ[i]? = some (some (.ob p ds)) -> ρ[j]? = some (some (.own es)) -> σ[j]? = some (some (.ref p)) -> False
 ob1 : ∀ (i j : Nat) p q ds es, ρ[i]? = some (some (.ob p ds)) -> ρ[j]? = some (some (.ob q es)) -> i = j
noncomputable def nob : Option S -> Prop
 | some (.ob _ _) => False
 | _ => True
theorem set_ob {ρ : Ro} {i j : Nat} {x : Option S} {p : Addr} {ds : List D} (e : (ρ.set i x)[j]? = some (some (.ob p ds))) (hx : nob x := by exact True.intro) : i ≠ j /\ ρ[j]? = some (some (.ob p ds)) := by
 by_cases hj : i = j
 ·subst hj
  rcases Nat.lt_or_ge i ρ.length with z | z
  ·rw [List.getElem?_set_self z] at e; cases e; exact hx.elim
  ·rw [List.getElem?_eq_none (by simpa using z)] at e; cases e
 ·rw [List.getElem?_set_ne hj] at e; exact ⟨hj, e⟩
section
variable {K : PySem.W.Frag} {F0 H0 F H F' H' : Hp} {σ : St} {ρ : Ro}
theorem Rl.fh (r : Rl K F0 H0 F H σ ρ) : Same F H := r.ext.fh
theorem Rl.go (r : Rl K F0 H0 F H σ ρ) (e : Ext F H F' H') : Rl K F0 H0 F' H' σ ρ where
 ext := r.ext.trans e
 len := r.len
 sh := fun i d h => let ⟨v, a, b⟩ := r.sh i d h; ⟨v, a, b.mono e.ff⟩
 own := fun i ds h => by
  obtain ⟨p, xs, a, b, c, d, z⟩ := r.own i ds h
  refine ⟨p, xs, a, ?_, e.hh _ _ c, d.mono e.ff, z⟩
  cases q : F' p with
  | none => rfl
  | some o => have := e.new p b (by rw [q]; simp); rw [this] at c; cases c
 inj := r.inj
 ob := fun i p ds h => by
  obtain ⟨a, b, c, xs, d, z⟩ := r.ob i p ds h
  refine ⟨a, ?_, c, xs, e.hh _ _ d, z.mono e.ff⟩
  cases q : F' p with
  | none => rfl
  | some o => have := e.new p b (by rw [q]; simp); rw [this] at d; cases d
 obn := r.obn
 ob1 := r.ob1
theorem Rl.set (r : Rl K F0 H0 F H σ ρ) {i : Nat} {v : V} {d : D} (h : Rep K F v d) : Rl K F0 H0 F H (σ.set i (some v)) (ρ.set i (some (.sh d))) where
 ext := r.ext
 len := by simp [r.len]
 sh := fun j d' e => by
  by_cases hj : i = j
  ·subst hj
   have hl : i < ρ.length := by
    rcases Nat.lt_or_ge i ρ.length with z | z
    ·exact z
    ·rw [List.getElem?_eq_none (by simpa using z)] at e; cases e
   rw [List.getElem?_set_self hl] at e
   cases e
   exact ⟨v, by rw [List.getElem?_set_self (by rw [r.len]; exact hl)], h⟩
  ·rw [List.getElem?_set_ne hj] at e ⊢
   exact r.sh j d' e
 own := fun j ds e => by
  by_cases hj : i = j
  ·subst hj
   have hl : i < ρ.length := by
    rcases Nat.lt_or_ge i ρ.length with z | z
    ·exact z
    ·rw [List.getElem?_eq_none (by simpa using z)] at e; cases e
   rw [List.getElem?_set_self hl] at e
   cases e
  ·rw [List.getElem?_set_ne hj] at e ⊢
   exact r.own j ds e
 inj := fun j k p ds es hjk e1 e2 e3 e4 => by
  have n1 : i ≠ j := fun z => by
   subst z
   have hl : i < ρ.length := by
    rcases Nat.lt_or_ge i ρ.length with z | z
    ·exact z
    ·rw [List.getElem?_eq_none (by simpa using z)] at e1; cases e1
   rw [List.getElem?_set_self hl] at e1; cases e1
  have n2 : i ≠ k := fun z => by
   subst z
   have hl : i < ρ.length := by
    rcases Nat.lt_or_ge i ρ.length with z | z
    ·exact z
    ·rw [List.getElem?_eq_none (by simpa using z)] at e2; cases e2
   rw [List.getElem?_set_self hl] at e2; cases e2
  rw [List.getElem?_set_ne n1] at e1 e3
  rw [List.getElem?_set_ne n2] at e2 e4
  exact r.inj j k p ds es hjk e1 e2 e3 e4
 ob := fun j p ds e => by
  obtain ⟨n, e⟩ := set_ob e
  rw [List.getElem?_set_ne n]; exact r.ob j p ds e
 obn := fun j k p ds es e1 e2 e3 => by
  obtain ⟨n, e1⟩ := set_ob e1
  have n2 : i ≠ k := fun z => by
   subst z
   have hl : i < ρ.length := by
    rcases Nat.lt_or_ge i ρ.length with z | z
    ·exact z
    ·rw [List.getElem?_eq_none (by simpa using z)] at e2; cases e2
   rw [List.getElem?_set_self hl] at e2; cases e2
  rw [List.getElem?_set_ne n2] at e2 e3
  exact r.obn j k p ds es e1 e2 e3
 ob1 := fun j k p q ds es e1 e2 => r.ob1 j k p q ds es (set_ob e1).2 (set_ob e2).2
theorem Rl.setOwn (r : Rl K F0 H0 F H σ ρ) {i : Nat} {p : Addr} {xs : List V} {ds : List D} (hF : F p = none) (hH : H p = some (.lst xs)) (h : Reps K F xs ds) (h0 : H0 p = none)
  (fr : ∀ (j : Nat) es, i ≠ j -> ρ[j]? = some (some (.own es)) -> σ[j]? = some (some (.ref p)) -> False) (fo : ∀ (j : Nat) q es, ρ[j]? = some (some (.ob q es)) -> q ≠ p) : Rl K F0 H0 F H (σ.set i (some (.ref p))) (ρ.set i (some (.own ds))) where
 ext := r.ext
 len := by simp [r.len]
 sh := fun j d' e => by
  by_cases hj : i = j
  ·subst hj
   have hl : i < ρ.length := by
    rcases Nat.lt_or_ge i ρ.length with z | z
    ·exact z
    ·rw [List.getElem?_eq_none (by simpa using z)] at e; cases e
   rw [List.getElem?_set_self hl] at e
   cases e
  ·rw [List.getElem?_set_ne hj] at e ⊢
   exact r.sh j d' e
 own := fun j es e => by
  by_cases hj : i = j
  ·subst hj
   have hl : i < ρ.length := by
    rcases Nat.lt_or_ge i ρ.length with z | z
    ·exact z
    ·rw [List.getElem?_eq_none (by simpa using z)] at e; cases e
   rw [List.getElem?_set_self hl] at e
   cases e
   exact ⟨p, xs, by rw [List.getElem?_set_self (by rw [r.len]; exact hl)], hF, hH, h, h0⟩
  ·rw [List.getElem?_set_ne hj] at e ⊢
   exact r.own j es e
 inj := fun j k q es es' hjk e1 e2 e3 e4 => by
  by_cases n1 : i = j
  ·subst n1
   rw [List.getElem?_set_ne hjk] at e2 e4
   have hl : i < σ.length := by
    rcases Nat.lt_or_ge i σ.length with z | z
    ·exact z
    ·rw [List.getElem?_eq_none (by simpa using z)] at e3; cases e3
   rw [List.getElem?_set_self hl] at e3
   cases e3
   exact fr k es' hjk e2 e4
  ·rw [List.getElem?_set_ne n1] at e1 e3
   by_cases n2 : i = k
   ·subst n2
    have hl : i < σ.length := by
     rcases Nat.lt_or_ge i σ.length with z | z
     ·exact z
     ·rw [List.getElem?_eq_none (by simpa using z)] at e4; cases e4
    rw [List.getElem?_set_self hl] at e4
    cases e4
    exact fr j es n1 e1 e3
   ·rw [List.getElem?_set_ne n2] at e2 e4
    exact r.inj j k q es es' hjk e1 e2 e3 e4
 ob := fun j q es e => by
  obtain ⟨n, e⟩ := set_ob e
  rw [List.getElem?_set_ne n]; exact r.ob j q es e
 obn := fun j k q es es' e1 e2 e3 => by
  obtain ⟨n, e1⟩ := set_ob e1
  by_cases n2 : i = k
  ·subst n2
   have hl : i < σ.length := by
    rcases Nat.lt_or_ge i σ.length with z | z
    ·exact z
    ·rw [List.getElem?_eq_none (by simpa using z)] at e3; cases e3
   rw [List.getElem?_set_self hl] at e3
   cases e3
   exact fo j p es e1 rfl
  ·rw [List.getElem?_set_ne n2] at e2 e3
   exact r.obn j k q es es' e1 e2 e3
 ob1 := fun j k p q ds es e1 e2 => r.ob1 j k p q ds es (set_ob e1).2 (set_ob e2).2
theorem Rl.freeze (r : Rl K F0 H0 F H σ ρ) {i : Nat} {ds : List D} (h : ρ[i]? = some (some (.own ds))) : ∃ F', Rl K F0 H0 F' H σ (ρ.set i (some (.sh (.lst ds)))) /\ Same F F' := by
 obtain ⟨p, xs, a, b, c, d, z⟩ := r.own i ds h
 have hl : i < ρ.length := (List.getElem?_eq_some_iff.mp h).1
 have e : Ext F0 H0 (upd F p (.lst xs)) H := r.ext.freeze b z c
 have ff : Same F (upd F p (.lst xs)) := (Same.refl F).put b
 refine ⟨upd F p (.lst xs), ⟨e, by simp [r.len], fun j d' q => ?_, fun j es q => ?_, fun j k q es es' hjk e1 e2 e3 e4 => ?_, fun j q es e1 => ?_, fun j k q es es' e1 e2 e3 => ?_, fun j k q q' es es' e1 e2 => r.ob1 j k q q' es es' (set_ob e1).2 (set_ob e2).2⟩, ff⟩
 ·by_cases hj : i = j
  ·subst hj
   rw [List.getElem?_set_self hl] at q
   cases q
   exact ⟨_, a, .lst (SqL.of upd_same) (d.mono ff)⟩
  ·rw [List.getElem?_set_ne hj] at q
   obtain ⟨v, v1, v2⟩ := r.sh j d' q
   exact ⟨v, v1, v2.mono ff⟩
 ·by_cases hj : i = j
  ·subst hj
   rw [List.getElem?_set_self hl] at q
   cases q
  ·rw [List.getElem?_set_ne hj] at q
   obtain ⟨p', xs', a', b', c', d', z'⟩ := r.own j es q
   have hp : p' ≠ p := fun w => r.inj i j p ds es hj h q a (by rw [<- w]; exact a')
   exact ⟨p', xs', a', by rw [upd_ne hp]; exact b', c', d'.mono ff, z'⟩
 ·have n1 : i ≠ j := fun w => by subst w; rw [List.getElem?_set_self hl] at e1; cases e1
  have n2 : i ≠ k := fun w => by subst w; rw [List.getElem?_set_self hl] at e2; cases e2
  rw [List.getElem?_set_ne n1] at e1
  rw [List.getElem?_set_ne n2] at e2
  exact r.inj j k q es es' hjk e1 e2 e3 e4
 ·obtain ⟨n, e1⟩ := set_ob e1
  obtain ⟨o1, o2, o3, zs, o4, o5⟩ := r.ob j q es e1
  have hp : q ≠ p := fun w => r.obn j i q es ds e1 h (by rw [w]; exact a)
  exact ⟨o1, by rw [upd_ne hp]; exact o2, o3, zs, o4, o5.mono ff⟩
 ·obtain ⟨n, e1⟩ := set_ob e1
  have n2 : i ≠ k := fun w => by subst w; rw [List.getElem?_set_self hl] at e2; cases e2
  rw [List.getElem?_set_ne n2] at e2
  exact r.obn j k q es es' e1 e2 e3
theorem Rl.write (r : Rl K F0 H0 F H σ ρ) {i : Nat} {p : Addr} {ys : List V} {ds es : List D} (h : ρ[i]? = some (some (.own ds))) (hp : σ[i]? = some (some (.ref p))) (hy : Reps K F ys es) :
  Rl K F0 H0 F (upd H p (.lst ys)) σ (ρ.set i (some (.own es))) := by
 obtain ⟨p', xs', a, b, c, d, z⟩ := r.own i ds h
 rw [hp] at a; cases a
 have hl : i < ρ.length := (List.getElem?_eq_some_iff.mp h).1
 refine ⟨⟨r.ext.ff, r.ext.hh.put z, r.ext.fh.put b, r.ext.new, r.ext.nf⟩, by simp [r.len], fun j d' q => ?_, fun j fs q => ?_, fun j k q fs fs' hjk e1 e2 e3 e4 => ?_, fun j q fs e1 => ?_, fun j k q fs fs' e1 e2 e3 => ?_, fun j k q q' es es' e1 e2 => r.ob1 j k q q' es es' (set_ob e1).2 (set_ob e2).2⟩
 ·by_cases hj : i = j
  ·subst hj
   rw [List.getElem?_set_self hl] at q
   cases q
  ·rw [List.getElem?_set_ne hj] at q
   exact r.sh j d' q
 ·by_cases hj : i = j
  ·subst hj
   rw [List.getElem?_set_self hl] at q
   cases q
   exact ⟨p, ys, hp, b, upd_same, hy, z⟩
  ·rw [List.getElem?_set_ne hj] at q
   obtain ⟨p2, xs2, a2, b2, c2, d2, z2⟩ := r.own j fs q
   have hpp : p2 ≠ p := fun w => r.inj i j p ds fs hj h q hp (by rw [<- w]; exact a2)
   exact ⟨p2, xs2, a2, b2, by rw [upd_ne hpp]; exact c2, d2, z2⟩
 ·have back : ∀ (m : Nat) gs, (ρ.set i (some (S.own es)))[m]? = some (some (.own gs)) -> ∃ gs', ρ[m]? = some (some (.own gs')) := fun m gs e => by
   by_cases hm : i = m
   ·subst hm; exact ⟨ds, h⟩
   ·rw [List.getElem?_set_ne hm] at e; exact ⟨gs, e⟩
  obtain ⟨g1, e1⟩ := back j fs e1
  obtain ⟨g2, e2⟩ := back k fs' e2
  exact r.inj j k q g1 g2 hjk e1 e2 e3 e4
 ·obtain ⟨n, e1⟩ := set_ob e1
  obtain ⟨o1, o2, o3, zs, o4, o5⟩ := r.ob j q fs e1
  have hpp : q ≠ p := fun w => r.obn j i q fs ds e1 h (by rw [w]; exact hp)
  exact ⟨o1, o2, o3, zs, by rw [upd_ne hpp]; exact o4, o5⟩
 ·obtain ⟨n, e1⟩ := set_ob e1
  by_cases n2 : i = k
  ·subst n2; exact r.obn j i q fs ds e1 h e3
  ·rw [List.getElem?_set_ne n2] at e2
   exact r.obn j k q fs fs' e1 e2 e3
theorem Rl.writeB (r : Rl K F0 H0 F H σ ρ) {i : Nat} {p : Addr} {ys : List V} {ds es : List D} (h : ρ[i]? = some (some (.ob p ds))) (hy : Reps K F ys es) :
  Rl K F0 H0 F (upd H p (.lst ys)) σ (ρ.set i (some (.ob p es))) := by
 obtain ⟨a, b, z, xs', c, d⟩ := r.ob i p ds h
 have hl : i < ρ.length := (List.getElem?_eq_some_iff.mp h).1
 have back : ∀ (j : Nat) q fs, (ρ.set i (some (S.ob p es)))[j]? = some (some (.ob q fs)) -> j = i /\ q = p /\ fs = es := fun j q fs e => by
  by_cases hj : i = j
  ·subst hj; rw [List.getElem?_set_self hl] at e; cases e; exact ⟨rfl, rfl, rfl⟩
  ·rw [List.getElem?_set_ne hj] at e; exact absurd (r.ob1 i j p q ds fs h e) hj
 have other : ∀ (j : Nat) fs, (ρ.set i (some (S.ob p es)))[j]? = some (some (.own fs)) -> i ≠ j /\ ρ[j]? = some (some (.own fs)) := fun j fs e => by
  by_cases hj : i = j
  ·subst hj; rw [List.getElem?_set_self hl] at e; cases e
  ·rw [List.getElem?_set_ne hj] at e; exact ⟨hj, e⟩
 refine ⟨⟨r.ext.ff, r.ext.hh.put z, r.ext.fh.put b, r.ext.new, r.ext.nf⟩, by simp [r.len], fun j d' q => ?_, fun j fs q => ?_, fun j k q fs fs' hjk e1 e2 e3 e4 => r.inj j k q fs fs' hjk (other j fs e1).2 (other k fs' e2).2 e3 e4, fun j q fs e1 => ?_, fun j k q fs fs' e1 e2 e3 => ?_, fun j k q q' fs fs' e1 e2 => ?_⟩
 ·by_cases hj : i = j
  ·subst hj; rw [List.getElem?_set_self hl] at q; cases q
  ·rw [List.getElem?_set_ne hj] at q; exact r.sh j d' q
 ·obtain ⟨n, e⟩ := other j fs q
  obtain ⟨p2, xs2, a2, b2, c2, d2, z2⟩ := r.own j fs e
  have hpp : p2 ≠ p := fun w => r.obn i j p ds fs h e (by rw [<- w]; exact a2)
  exact ⟨p2, xs2, a2, b2, by rw [upd_ne hpp]; exact c2, d2, z2⟩
 ·obtain ⟨e2, e3, e4⟩ := back j q fs e1
  subst e2 e3 e4
  exact ⟨a, b, z, ys, upd_same, hy⟩
 ·obtain ⟨e4, e5, _⟩ := back j q fs e1
  subst e4 e5
  exact r.obn j k q ds fs' h (other k fs' e2).2 e3
 ·rw [(back j q fs e1).1, (back k q' fs' e2).1]
end
end L2
namespace L2
open PySem PySem.Spec PyProof.Rows
noncomputable abbrev ME := Ro -> Option D
noncomputable abbrev ML := Ro -> Option (List D)
noncomputable abbrev MB := Ro -> Option Bool
noncomputable def TD (K : PySem.W.Frag) (m : ME) : TE := fun σ H Q => ∃ F0 H0 F ρ d, Rl K F0 H0 F H σ ρ /\ m ρ = some d /\ ∀ v F' H', Ext F H F' H' -> Rep K F' v d -> Q v H'
noncomputable def TF (K : PySem.W.Frag) (m : ML) : TE := fun σ H Q => ∃ F0 H0 F ρ ds, Rl K F0 H0 F H σ ρ /\ m ρ = some ds /\ ∀ p xs F' H', Ext F H F' H' -> H p = none -> F' p = none -> H' p = some (.lst xs) -> Reps K F' xs ds -> Q (.ref p) H'
noncomputable def TB (K : PySem.W.Frag) (m : ML) : TE := fun σ H Q => ∃ F0 H0 F ρ ds, Rl K F0 H0 F H σ ρ /\ m ρ = some ds /\ ∀ p xs F' H', Ext F H F' H' -> SqL K H' p xs -> Reps K F' xs ds -> Q (.ref p) H'
noncomputable def TC (K : PySem.W.Frag) (c : MB) : TT := fun σ H Q => ∃ F0 H0 F ρ b, Rl K F0 H0 F H σ ρ /\ c ρ = some b /\ ∀ F' H', Ext F H F' H' -> Q b H'
noncomputable def TAs (K : PySem.W.Frag) (m : ML) : TA := fun σ H Q => ∃ F0 H0 F ρ ds, Rl K F0 H0 F H σ ρ /\ m ρ = some ds /\ ∀ vs F' H', Ext F H F' H' -> Reps K F' vs ds -> Q vs H'
noncomputable def PD (X : Cx) (e : Expr) (m : ME) : Prop := PE X e (TD X.K m)
noncomputable def PF (X : Cx) (e : Expr) (m : ML) : Prop := PE X e (TF X.K m)
noncomputable def PB (X : Cx) (e : Expr) (m : ML) : Prop := PE X e (TB X.K m)
noncomputable def PC' (X : Cx) (e : Expr) (c : MB) : Prop := PT X e (TC X.K c)
noncomputable def PAs (X : Cx) (es : List Expr) (m : ML) : Prop := PA X es (TAs X.K m)
section
variable {X : Cx} {a b c e : Expr} {ma mb : ME} {pos : Pos}
theorem PE.imp {t t' : TE} (h : PE X e t) (i : ∀ σ H Q, t' σ H Q -> t σ H Q) : PE X e t' := fun pins s σ H Q I q => h pins s σ H Q I (i σ H Q q)
theorem PT.imp {t t' : TT} (h : PT X e t) (i : ∀ σ H Q, t' σ H Q -> t σ H Q) : PT X e t' := fun pins s σ H Q I q => h pins s σ H Q I (i σ H Q q)
theorem PW.imp {t t' : TT} (h : PW X e t) (i : ∀ σ H Q, t' σ H Q -> t σ H Q) : PW X e t' := fun w pins s σ H Q I q => h w pins s σ H Q I (i σ H Q q)
theorem PA.imp {es : List Expr} {t t' : TA} (h : PA X es t) (i : ∀ σ H Q, t' σ H Q -> t σ H Q) : PA X es t' := fun pos pins s σ H Q I q => h pos pins s σ H Q I (i σ H Q q)
noncomputable def mvar (i : Nat) : ME := fun ρ => match ρ[i]? with | some (some (.sh d)) => some d | _ => none
noncomputable def bvar (i : Nat) : ML := fun ρ => match ρ[i]? with | some (some (.sh (.lst ds))) => some ds | some (some (.own ds)) => some ds | some (some (.ob _ ds)) => some ds | _ => none
noncomputable def mc (d : D) : ME := fun _ => some d
theorem pd_var (i : Nat) {x : Str} {pos : Pos} (h : PE X (.Name x pos) (tVar i)) : PD X (.Name x pos) (mvar i) := h.imp fun σ H Q hpat => by
 obtain ⟨F0, H0, F, ρ, d, r, e, q⟩ := hpat
 unfold mvar at e
 split at e
 ·rename_i h'
  cases e
  obtain ⟨v, e1, e2⟩ := r.sh i _ h'
  exact ⟨v, e1, q v F H (.refl r.fh) e2⟩
 ·cases e
theorem pb_var (i : Nat) {x : Str} {pos : Pos} (h : PE X (.Name x pos) (tVar i)) : PB X (.Name x pos) (bvar i) := h.imp fun σ H Q hpat => by
 obtain ⟨F0, H0, F, ρ, d, r, e, q⟩ := hpat
 unfold bvar at e
 split at e
 ·rename_i ds h'
  cases e
  obtain ⟨v, e1, e2⟩ := r.sh i _ h'
  cases e2 with
  | lst s rs => exact ⟨_, e1, q _ _ F H (.refl r.fh) (r.fh.seq s) rs⟩
 ·rename_i ds h'
  cases e
  obtain ⟨p, xs, e1, e2, e3, e4, _⟩ := r.own i _ h'
  exact ⟨_, e1, q _ _ F H (.refl r.fh) (SqL.of e3) e4⟩
 ·rename_i p ds h'
  cases e
  obtain ⟨e1, e2, _, xs, e3, e4⟩ := r.ob i p _ h'
  exact ⟨_, e1, q _ _ F H (.refl r.fh) (SqL.of e3) e4⟩
 ·cases e
theorem pd_int {i : Int} {j pos} : PD X (.Constant (.int i) j pos) (mc (.int i)) := pe_int.imp fun σ H Q hpat => by
 obtain ⟨F0, H0, F, ρ, d, r, e, q⟩ := hpat
 cases e; exact q _ F H (.refl r.fh) (.int i)
theorem pd_bl {b : Bool} {j pos} : PD X (.Constant (.bool b) j pos) (mc (.bl b)) := pe_bl.imp fun σ H Q hpat => by
 obtain ⟨F0, H0, F, ρ, d, r, e, q⟩ := hpat
 cases e; exact q _ F H (.refl r.fh) (.bl b)
theorem pd_non {j pos} : PD X (.Constant .none j pos) (mc .non) := pe_non.imp fun σ H Q hpat => by
 obtain ⟨F0, H0, F, ρ, d, r, e, q⟩ := hpat
 cases e; exact q _ F H (.refl r.fh) .non
theorem pd_str {x : Str} {j pos} : PD X (.Constant (.str x) j pos) (mc (.str x)) := pe_str.imp fun σ H Q hpat => by
 obtain ⟨F0, H0, F, ρ, d, r, e, q⟩ := hpat
 cases e; exact q _ F H (.refl r.fh) (.str x)
noncomputable def mlst (m : ML) : ME := fun ρ => (m ρ).map .lst
noncomputable def aslst (m : ME) : ML := fun ρ => match m ρ with | some (.lst ds) => some ds | _ => none
theorem pf_pd {m : ML} (h : PF X e m) : PD X e (mlst m) := h.imp fun σ H Q hpat => by
 obtain ⟨F0, H0, F, ρ, d, r, e, q⟩ := hpat
 unfold mlst at e
 cases hm : m ρ with
 | none => rw [hm] at e; cases e
 | some ds =>
  rw [hm] at e; cases e
  refine ⟨F0, H0, F, ρ, ds, r, hm, fun p xs F' H' x hp hF hH rs => ?_⟩
  exact q _ (upd F' p (.lst xs)) H' (x.freeze hF hp hH) (.lst (SqL.of upd_same) (rs.mono ((Same.refl F').put hF)))
theorem pd_pb (h : PD X e ma) : PB X e (aslst ma) := h.imp fun σ H Q hpat => by
 obtain ⟨F0, H0, F, ρ, d, r, e, q⟩ := hpat
 unfold aslst at e
 split at e
 ·rename_i ds hm
  cases e
  refine ⟨F0, H0, F, ρ, _, r, hm, fun v F' H' x rv => ?_⟩
  cases rv with
  | lst s rs => exact q _ _ F' H' x (x.fh.seq s) rs
 ·cases e
theorem pf_pb {m : ML} (h : PF X e m) : PB X e m := h.imp fun σ H Q ⟨F0, H0, F, ρ, d, r, e, q⟩ =>
 ⟨F0, H0, F, ρ, d, r, e, fun p xs F' H' x hp hF hH rs => q p xs F' H' x (SqL.of hH) rs⟩
@[irreducible] noncomputable def m2 (f : D -> D -> Option D) (x y : ME) : ME := fun ρ => (x ρ).bind fun d => (y ρ).bind fun e => f d e
noncomputable def OpD (K : PySem.W.Frag) (r : R2) (f : D -> D -> Option D) : Prop := ∀ (F H : Hp) (x y : V) (d e g : D) (Q : VK), Same F H -> Rep K F x d -> Rep K F y e -> f d e = some g -> (∀ v F' H', Ext F H F' H' -> Rep K F' v g -> Q v H') -> r x y H Q
theorem m2_some {f : D -> D -> Option D} {ρ : Ro} {g : D} (h : m2 f ma mb ρ = some g) : ∃ d e, ma ρ = some d /\ mb ρ = some e /\ f d e = some g := by
 unfold m2 at h
 cases h1 : ma ρ with
 | none => rw [h1] at h; cases h
 | some d =>
  cases h2 : mb ρ with
  | none => rw [h1, h2] at h; cases h
  | some e => rw [h1, h2] at h; exact ⟨d, e, rfl, rfl, h⟩
theorem op_d {r : R2} {f : D -> D -> Option D} (hf : OpD X.K r f) {σ : St} {H : Hp} {Q : VK} (h : TD X.K (m2 f ma mb) σ H Q) : tOp r (TD X.K ma) (TD X.K mb) σ H Q := by
 obtain ⟨F0, H0, F, ρ, g, rl, e, q⟩ := h
 obtain ⟨d, e', h1, h2, h3⟩ := m2_some e
 refine ⟨F0, H0, F, ρ, d, rl, h1, fun x F1 H1 x1 r1 => ⟨F0, H0, F1, ρ, e', rl.go x1, h2, fun y F2 H2 x2 r2 => ?_⟩⟩
 exact hf F2 H2 x y d e' g Q x2.fh (r1.mono x2.ff) r2 h3 fun v F' H' x3 => q v F' H' ((x1.trans x2).trans x3)
theorem pd_op {op : Operator} {r : R2} {f : D -> D -> Option D} (ho : OpR X (binaryOp op) r) (hf : OpD X.K r f) (ha : PD X a ma) (hb : PD X b mb) : PD X (.BinOp a op b pos) (m2 f ma mb) := (pe_op ho ha hb).imp fun _ _ _ h => op_d hf h
theorem pd_cmp {op : CmpOp} {r : R2} {f : D -> D -> Option D} (ho : OpR X (compareOp op) r) (hf : OpD X.K r f) (ha : PD X a ma) (hb : PD X b mb) (hm : behindInMarks op b = false) : PD X (.Compare a [op] [b] pos) (m2 f ma mb) := (pe_cmpR ho ha hb hm).imp fun _ _ _ h => op_d hf h
noncomputable def mtest (m : ME) : MB := fun ρ => match m ρ with | some (.bl b) => some b | _ => none
theorem pc_cmp {op : CmpOp} {r : R2} {f : D -> D -> Option D} (ho : OpR X (compareOp op) r) (hf : OpD X.K r f) (ha : PD X a ma) (hb : PD X b mb) (hm : behindInMarks op b = false) : PC' X (.Compare a [op] [b] pos) (mtest (m2 f ma mb)) := (pt_cmpR ho ha hb hm).imp fun σ H Q hpat => by
 obtain ⟨F0, H0, F, ρ, g, rl, e, q⟩ := hpat
 unfold mtest at e
 split at e
 ·rename_i k hk
  cases e
  refine op_d hf ⟨F0, H0, F, ρ, .bl g, rl, hk, fun v F' H' x r => ?_⟩
  cases r
  exact ⟨_, rfl, q F' H' x⟩
 ·cases e
noncomputable def int2 (g : Int -> Int -> Option D) : D -> D -> Option D
 | .int i, .int j => g i j
 | _, _ => none
theorem opd_rI0 {K : PySem.W.Frag} {g : Int -> Int -> V} {g' : Int -> Int -> D} (hg : ∀ F i j, Rep K F (g i j) (g' i j)) : OpD K (rI0 g) (int2 fun i j => some (g' i j)) := by
 intro F H x y d e w Q s r1 r2 h q
 cases r1 <;> cases r2 <;> first | (cases h; done) | skip
 rename_i i j
 cases h
 exact ⟨i, j, rfl, rfl, q _ F H (.refl s) (hg F i j)⟩
theorem opd_rI {K : PySem.W.Frag} {C : Int -> Int -> Prop} {ok : Int -> Int -> Bool} {g : Int -> Int -> V} {g' : Int -> Int -> D} (hC : ∀ i j, ok i j = true -> C i j) (hg : ∀ F i j, Rep K F (g i j) (g' i j)) :
  OpD K (rI C g) (int2 fun i j => if ok i j = true then some (g' i j) else none) := by
 intro F H x y d e w Q s r1 r2 h q
 cases r1 <;> cases r2 <;> first | (cases h; done) | skip
 rename_i i j
 have h : (if ok i j = true then some (g' i j) else none) = some w := h
 split at h
 ·rename_i hk
  cases h
  exact ⟨i, j, rfl, rfl, hC i j hk, q _ F H (.refl s) (hg F i j)⟩
 ·cases h
noncomputable def subD : D -> D -> Option D := int2 fun i j => some (.int (i - j))
noncomputable def mulOk (i j : Int) : Bool := (decide (-(2 ^ 64) < i) && decide (i < 2 ^ 64)) || (decide (-(2 ^ 64) < j) && decide (j < 2 ^ 64))
noncomputable def mulD : D -> D -> Option D := int2 fun i j => if mulOk i j = true then some (.int (i * j)) else none
noncomputable def fdivOk (_ j : Int) : Bool := decide (0 < j) && decide (j < 1073741824)
noncomputable def fdivD : D -> D -> Option D := int2 fun i j => if fdivOk i j = true then some (.int (i / j)) else none
noncomputable def modOk (_ j : Int) : Bool := decide (0 < j)
noncomputable def modD : D -> D -> Option D := int2 fun i j => if modOk i j = true then some (.int (i % j)) else none
noncomputable def powOk (i j : Int) : Bool := decide (0 <= j) && decide (j <= 1000000) && decide (i.natAbs < 2 ^ 64)
noncomputable def powD : D -> D -> Option D := int2 fun i j => if powOk i j = true then some (.int (i ^ j.toNat)) else none
noncomputable def ltD : D -> D -> Option D := int2 fun i j => some (.bl (decide (i < j)))
noncomputable def leD : D -> D -> Option D := int2 fun i j => some (.bl (decide (i <= j)))
noncomputable def gtD : D -> D -> Option D := int2 fun i j => some (.bl (decide (j < i)))
noncomputable def geD : D -> D -> Option D := int2 fun i j => some (.bl (decide (j <= i)))
theorem opd_sub {K : PySem.W.Frag} : OpD K (rI0 fun i j => .int (i - j)) subD := opd_rI0 fun F i j => .int _
theorem opd_mul {K : PySem.W.Frag} : OpD K (rI CMul fun i j => .int (i * j)) mulD := opd_rI (fun i j h => by
 unfold mulOk at h
 simp only [Bool.or_eq_true, Bool.and_eq_true, decide_eq_true_eq] at h
 exact h) fun F i j => .int _
theorem opd_fdiv {K : PySem.W.Frag} : OpD K (rI CDiv fun i j => .int (i / j)) fdivD := opd_rI (fun i j h => by
 unfold fdivOk at h
 simp only [Bool.and_eq_true, decide_eq_true_eq] at h
 exact h) fun F i j => .int _
theorem opd_mod {K : PySem.W.Frag} : OpD K (rI (fun _ j => 0 < j) fun i j => .int (i % j)) modD := opd_rI (fun i j h => of_decide_eq_true h) fun F i j => .int _
theorem opd_pow {K : PySem.W.Frag} : OpD K (rI CPow fun i j => .int (i ^ j.toNat)) powD := opd_rI (fun i j h => by
 unfold powOk at h
 simp only [Bool.and_eq_true, decide_eq_true_eq] at h
 exact ⟨h.1.1, h.1.2, h.2⟩) fun F i j => .int _
theorem opd_lt {K : PySem.W.Frag} : OpD K (rI0 fun i j => .bl (decide (i < j))) ltD := opd_rI0 fun F i j => .bl _
theorem opd_ge {K : PySem.W.Frag} : OpD K (rI0 fun i j => .bl (decide (j <= i))) geD := opd_rI0 fun F i j => .bl _
noncomputable def eqS : D -> D -> Option Bool
 | .non, .non => some true | .non, .int _ => some false | .int _, .non => some false | .non, .bl _ => some false | .bl _, .non => some false | .non, .str _ => some false | .str _, .non => some false
 | .int i, .int j => some (i == j) | .bl i, .bl j => some (i == j) | .str i, .str j => some (i == j)
 | .int _, .str _ => some false | .str _, .int _ => some false | .bl _, .str _ => some false | .str _, .bl _ => some false
 | _, _ => none
noncomputable def eqSD (d e : D) : Option D := (eqS d e).map .bl
noncomputable def neSD (d e : D) : Option D := (eqS d e).map fun b => .bl (!b)
theorem opd_eqS {K : PySem.W.Frag} : OpD K rEq eqSD := by
 intro F H x y d e w Q s r1 r2 h q
 cases r1 <;> cases r2 <;> first | (cases h; done) | (cases h; refine ⟨rfl, ?_⟩; first | exact q _ F H (.refl s) (.bl _) | (rw [dec_int]; exact q _ F H (.refl s) (.bl _)) | (rw [dec_bl]; exact q _ F H (.refl s) (.bl _)) | (rw [dec_str]; exact q _ F H (.refl s) (.bl _)))
noncomputable def m1 (f : D -> Option D) (x : ME) : ME := fun ρ => (x ρ).bind f
noncomputable def negD : D -> Option D
 | .int i => some (.int (-i))
 | _ => none
theorem m1_some {f : D -> Option D} {ρ : Ro} {g : D} (h : m1 f ma ρ = some g) : ∃ d, ma ρ = some d /\ f d = some g := by
 unfold m1 at h
 cases h1 : ma ρ with
 | none => rw [h1] at h; cases h
 | some d => rw [h1] at h; exact ⟨d, rfl, h⟩
theorem pd_neg (ha : PD X a ma) : PD X (.UnaryOp .USub a pos) (m1 negD ma) := (pe_un un_neg ha).imp fun σ H Q hpat => by
 obtain ⟨F0, H0, F, ρ, g, rl, e, q⟩ := hpat
 obtain ⟨d, h1, h2⟩ := m1_some e
 refine ⟨F0, H0, F, ρ, d, rl, h1, fun x F1 H1 x1 r1 => ?_⟩
 cases r1 <;> first | (cases h2; done) | skip
 cases h2
 exact ⟨_, rfl, q _ F1 H1 x1 (.int _)⟩
noncomputable def notD : D -> Option D
 | .bl b => some (.bl (!b))
 | _ => none
theorem pd_not (ha : PD X a ma) : PD X (.UnaryOp .Not a pos) (m1 notD ma) := (pe_not ha).imp fun σ H Q hpat => by
 obtain ⟨F0, H0, F, ρ, g, rl, e, q⟩ := hpat
 obtain ⟨d, h1, h2⟩ := m1_some e
 refine ⟨F0, H0, F, ρ, d, rl, h1, fun x F1 H1 x1 r1 => ?_⟩
 cases r1 <;> first | (cases h2; done) | skip
 cases h2
 exact ⟨_, rfl, q _ F1 H1 x1 (.bl _)⟩
noncomputable def truD : D -> Option Bool
 | .non => some false
 | .bl b => some b
 | .int i => some (i != 0)
 | .str y => if y.length <= sizeLine then some ((y.length : Int) != 0) else none
 | .lst ds => some (!ds.isEmpty)
 | .tup ds => some (!ds.isEmpty)
 | .exc _ => none
variable {ca cb : MB}
noncomputable def anil : ML := fun _ => some []
@[irreducible] noncomputable def acons (x : ME) (r : ML) : ML := fun ρ => (x ρ).bind fun d => (r ρ).bind fun ds => some (d :: ds)
theorem acons_some {r : ML} {ρ : Ro} {gs : List D} (h : acons ma r ρ = some gs) : ∃ d ds, ma ρ = some d /\ r ρ = some ds /\ gs = d :: ds := by
 unfold acons at h
 cases h1 : ma ρ with
 | none => rw [h1] at h; cases h
 | some d =>
  cases h2 : r ρ with
  | none => rw [h1, h2] at h; cases h
  | some ds => rw [h1, h2] at h; cases h; exact ⟨d, ds, rfl, rfl, rfl⟩
theorem pas_nil : PAs X [] anil := pa_nil.imp fun σ H Q hpat => by
 obtain ⟨F0, H0, F, ρ, g, rl, e, q⟩ := hpat
 cases e; exact q [] F H (.refl rl.fh) .nil
theorem pas_cons {es : List Expr} {m : ML} (ha : PD X a ma) (hr : PAs X es m) (hs : starEach (a :: es) X.env = (false, eval a X.env) :: starEach es X.env := by rfl) : PAs X (a :: es) (acons ma m) := (pa_cons ha hr hs).imp fun σ H Q hpat => by
 obtain ⟨F0, H0, F, ρ, g, rl, e, q⟩ := hpat
 obtain ⟨d, ds, h1, h2, rfl⟩ := acons_some e
 refine ⟨F0, H0, F, ρ, d, rl, h1, fun x F1 H1 x1 r1 => ⟨F0, H0, F1, ρ, ds, rl.go x1, h2, fun xs F2 H2 x2 r2 => ?_⟩⟩
 exact q _ F2 H2 (x1.trans x2) (.cons (r1.mono x2.ff) r2)
@[irreducible] noncomputable def sized (m : ML) : ML := fun ρ => match m ρ with | some ds => if ds.length <= sizeLine then some ds else none | none => none
theorem sized_some {m : ML} {ρ : Ro} {gs : List D} (h : sized m ρ = some gs) : m ρ = some gs /\ gs.length <= sizeLine := by
 unfold sized at h
 cases h1 : m ρ with
 | none => rw [h1] at h; cases h
 | some ds =>
  rw [h1] at h
  have h : (if ds.length <= sizeLine then some ds else none) = some gs := h
  split at h
  ·rename_i hz; cases h; exact ⟨rfl, hz⟩
  ·cases h
theorem pf_lst {es : List Expr} {m : ML} (h : PAs X es m) : PF X (.List es pos) (sized m) := (pe_lst h).imp fun σ H Q hpat => by
 obtain ⟨F0, H0, F, ρ, g, rl, e, q⟩ := hpat
 obtain ⟨h1, h2⟩ := sized_some e
 refine ⟨F0, H0, F, ρ, g, rl, h1, fun vs F1 H1 x1 r1 => ⟨by rw [r1.length]; exact h2, fun p hp => ?_⟩⟩
 exact q p vs F1 _ (x1.trans (Ext.own x1.fh hp)) (x1.hh.free hp) (x1.fh.free hp) upd_same r1
noncomputable def mtup (m : ML) : ME := fun ρ => (sized m ρ).map .tup
theorem pd_tup {es : List Expr} {m : ML} {k : Nat} (h : PAs X es m) : PD X (.Tuple es k pos) (mtup m) := (pe_tup h).imp fun σ H Q hpat => by
 obtain ⟨F0, H0, F, ρ, g, rl, e, q⟩ := hpat
 unfold mtup at e
 cases h1 : sized m ρ with
 | none => rw [h1] at e; cases e
 | some ds =>
  rw [h1] at e; cases e
  obtain ⟨h1, h2⟩ := sized_some h1
  refine ⟨F0, H0, F, ρ, ds, rl, h1, fun vs F1 H1 x1 r1 => ⟨by rw [r1.length]; exact h2, fun p hp => ?_⟩⟩
  exact q _ _ _ (x1.trans (Ext.laid x1.fh hp)) (.tup (SqT.of upd_same) (r1.mono ((Same.refl F1).put (x1.fh.free hp))))
noncomputable def mlen (m : ML) : ME := fun ρ => (m ρ).map fun ds => .int ds.length
@[irreducible] noncomputable def mix (m : ML) (i : ME) : ME := fun ρ => (m ρ).bind fun ds => (i ρ).bind fun | .int k => atI ds k | _ => none
theorem atI_reps {K : PySem.W.Frag} {F : Hp} {vs : List V} {ds : List D} {k : Int} {d : D} (r : Reps K F vs ds) (h : atI ds k = some d) : ∃ v, atI vs k = some v /\ Rep K F v d := by
 unfold atI at h ⊢
 rw [r.length]
 cases q : ixN ds.length k with
 | none => rw [q] at h; cases h
 | some j =>
  rw [q] at h
  exact r.get h
theorem pd_ix {ml : ML} (ha : PB X a ml) (hb : PD X b mb) (hs : PlainIx b := by exact fun _ _ => rfl) : PD X (.Subscript a b pos) (mix ml mb) := (pe_ix ix_list ha hb hs).imp fun σ H Q hpat => by
 obtain ⟨F0, H0, F, ρ, g, rl, e, q⟩ := hpat
 unfold mix at e
 cases h1 : ml ρ with
 | none => rw [h1] at e; cases e
 | some ds =>
  cases h2 : mb ρ with
  | none => rw [h1, h2] at e; cases e
  | some i =>
   rw [h1, h2] at e
   refine ⟨F0, H0, F, ρ, ds, rl, h1, fun p xs F1 H1 x1 s1 r1 => ⟨F0, H0, F1, ρ, i, rl.go x1, h2, fun y F2 H2 x2 r2 => ?_⟩⟩
   cases r2 <;> first | (cases e; done) | skip
   rename_i k
   obtain ⟨v, h3, h4⟩ := atI_reps (r1.mono x2.ff) (show atI ds k = some g from e)
   exact ⟨p, xs, k, v, rfl, rfl, x2.hh.seq s1, h3, q v F2 H2 (x1.trans x2) h4⟩
theorem cut_reps {K : PySem.W.Frag} {F : Hp} {vs : List V} {ds : List D} (r : Reps K F vs ds) (lo hi : Option Int) : Reps K F (cutV vs lo hi) ((ds.drop (HT.sIx ds.length 0 lo)).take (HT.sIx ds.length ds.length hi - HT.sIx ds.length 0 lo)) := by
 unfold cutV
 rw [r.length]
 exact (r.drop _).take _
noncomputable def cutL (ds : List D) (lo hi : Option Int) : List D := (ds.drop (HT.sIx ds.length 0 lo)).take (HT.sIx ds.length ds.length hi - HT.sIx ds.length 0 lo)
noncomputable abbrev MO := Ro -> Option (Option Int)
noncomputable def onone : MO := fun _ => some none
noncomputable def osome (m : ME) : MO := fun ρ => (m ρ).bind fun | .int i => some (some i) | _ => none
noncomputable def TOs (K : PySem.W.Frag) (m : MO) : TO := fun σ H Q => ∃ F0 H0 F ρ i, Rl K F0 H0 F H σ ρ /\ m ρ = some i /\ ∀ F' H', Ext F H F' H' -> Q i H'
noncomputable def POs (X : Cx) (e : Option Expr) (m : MO) : Prop := PO X e (TOs X.K m)
theorem PO.imp {e : Option Expr} {t t' : TO} (h : PO X e t) (i : ∀ σ H Q, t' σ H Q -> t σ H Q) : PO X e t' := fun pins s σ H Q I q => h pins s σ H Q I (i σ H Q q)
theorem pos_none : POs X none onone := PO.imp po_none fun σ H Q hpat => by obtain ⟨F0, H0, F, ρ, i, rl, e, q⟩ := hpat; cases e; exact q F H (.refl rl.fh)
theorem pos_some (h : PD X a ma) : POs X (some a) (osome ma) := PO.imp (po_some h) fun σ H Q hpat => by
 obtain ⟨F0, H0, F, ρ, i, rl, e, q⟩ := hpat
 unfold osome at e
 cases h1 : ma ρ with
 | none => rw [h1] at e; cases e
 | some d =>
  rw [h1] at e
  refine ⟨F0, H0, F, ρ, d, rl, h1, fun v F1 H1 x1 r1 => ?_⟩
  cases r1 <;> first | (cases e; done) | skip
  cases e
  exact ⟨_, rfl, q F1 H1 x1⟩
@[irreducible] noncomputable def mcut (m : ML) (lo hi : MO) : ML := fun ρ => (m ρ).bind fun ds => (lo ρ).bind fun l => (hi ρ).bind fun h => some (cutL ds l h)
theorem pf_cut {ml : ML} {lo hi : Option Expr} {l h : MO} (ha : PB X a ml) (hl : POs X lo l) (hh : POs X hi h) (hE : PE X e (tSl (rSlL X.K) (TB X.K ml) (TOs X.K l) (TOs X.K h))) : PF X e (mcut ml l h) := hE.imp fun σ H Q hpat => by
 obtain ⟨F0, H0, F, ρ, g, rl, e, q⟩ := hpat
 unfold mcut at e
 cases h1 : ml ρ with
 | none => rw [h1] at e; cases e
 | some ds =>
  cases h2 : l ρ with
  | none => rw [h1, h2] at e; cases e
  | some i =>
   cases h3 : h ρ with
   | none => rw [h1, h2, h3] at e; cases e
   | some j =>
    rw [h1, h2, h3] at e; cases e
    refine ⟨F0, H0, F, ρ, ds, rl, h1, fun p xs F1 H1 x1 s1 r1 => ⟨F0, H0, F1, ρ, i, rl.go x1, h2, fun F2 H2 x2 => ⟨F0, H0, F2, ρ, j, (rl.go x1).go x2, h3, fun F3 H3 x3 => ?_⟩⟩⟩
    refine ⟨p, xs, rfl, x3.hh.seq (x2.hh.seq s1), fun w hw => ?_⟩
    have xx := (x1.trans x2).trans x3
    exact q w _ F3 _ (xx.trans (Ext.own x3.fh hw)) (xx.hh.free hw) (x3.fh.free hw) upd_same (cut_reps (r1.mono (x2.ff.trans x3.ff)) i j)
end
end L2
namespace L2
open PySem PySem.Spec PyProof.Rows
theorem list_add_any (l : Addr) (items : Array Value) (n : Nat) (b : Addr) (items2 : Array Value) (n2 : Nat) (dd dd2 : Option Addr) (sl sl2 : Array (Option Value)) (hc0 : items.size + items2.size <= sizeLine) :
  Meets (Builtin.«list.__add__» ⟨[.ref l, .ref b], []⟩) (fun _ R s => s.heap.get? l = some { cls := .type "list", dict := dd, data := .seq items n, slots := sl } /\ s.heap.get? b = some { cls := .type "list", dict := dd2, data := .seq items2 n2, slots := sl2 } /\ R (.ok (.ret (Value.ref s.heap.objs.size))) { s with heap := s.heap.push { cls := Value.type "list", data := Data.seq (items ++ items2) }, toks := s.toks }) :=
 .of_wp fun prog w A R s h => by obtain ⟨hp, g, d, tk, os⟩ := s; obtain ⟨hl, hb, h⟩ := h; have f1 := AutoSeq1.idx_int; have f2 := AutoSeq1.sub_tuple_tuple; have f3 := AutoSeq1.sub_list_list; have f4 := AutoSeq1.sub_tuple_list; have f5 := AutoSeq1.sub_list_tuple; wp_walk using AutoSeq1.wpAny_loadPart' hl, AutoSeq1.wpAny_loadPart' hb; exact ⟨_, rfl, h⟩
section
variable {X : Cx} {a b c e : Expr} {ma mb : ME} {pos : Pos}
noncomputable def rCatS (K : PySem.W.Frag) : R2 := fun x y H Q => ∃ l b xs zs, x = .ref l /\ y = .ref b /\ SqL K H l xs /\ SqL K H b zs /\ xs.length + zs.length <= sizeLine /\ ∀ p, H p = none -> Q (.ref p) (upd H p (.lst (xs ++ zs)))
theorem op_catS : OpR X (binaryOp .Add) (rCatS X.K) := by
 intro pins s σ H x y v u Q I rx ry h
 obtain ⟨l, b, xs, zs, rfl, rfl, hH, hB, hz, q⟩ := h
 cases rx
 cases ry
 obtain ⟨its, r, ⟨⟨cl, dd, dt, sl⟩, n, e, hc, hd, hs⟩, z⟩ := I.list hH
 obtain ⟨its2, r2, ⟨⟨cl2, dd2, dt2, sl2⟩, n2, e2, hc2, hd2, hs2⟩, z2⟩ := I.list hB
 simp only at hc hd hs hc2 hd2 hs2
 subst hc hd hs hc2 hd2 hs2
 have l1 := r.length
 have l2 := r2.length
 refine concat_meets (T := "list") ⟨_, e, rfl⟩ ⟨_, e2, rfl⟩ PySem.noFill_list_add PySem.seq_list_add F.slot_list_add F.entry_list_add (F.args_list_add_2 _ _) (list_add_any l its.toArray n b its2.toArray n2 none none sl sl2 (by rw [List.size_toArray, List.size_toArray]; omega)) ⟨e, e2, ?_⟩
 have ea : its.toArray ++ its2.toArray = (its ++ its2).toArray := by simp
 rw [ea]
 exact ⟨.ref _, _, I.lnew (t' := s.toks) (r.append r2) (by rw [List.length_append]; omega), rfl, q _ I.fresh⟩
@[irreducible] noncomputable def mcat (x y : ML) : ML := fun ρ => (x ρ).bind fun ds => (y ρ).bind fun es => if ds.length + es.length <= sizeLine then some (ds ++ es) else none
theorem mcat_some {x y : ML} {ρ : Ro} {gs : List D} (h : mcat x y ρ = some gs) : ∃ ds es, x ρ = some ds /\ y ρ = some es /\ ds.length + es.length <= sizeLine /\ gs = ds ++ es := by
 unfold mcat at h
 cases h1 : x ρ with
 | none => rw [h1] at h; cases h
 | some ds =>
  cases h2 : y ρ with
  | none => rw [h1, h2] at h; cases h
  | some es =>
   rw [h1, h2] at h
   have h : (if ds.length + es.length <= sizeLine then some (ds ++ es) else none) = some gs := h
   split at h
   ·rename_i hz; cases h; exact ⟨ds, es, rfl, rfl, hz, rfl⟩
   ·cases h
theorem pf_cat {x y : ML} (ha : PB X a x) (hb : PB X b y) : PF X (.BinOp a .Add b pos) (mcat x y) := (pe_op op_catS ha hb).imp fun σ H Q hpat => by
 obtain ⟨F0, H0, F, ρ, g, rl, e, q⟩ := hpat
 obtain ⟨ds, es, h1, h2, hz, rfl⟩ := mcat_some e
 refine ⟨F0, H0, F, ρ, ds, rl, h1, fun p xs F1 H1 x1 s1 r1 => ⟨F0, H0, F1, ρ, es, rl.go x1, h2, fun p2 ys F2 H2 x2 s2 r2 => ?_⟩⟩
 refine ⟨p, p2, xs, ys, rfl, rfl, x2.hh.seq s1, s2, by rw [r1.length, r2.length]; exact hz, fun w hw => ?_⟩
 have xx := x1.trans x2
 exact q w _ F2 _ (xx.trans (Ext.own x2.fh hw)) (xx.hh.free hw) (x2.fh.free hw) upd_same ((r1.mono x2.ff).append r2)
noncomputable def addD : D -> D -> Option D
 | .int i, .int j => some (.int (i + j))
 | .lst ds, .lst es => if ds.length + es.length <= sizeLine then some (.lst (ds ++ es)) else none
 | _, _ => none
theorem opd_add {K : PySem.W.Frag} : OpD K (fun x y H Q => (rI0 fun i j => V.int (i + j)) x y H Q \/ rCatS K x y H Q) addD := by
 intro F H x y d e w Q s r1 r2 h q
 cases r1 with
 | int i =>
  cases r2 <;> first | (cases h; done) | skip
  cases h
  exact .inl ⟨_, _, rfl, rfl, q _ F H (.refl s) (.int _)⟩
 | lst s1 t1 =>
  rename_i p1 xs1 ds1
  cases r2 with
  | lst s2 t2 =>
   rename_i p2 xs2 ds2
   have h : (if ds1.length + ds2.length <= sizeLine then some (D.lst (ds1 ++ ds2)) else none) = some w := h
   split at h
   ·rename_i hz
    cases h
    refine .inr ⟨_, _, _, _, rfl, rfl, s.seq s1, s.seq s2, by rw [t1.length, t2.length]; exact hz, fun p hp => ?_⟩
    exact q _ _ _ (Ext.laid s hp) (.lst (SqL.of upd_same) ((t1.append t2).mono ((Same.refl F).put (s.free hp))))
   ·cases h
  | _ => cases h
 | _ => cases r2 <;> cases h
theorem pd_add (ha : PD X a ma) (hb : PD X b mb) : PD X (.BinOp a .Add b pos) (m2 addD ma mb) := pd_op (OpR.or op_add op_catS) opd_add ha hb
theorem pd_sub (ha : PD X a ma) (hb : PD X b mb) : PD X (.BinOp a .Sub b pos) (m2 subD ma mb) := pd_op op_sub opd_sub ha hb
theorem pd_mul (ha : PD X a ma) (hb : PD X b mb) : PD X (.BinOp a .Mult b pos) (m2 mulD ma mb) := pd_op op_mul opd_mul ha hb
theorem pd_fdiv (ha : PD X a ma) (hb : PD X b mb) : PD X (.BinOp a .FloorDiv b pos) (m2 fdivD ma mb) := pd_op op_fdiv opd_fdiv ha hb
theorem pd_mod (ha : PD X a ma) (hb : PD X b mb) : PD X (.BinOp a .Mod b pos) (m2 modD ma mb) := pd_op op_mod opd_mod ha hb
theorem pd_pow (ha : PD X a ma) (hb : PD X b mb) : PD X (.BinOp a .Pow b pos) (m2 powD ma mb) := pd_op op_pow opd_pow ha hb
@[irreducible] noncomputable def call1 (f : List D -> Option D) (m : ML) : ME := fun ρ => (m ρ).bind f
noncomputable def CallD (K : PySem.W.Frag) (r : List V -> Hp -> VK -> Prop) (f : List D -> Option D) : Prop := ∀ (F H : Hp) (vs : List V) (ds : List D) (g : D) (Q : VK), Same F H -> Reps K F vs ds -> f ds = some g -> (∀ v F' H', Ext F H F' H' -> Rep K F' v g -> Q v H') -> r vs H Q
theorem call_d {r : List V -> Hp -> VK -> Prop} {f : List D -> Option D} {m : ML} (hf : CallD X.K r f) {σ : St} {H : Hp} {Q : VK} (h : TD X.K (call1 f m) σ H Q) : tCB r (TAs X.K m) σ H Q := by
 obtain ⟨F0, H0, F, ρ, g, rl, e, q⟩ := h
 unfold call1 at e
 cases h1 : m ρ with
 | none => rw [h1] at e; cases e
 | some ds =>
  rw [h1] at e
  exact ⟨F0, H0, F, ρ, ds, rl, h1, fun vs F1 H1 x1 r1 => hf F1 H1 vs ds g Q x1.fh r1 e fun v F' H' x2 => q v F' H' (x1.trans x2)⟩
theorem pd_lenB {e : Expr} {p : Pos} {m : ML} (hg : Gl X "len") (hm : X.mg "len" = none) (ha : PB X e m) (hs : starEach (e :: []) X.env = (false, eval e X.env) :: starEach [] X.env := by rfl) (he : starEach [e] X.env = (false, eval e X.env) :: starEach [] X.env := by rfl) (hpl : (backTo pos (starEach [] X.env)).any (·.1) = false := by rfl) : PD X (.Call (.Name "len" p) [e] [] pos) (mlen m) :=
 (pe_callB call_len_seq hg hm PySem.boot_len (pa_cons ha pa_nil hs) (by decide) (by decide) he hpl).imp fun σ H Q hpat => by
  obtain ⟨F0, H0, F, ρ, g, rl, e, q⟩ := hpat
  unfold mlen at e
  cases h1 : m ρ with
  | none => rw [h1] at e; cases e
  | some ds =>
   rw [h1] at e; cases e
   refine ⟨F0, H0, F, ρ, ds, rl, h1, fun p xs F1 H1 x1 s1 r1 => ⟨p, xs, rfl, .inl s1, ?_⟩⟩
   rw [r1.length]
   exact q _ F1 H1 x1 (.int _)
noncomputable def two2 (k : Int -> Int -> Int) : List D -> Option D
 | [.int i, .int j] => some (.int (k i j))
 | _ => none
theorem calld_two {K : PySem.W.Frag} {k : Int -> Int -> Int} : CallD K (fun xs H Q => ∃ i j, xs = [.int i, .int j] /\ Q (.int (k i j)) H) (two2 k) := by
 intro F H vs ds g Q s r h q
 cases r with
 | nil => cases h
 | cons r rr =>
  cases rr with
  | nil => revert h; unfold two2; intro h; split at h <;> simp_all
  | cons r2 rr =>
   cases rr with
   | cons _ _ => revert h; unfold two2; intro h; split at h <;> simp_all
   | nil =>
    cases r <;> cases r2 <;> first | (cases h; done) | (cases h; exact ⟨_, _, rfl, q _ F H (.refl s) (.int _)⟩)
noncomputable def min2F : List D -> Option D := two2 fun i j => if j < i then j else i
theorem pd_min2 {x y : Expr} {p : Pos} {m : ML} (hc : X.calm = true) (hg : Gl X "min") (hm : X.mg "min" = none) (ha : PAs X [x, y] m) (he : starEach [x, y] X.env = (false, eval x X.env) :: starEach [y] X.env := by rfl) (hpl : (backTo pos (starEach [y] X.env)).any (·.1) = false := by rfl) : PD X (.Call (.Name "min" p) [x, y] [] pos) (call1 min2F m) :=
 (pe_callB (call_min2 hc) hg hm PyProof.Rows.boot_min ha (by decide) (by decide) he hpl).imp fun _ _ _ h => call_d (calld_two (k := fun i j => if j < i then j else i)) h
noncomputable def intF : List D -> Option D
 | [.int i] => some (.int i)
 | [.bl k] => some (.int (if k then 1 else 0))
 | _ => none
theorem calld_int {K : PySem.W.Frag} : CallD K (fun xs H Q => (∃ i, xs = [.int i] /\ Q (.int i) H) \/ ∃ k, xs = [.bl k] /\ Q (.int (if k then 1 else 0)) H) intF := by
 intro F H vs ds g Q s r h q
 cases r with
 | nil => cases h
 | cons r rr =>
  cases rr with
  | cons _ _ => revert h; unfold intF; intro h; split at h <;> simp_all
  | nil =>
   cases r with
   | int i => cases h; exact .inl ⟨_, rfl, q _ F H (.refl s) (.int _)⟩
   | bl i => cases h; exact .inr ⟨_, rfl, q _ F H (.refl s) (.int _)⟩
   | _ => cases h
theorem pd_intc {e : Expr} {p : Pos} {m : ML} (hg : Gl X "int") (hm : X.mg "int" = none) (ha : PAs X [e] m) (hv : bootBuiltins "int" = some (.type "int")) (he : starEach [e] X.env = (false, eval e X.env) :: starEach [] X.env := by rfl) (hpl : (backTo pos (starEach [] X.env)).any (·.1) = false := by rfl) : PD X (.Call (.Name "int" p) [e] [] pos) (call1 intF m) :=
 (pe_callTy call_int1 hg hm hv ha (by decide) (by decide) he hpl).imp fun _ _ _ h => call_d calld_int h
theorem pf_list {e : Expr} {p : Pos} {m : ML} (hg : Gl X "list") (hm : X.mg "list" = none) (ha : PB X e m) (hv : bootBuiltins "list" = some (.type "list")) (hs : starEach (e :: []) X.env = (false, eval e X.env) :: starEach [] X.env := by rfl) (hpl : (backTo pos (starEach [] X.env)).any (·.1) = false := by rfl) : PF X (.Call (.Name "list" p) [e] [] pos) m :=
 (pe_callTy call_list_of hg hm hv (pa_cons ha pa_nil hs) (by decide) (by decide) hs hpl).imp fun σ H Q hpat => by
  obtain ⟨F0, H0, F, ρ, ds, rl, e, q⟩ := hpat
  refine ⟨F0, H0, F, ρ, ds, rl, e, fun p xs F1 H1 x1 s1 r1 => ⟨p, xs, rfl, .inl s1, fun w hw => ?_⟩⟩
  exact q w _ F1 _ (x1.trans (Ext.own x1.fh hw)) (x1.hh.free hw) (x1.fh.free hw) upd_same r1
end
end L2
namespace L2
open PySem PySem.Spec PyProof.Rows
inductive Out where
 | nx (ρ : Ro) | bk (ρ : Ro) | ct (ρ : Ro) | rt (d : D) | rf (ds : List D) | rp (d : D) (ds : List D) | rg (d : D) (p : Addr) (r : List D) | rgf (ds : List D) (p : Addr) (r : List D)
noncomputable abbrev MS := Ro -> Option Out
noncomputable def okO (K : PySem.W.Frag) (F0 H0 Fb : Hp) (Dn : Ends) : Out -> Prop
 | .nx ρ => ∀ F H σ, Rl K F0 H0 F H σ ρ -> Same Fb F -> Dn.nx σ H
 | .bk ρ => ∀ F H σ, Rl K F0 H0 F H σ ρ -> Same Fb F -> Dn.bk σ H
 | .ct ρ => ∀ F H σ, Rl K F0 H0 F H σ ρ -> Same Fb F -> Dn.ct σ H
 | .rt d => ∀ v F H, Ext F0 H0 F H -> Rep K F v d -> Dn.rt v H
 | .rf ds => ∀ p xs F H, Ext F0 H0 F H -> H0 p = none -> F p = none -> H p = some (.lst xs) -> Reps K F xs ds -> Dn.rt (.ref p) H
 | .rp d ds => ∀ t v p xs F H, Ext F0 H0 F H -> H0 t = none -> H0 p = none -> t ≠ p -> F t = none -> F p = none -> H t = some (.tup [v, .ref p]) -> H p = some (.lst xs) -> Rep K F v d -> Reps K F xs ds -> Dn.rt (.ref t) H
 | .rg d p r => ∀ v F H xs, Ext F0 H0 F H -> Rep K F v d -> F p = none -> H p = some (.lst xs) -> Reps K F xs r -> Dn.rt v H
 | .rgf ds p r => ∀ q ys F H xs, Ext F0 H0 F H -> H0 q = none -> F q = none -> q ≠ p -> H q = some (.lst ys) -> Reps K F ys ds -> F p = none -> H p = some (.lst xs) -> Reps K F xs r -> Dn.rt (.ref q) H
noncomputable def TSd (K : PySem.W.Frag) (m : MS) : TS := fun Dn σ H => ∃ F0 H0 F ρ o, Rl K F0 H0 F H σ ρ /\ m ρ = some o /\ okO K F0 H0 F Dn o
theorem okO.mono {K : PySem.W.Frag} {F0 H0 Fb Fb' : Hp} {Dn : Ends} (s : Same Fb Fb') : ∀ {o : Out}, okO K F0 H0 Fb Dn o -> okO K F0 H0 Fb' Dn o
 | .nx _, h => fun F H σ rl q => h F H σ rl (s.trans q)
 | .bk _, h => fun F H σ rl q => h F H σ rl (s.trans q)
 | .ct _, h => fun F H σ rl q => h F H σ rl (s.trans q)
 | .rt _, h => h
 | .rf _, h => h
 | .rp _ _, h => h
 | .rg _ _ _, h => h
 | .rgf _ _ _, h => h
noncomputable def PSd (X : Cx) (st : Stmt) (m : MS) : Prop := PS X st (TSd X.K m)
noncomputable def PSsd (X : Cx) (st : List Stmt) (m : MS) : Prop := PSs X st (TSd X.K m)
section
variable {X : Cx} {a b c e : Expr} {ma mb : ME} {pos : Pos} {st : Stmt} {rest : List Stmt} {m1 m2' : MS}
theorem PS.imp {t t' : TS} (h : PS X st t) (i : ∀ D σ H, t' D σ H -> t D σ H) : PS X st t' := fun pins s σ H D I q => h pins s σ H D I (i D σ H q)
theorem PSs.imp {sts : List Stmt} {t t' : TS} (h : PSs X sts t) (i : ∀ D σ H, t' D σ H -> t D σ H) : PSs X sts t' := fun pins s σ H D I q => h pins s σ H D I (i D σ H q)
noncomputable def mnext : MS := fun ρ => some (.nx ρ)
noncomputable def mseq (x y : MS) : MS := fun ρ => match x ρ with | some (.nx ρ') => y ρ' | o => o
theorem pssd_nil : PSsd X [] mnext := pss_nil.imp fun D σ H hpat => by obtain ⟨F0, H0, F, ρ, o, rl, e, ok⟩ := hpat; cases e; exact ok F H σ rl (Same.refl _)
theorem pssd_cons (h1 : PSd X st m1) (h2 : PSsd X rest m2') : PSsd X (st :: rest) (mseq m1 m2') := (pss_cons h1 h2).imp fun D σ H hpat => by
 obtain ⟨F0, H0, F, ρ, o, rl, e, ok⟩ := hpat
 unfold mseq at e
 cases h : m1 ρ with
 | none => rw [h] at e; cases e
 | some o1 =>
  rw [h] at e
  cases o1 with
  | nx ρ1 => exact ⟨F0, H0, F, ρ, _, rl, h, fun F' H' σ' rl' sf => ⟨F0, H0, F', ρ1, o, rl', e, ok.mono sf⟩⟩
  | bk ρ1 => cases e; exact ⟨F0, H0, F, ρ, _, rl, h, ok⟩
  | ct ρ1 => cases e; exact ⟨F0, H0, F, ρ, _, rl, h, ok⟩
  | rt d => cases e; exact ⟨F0, H0, F, ρ, _, rl, h, ok⟩
  | rf d => cases e; exact ⟨F0, H0, F, ρ, _, rl, h, ok⟩
  | rp d ds => cases e; exact ⟨F0, H0, F, ρ, _, rl, h, ok⟩
  | rg d p r => cases e; exact ⟨F0, H0, F, ρ, _, rl, h, ok⟩
  | rgf d p r => cases e; exact ⟨F0, H0, F, ρ, _, rl, h, ok⟩
theorem pssd_one (h1 : PSd X st m1) : PSsd X [st] m1 := pss_one h1
noncomputable def mif (c : MB) (x y : MS) : MS := fun ρ => match c ρ with | some true => x ρ | some false => y ρ | none => none
theorem psd_if {ca : MB} {x y : List Stmt} {mx my : MS} (hc : PC' X c ca) (hx : PSsd X x mx) (hy : PSsd X y my) : PSd X (.If c x y pos) (mif ca mx my) := (ps_if hc hx hy).imp fun D σ H hpat => by
 obtain ⟨F0, H0, F, ρ, o, rl, e, ok⟩ := hpat
 unfold mif at e
 split at e
 ·rename_i h1
  refine ⟨F0, H0, F, ρ, _, rl, h1, fun F1 H1 x1 => iteT ⟨F0, H0, F1, ρ, o, rl.go x1, e, ok.mono x1.ff⟩⟩
 ·rename_i h1
  refine ⟨F0, H0, F, ρ, _, rl, h1, fun F1 H1 x1 => iteF ⟨F0, H0, F1, ρ, o, rl.go x1, e, ok.mono x1.ff⟩⟩
 ·cases e
noncomputable def mnever : MS := fun _ => none
theorem psd_never : PSd X st mnever := ps_never.imp fun D σ H hpat => by obtain ⟨F0, H0, F, ρ, o, rl, e, ok⟩ := hpat; cases e
noncomputable def mset (i : Nat) (x : ME) : MS := fun ρ => (x ρ).map fun d => .nx (ρ.set i (some (.sh d)))
noncomputable def msetF (i : Nat) (x : ML) : MS := fun ρ => (x ρ).map fun ds => .nx (ρ.set i (some (.own ds)))
theorem asg_d {t : TE} {i : Nat} (h : PS X st (tAsg t (gName i))) (ht : ∀ σ H Q, TD X.K ma σ H Q -> t σ H Q) : PSd X st (mset i ma) := h.imp fun D σ H hpat => by
 obtain ⟨F0, H0, F, ρ, o, rl, e, ok⟩ := hpat
 unfold mset at e
 cases h1 : ma ρ with
 | none => rw [h1] at e; cases e
 | some d =>
  rw [h1] at e; cases e
  exact ht _ _ _ ⟨F0, H0, F, ρ, d, rl, h1, fun v F1 H1 x1 r1 => ok F1 H1 _ ((rl.go x1).set r1) x1.ff⟩
theorem asg_f {t : TE} {i : Nat} {mf : ML} (h : PS X st (tAsg t (gName i))) (ht : ∀ σ H Q, TF X.K mf σ H Q -> t σ H Q) : PSd X st (msetF i mf) := h.imp fun D σ H hpat => by
 obtain ⟨F0, H0, F, ρ, o, rl, e, ok⟩ := hpat
 unfold msetF at e
 cases h1 : mf ρ with
 | none => rw [h1] at e; cases e
 | some ds =>
  rw [h1] at e; cases e
  refine ht _ _ _ ⟨F0, H0, F, ρ, ds, rl, h1, fun p xs F1 H1 x1 hp hF hH r1 => ok F1 H1 _ ?_ x1.ff⟩
  refine (rl.go x1).setOwn hF hH r1 (rl.ext.hh.free hp) (fun j es hj e1 e2 => ?_) fun j q es e1 z => ?_
  ·obtain ⟨q, ys, a1, a2, a3, _⟩ := rl.own j es e1
   rw [a1] at e2; cases e2
   rw [hp] at a3; cases a3
  ·obtain ⟨_, _, _, ys, a3, _⟩ := rl.ob j q es e1
   rw [z, hp] at a3; cases a3
theorem psd_set {i : Nat} {x : Str} {pos' : Pos} (hN : X.N.Nodup) (hi : X.N[i]? = some x) (hx : Loc X.env.scope x) (he : PD X e ma) (hs : swapsWith e (some (.Name x pos')) pos.line X.env = pure false := by rfl) (hf : X.fn x = true \/ X.env.scope.names.lookup x = some .local := by first | exact .inl rfl | exact .inr rfl | assumption) :
  PSd X (.Assign [.Name x pos'] e pos) (mset i ma) := asg_d (ps_set hN hi hx he hs hf) fun _ _ _ h => h
theorem psd_setF {i : Nat} {x : Str} {pos' : Pos} {mf : ML} (hN : X.N.Nodup) (hi : X.N[i]? = some x) (hx : Loc X.env.scope x) (he : PF X e mf) (hs : swapsWith e (some (.Name x pos')) pos.line X.env = pure false := by rfl) (hf : X.fn x = true \/ X.env.scope.names.lookup x = some .local := by first | exact .inl rfl | exact .inr rfl | assumption) :
  PSd X (.Assign [.Name x pos'] e pos) (msetF i mf) := asg_f (ps_set hN hi hx he hs hf) fun _ _ _ h => h
noncomputable def mexpr (x : ME) : MS := fun ρ => (x ρ).map fun _ => .nx ρ
theorem psd_expr (he : PD X e ma) (hs : swapsWith e none pos.line X.env = pure false := by rfl) : PSd X (.Expr e pos) (mexpr ma) := (ps_expr he hs).imp fun D σ H hpat => by
 obtain ⟨F0, H0, F, ρ, o, rl, e, ok⟩ := hpat
 unfold mexpr at e
 cases h1 : ma ρ with
 | none => rw [h1] at e; cases e
 | some d =>
  rw [h1] at e; cases e
  exact ⟨F0, H0, F, ρ, d, rl, h1, fun v F1 H1 x1 r1 => ok F1 H1 _ (rl.go x1) x1.ff⟩
noncomputable def mret (x : ME) : MS := fun ρ => (x ρ).map .rt
noncomputable def mretF (x : ML) : MS := fun ρ => (x ρ).map .rf
noncomputable def mretO (i : Nat) : MS := fun ρ => match ρ[i]? with | some (some (.own ds)) => some (.rf ds) | some (some (.sh d)) => some (.rt d) | _ => none
theorem psd_ret (he : PD X e ma) : PSd X (.Return (some e) pos) (mret ma) := (ps_ret he).imp fun D σ H hpat => by
 obtain ⟨F0, H0, F, ρ, o, rl, e, ok⟩ := hpat
 unfold mret at e
 cases h1 : ma ρ with
 | none => rw [h1] at e; cases e
 | some d =>
  rw [h1] at e; cases e
  exact ⟨F0, H0, F, ρ, d, rl, h1, fun v F1 H1 x1 r1 => ok v F1 H1 (rl.ext.trans x1) r1⟩
theorem psd_retF {mf : ML} (he : PF X e mf) : PSd X (.Return (some e) pos) (mretF mf) := (ps_ret he).imp fun D σ H hpat => by
 obtain ⟨F0, H0, F, ρ, o, rl, e, ok⟩ := hpat
 unfold mretF at e
 cases h1 : mf ρ with
 | none => rw [h1] at e; cases e
 | some ds =>
  rw [h1] at e; cases e
  exact ⟨F0, H0, F, ρ, ds, rl, h1, fun p xs F1 H1 x1 hp hF hH r1 => ok p xs F1 H1 (rl.ext.trans x1) (rl.ext.hh.free hp) hF hH r1⟩
theorem psd_retO (i : Nat) {x : Str} {pos' : Pos} (h : PE X (.Name x pos') (tVar i)) : PSd X (.Return (some (.Name x pos')) pos) (mretO i) := (ps_ret h).imp fun D σ H hpat => by
 obtain ⟨F0, H0, F, ρ, o, rl, e, ok⟩ := hpat
 unfold mretO at e
 split at e
 ·rename_i ds h1
  cases e
  obtain ⟨p, xs, e1, e2, e3, e4, e5⟩ := rl.own i _ h1
  exact ⟨_, e1, ok p xs F H rl.ext e5 e2 e3 e4⟩
 ·rename_i d h1
  cases e
  obtain ⟨v, e1, e2⟩ := rl.sh i _ h1
  exact ⟨_, e1, ok v F H rl.ext e2⟩
 ·cases e
noncomputable def mapp (i : Nat) (x : ME) : MS := fun ρ => match ρ[i]? with | some (some (.own ds)) => (x ρ).bind fun d => if ds.length < sizeLine then some (.nx (ρ.set i (some (.own (ds ++ [d]))))) else none | _ => none
theorem psd_append {i : Nat} {x : Str} {e : Expr} {px apos cpos : Pos} (hv : PE X (.Name x px) (tVar i)) (he : PD X e ma)
  (hE : ∀ t, PA X [e] t -> PE X (.Call (.Attribute (.Name x px) "append" apos) [e] [] cpos) (tBM X.K "list" rAppend (tVar i) t)) (hA : PAs X [e] (acons ma anil)) (hs : swapsWith (.Call (.Attribute (.Name x px) "append" apos) [e] [] cpos) none pos.line X.env = pure false := by rfl) :
  PSd X (.Expr (.Call (.Attribute (.Name x px) "append" apos) [e] [] cpos) pos) (mapp i ma) := (ps_expr (hE _ hA) hs).imp fun D σ H hpat => by
 obtain ⟨F0, H0, F, ρ, o, rl, e, ok⟩ := hpat
 unfold mapp at e
 split at e
 ·rename_i ds h1
  obtain ⟨p, xs, e1, e2, e3, e4, e5⟩ := rl.own i _ h1
  cases h2 : ma ρ with
  | none => rw [h2] at e; cases e
  | some d =>
   rw [h2] at e
   have e : (if ds.length < sizeLine then some (Out.nx (ρ.set i (some (.own (ds ++ [d]))))) else none) = some o := e
   split at e
   ·rename_i hz
    cases e
    refine ⟨_, e1, .inl ⟨rfl, _, SqL.of e3⟩, F0, H0, F, ρ, [d], rl, by unfold acons anil; rw [h2]; rfl, fun vs F1 H1 x1 r1 => ?_⟩
    cases r1 with
    | cons r rr =>
     cases rr
     have hp : H1 p = some (.lst xs) := x1.hh _ _ e3
     exact ⟨p, xs, _, rfl, rfl, hp, by rw [e4.length]; exact hz, ok F1 _ σ ((rl.go x1).write h1 e1 ((e4.mono x1.ff).append (.cons r .nil))) x1.ff⟩
   ·cases e
 ·cases e
noncomputable def msetix (i : Nat) (ix v : ME) : MS := fun ρ => (v ρ).bind fun d => match ρ[i]? with
 | some (some (.own ds)) => (ix ρ).bind (fun x => match x with | .int k => (ixN ds.length k).map fun j => .nx (ρ.set i (some (.own (ds.set j d)))) | _ => none)
 | some (some (.ob p ds)) => (ix ρ).bind (fun x => match x with | .int k => (ixN ds.length k).map fun j => .nx (ρ.set i (some (.ob p (ds.set j d)))) | _ => none)
 | _ => none
theorem psd_setix {i : Nat} (hE : PS X st (tAsg (TD X.K mb) (gSub (tVar i) (TD X.K ma) rSetL))) : PSd X st (msetix i ma mb) := hE.imp fun D σ H hpat => by
 obtain ⟨F0, H0, F, ρ, o, rl, e, ok⟩ := hpat
 unfold msetix at e
 cases h1 : mb ρ with
 | none => rw [h1] at e; cases e
 | some d =>
  rw [h1] at e
  refine ⟨F0, H0, F, ρ, d, rl, h1, fun y F1 H1 x1 r1 => ?_⟩
  dsimp only [Option.bind] at e
  split at e
  ·rename_i ds h2
   obtain ⟨p, xs, e1, e2, e3, e4, e5⟩ := (rl.go x1).own i _ h2
   cases h3 : ma ρ with
   | none => rw [h3] at e; cases e
   | some k' =>
    rw [h3] at e
    refine ⟨_, e1, F0, H0, F1, ρ, k', rl.go x1, h3, fun z F2 H2 x2 r2 => ?_⟩
    cases r2 <;> first | (cases e; done) | skip
    rename_i k
    have e : (ixN ds.length k).map (fun j => Out.nx (ρ.set i (some (.own (ds.set j d))))) = some o := e
    cases h4 : ixN ds.length k with
    | none => rw [h4] at e; cases e
    | some j =>
     rw [h4] at e; cases e
     have rl2 := (rl.go x1).go x2
     refine ⟨p, xs, k, j, rfl, rfl, x2.hh _ _ e3, by rw [e4.length]; exact h4, ok F2 _ σ (rl2.write h2 e1 (Reps.set (r1.mono x2.ff) j (e4.mono x2.ff))) (x1.ff.trans x2.ff)⟩
  ·rename_i p ds h2
   obtain ⟨e1, e2, e5, xs, e3, e4⟩ := (rl.go x1).ob i p _ h2
   cases h3 : ma ρ with
   | none => rw [h3] at e; cases e
   | some k' =>
    rw [h3] at e
    refine ⟨_, e1, F0, H0, F1, ρ, k', rl.go x1, h3, fun z F2 H2 x2 r2 => ?_⟩
    cases r2 <;> first | (cases e; done) | skip
    rename_i k
    have e : (ixN ds.length k).map (fun j => Out.nx (ρ.set i (some (.ob p (ds.set j d))))) = some o := e
    cases h4 : ixN ds.length k with
    | none => rw [h4] at e; cases e
    | some j =>
     rw [h4] at e; cases e
     have rl2 := (rl.go x1).go x2
     refine ⟨p, xs, k, j, rfl, rfl, x2.hh _ _ e3, by rw [e4.length]; exact h4, ok F2 _ σ (rl2.writeB h2 (Reps.set (r1.mono x2.ff) j (e4.mono x2.ff))) (x1.ff.trans x2.ff)⟩
  ·cases e
noncomputable def mfreeze (i : Nat) (m : MS) : MS := fun ρ => match ρ[i]? with | some (some (.own ds)) => m (ρ.set i (some (.sh (.lst ds)))) | _ => m ρ
theorem pssd_freeze (i : Nat) {sts : List Stmt} {m : MS} (h : PSsd X sts m) : PSsd X sts (mfreeze i m) := h.imp fun D σ H hpat => by
 obtain ⟨F0, H0, F, ρ, o, rl, e, ok⟩ := hpat
 unfold mfreeze at e
 split at e
 ·rename_i ds h1
  obtain ⟨F', rl', sf⟩ := rl.freeze h1
  exact ⟨F0, H0, F', _, o, rl', e, ok.mono sf⟩
 ·exact ⟨F0, H0, F, ρ, o, rl, e, ok⟩
inductive Tg where
 | nm (i : Nat) | tp (is : List Nat) | nt (i : Nat) (is : List Nat)
noncomputable def setAll : List Nat -> List D -> Ro -> Option Ro
 | [], [], ρ => some ρ
 | i :: is, d :: ds, ρ => setAll is ds (ρ.set i (some (.sh d)))
 | _, _, _ => none
noncomputable def tgD : Tg -> D -> Ro -> Option Ro
 | .nm i, d, ρ => some (ρ.set i (some (.sh d)))
 | .tp is, .tup ds, ρ => setAll is ds ρ
 | .nt i is, .tup [d, .tup ds], ρ => setAll is ds (ρ.set i (some (.sh d)))
 | _, _, _ => none
noncomputable def TGd (K : PySem.W.Frag) (g : Tg) : TG := fun v σ H Q => ∃ F0 H0 F ρ d ρ', Rl K F0 H0 F H σ ρ /\ Rep K F v d /\ tgD g d ρ = some ρ' /\ ∀ F' H' σ', Rl K F0 H0 F' H' σ' ρ' -> Ext F H F' H' -> Q σ' H'
noncomputable def PGd (X : Cx) (tg : Expr) (g : Tg) : Prop := PG X tg (TGd X.K g)
theorem PG.imp {tg : Expr} {t t' : TG} (h : PG X tg t) (i : ∀ v σ H Q, t' v σ H Q -> t v σ H Q) : PG X tg t' := fun pins s σ H v u Q I r q => h pins s σ H v u Q I r (i v σ H Q q)
theorem pgd_name {i : Nat} {x : Str} {pos : Pos} (h : PG X (.Name x pos) (gName i)) : PGd X (.Name x pos) (.nm i) := PG.imp h fun v σ H Q hpat => by
 obtain ⟨F0, H0, F, ρ, d, ρ', rl, r, e, q⟩ := hpat
 cases e; exact q F H _ (rl.set r) (.refl rl.fh)
noncomputable def gAll : List Nat -> TGs
 | [] => gNil
 | i :: is => gCons (gName i) (gAll is)
theorem gAll_ok {K : PySem.W.Frag} {F0 H0 F H : Hp} {Q : St -> Hp -> Prop} : ∀ (is : List Nat) (vs : List V) (ds : List D) (σ : St) (ρ ρ' : Ro), Rl K F0 H0 F H σ ρ -> Reps K F vs ds -> setAll is ds ρ = some ρ' -> (∀ σ', Rl K F0 H0 F H σ' ρ' -> Q σ' H) -> gAll is vs σ H Q
 | [], _, [], σ, ρ, ρ', rl, r, e, q => by cases r; cases e; exact ⟨rfl, q σ rl⟩
 | [], _, _ :: _, _, _, _, _, _, e, _ => by cases e
 | _ :: _, _, [], _, _, _, _, _, e, _ => by cases e
 | i :: is, _, d :: ds, σ, ρ, ρ', rl, r, e, q => by
  cases r with
  | cons r rr => exact ⟨_, _, rfl, gAll_ok is _ ds _ _ ρ' (rl.set r) rr e q⟩
theorem setAll_len : ∀ (is : List Nat) (ds : List D) (ρ ρ' : Ro), setAll is ds ρ = some ρ' -> ds.length = is.length
 | [], [], _, _, _ => rfl
 | [], _ :: _, _, _, e => by cases e
 | _ :: _, [], _, _, e => by cases e
 | _ :: is, _ :: ds, ρ, ρ', e => congrArg (· + 1) (setAll_len is ds _ ρ' e)
theorem pgd_tup {es : List Expr} {k n : Nat} {is : List Nat} {pos : Pos} (h : PG X (.Tuple es k pos) (gTup X.K n (gAll is))) (hn : is.length = n := by rfl) : PGd X (.Tuple es k pos) (.tp is) := PG.imp h fun v σ H Q hpat => by
 obtain ⟨F0, H0, F, ρ, d, ρ', rl, r, e, q⟩ := hpat
 cases r with
 | tup s t => exact ⟨_, _, rfl, rl.fh.seqT s, by rw [t.length, setAll_len _ _ _ _ e, hn], gAll_ok is _ _ σ ρ ρ' rl t e fun σ' rl' => q F H σ' rl' (.refl rl.fh)⟩
 | _ => cases e
noncomputable def masg (g : Tg) (x : ME) : MS := fun ρ => (x ρ).bind fun d => (tgD g d ρ).map .nx
theorem psd_asg {g : Tg} (h : PS X st (tAsg (TD X.K ma) (TGd X.K g))) : PSd X st (masg g ma) := h.imp fun D σ H hpat => by
 obtain ⟨F0, H0, F, ρ, o, rl, e, ok⟩ := hpat
 unfold masg at e
 cases h1 : ma ρ with
 | none => rw [h1] at e; cases e
 | some d =>
  rw [h1] at e
  have e : (tgD g d ρ).map Out.nx = some o := e
  cases h2 : tgD g d ρ with
  | none => rw [h2] at e; cases e
  | some ρ' =>
   rw [h2] at e; cases e
   exact ⟨F0, H0, F, ρ, d, rl, h1, fun v F1 H1 x1 r1 => ⟨F0, H0, F1, ρ, d, ρ', rl.go x1, r1, h2, fun F' H' σ' rl' x2 => ok F' H' σ' rl' (x1.ff.trans x2.ff)⟩⟩
structure ItD (K : PySem.W.Frag) (F : Hp) (J : It) (its : List D) : Prop where
 go : ∀ (i : Nat) F1 H1, Same F F1 -> Same F1 H1 -> i < its.length -> J.go i H1
 yld : ∀ (i : Nat) F1 H1 x H2 d, Same F F1 -> Same F1 H1 -> its[i]? = some d -> J.yld i H1 x H2 -> ∃ F2, Ext F1 H1 F2 H2 /\ Rep K F2 x d
 stop : ∀ F1 H1, Same F F1 -> Same F1 H1 -> J.stop its.length H1
noncomputable def TId (K : PySem.W.Frag) (mi : ML) : TI := fun σ H R => ∃ F0 H0 F ρ its, Rl K F0 H0 F H σ ρ /\ mi ρ = some its /\ ∀ J F' H', Ext F H F' H' -> ItD K F' J its -> R J H'
noncomputable def PId (X : Cx) (tg iter : Expr) (mi : ML) : Prop := PI X tg iter (TId X.K mi)
theorem PI.imp {tg it : Expr} {t t' : TI} (h : PI X tg it t) (i : ∀ σ H R, t' σ H R -> t σ H R) : PI X tg it t' := fun pins s σ H R I q => h pins s σ H R I (i σ H R q)
theorem itd_list {K : PySem.W.Frag} {F : Hp} {p : Addr} {xs : List V} {ds : List D} (s : SqL K F p xs) (r : Reps K F xs ds) : ItD K F (Itl K p) ds where
 go := fun i F1 H1 a b hi => by
  obtain ⟨v, e, _⟩ := r.get (List.getElem?_eq_getElem hi)
  exact ⟨xs, v, b.seq (a.seq s), e⟩
 yld := fun i F1 H1 x H2 d a b e y => by
  obtain ⟨rfl, y⟩ := y
  obtain ⟨v, e1, e2⟩ := r.get e
  have := y xs (b.seq (a.seq s))
  rw [e1] at this; cases this
  exact ⟨F1, .refl b, e2.mono a⟩
 stop := fun F1 H1 a b => ⟨xs, b.seq (a.seq s), by rw [r.length]; exact Nat.le_refl _⟩
theorem pid_seq {tg : Expr} (hd : PD X e ma) : PId X tg e (aslst ma) := PI.imp (pi_list hd) fun σ H R hpat => by
 obtain ⟨F0, H0, F, ρ, its, rl, e, q⟩ := hpat
 unfold aslst at e
 split at e
 ·rename_i ds h1
  cases e
  refine ⟨F0, H0, F, ρ, _, rl, h1, fun v F1 H1 x1 r1 => ?_⟩
  cases r1 with
  | lst s t => exact ⟨_, rfl, ⟨_, x1.fh.seq s⟩, q _ F1 H1 x1 (itd_list s t)⟩
 ·cases e
noncomputable def rangeD (lo : Int) (n : Nat) : List D := (List.range n).map fun (i : Nat) => D.int (lo + (i : Int))
theorem rangeD_length (lo : Int) (n : Nat) : (rangeD lo n).length = n := by unfold rangeD; simp
theorem itd_range {K : PySem.W.Frag} {F : Hp} {lo : Int} {n : Nat} : ItD K F (Itr lo n) (rangeD lo n) where
 go := fun i F1 H1 a b hi => by rw [rangeD_length] at hi; exact hi
 yld := fun i F1 H1 x H2 d a b e y => by
  obtain ⟨rfl, rfl⟩ := y
  unfold rangeD at e
  rw [List.getElem?_map] at e
  have hi : i < n := by
   rcases Nat.lt_or_ge i n with h | h
   ·exact h
   ·rw [List.getElem?_eq_none (by simpa using h)] at e; cases e
  rw [List.getElem?_range hi] at e
  cases e
  exact ⟨F1, .refl b, .int _⟩
 stop := fun F1 H1 a b => by rw [rangeD_length]; exact Nat.le_refl n
noncomputable def okR (j : Int) : Bool := decide (-(2 ^ 62) <= j) && decide (j < 2 ^ 62)
noncomputable def rng1 : List D -> Option (List D)
 | [.int j] => if okR j = true then some (rangeD 0 j.toNat) else none
 | _ => none
noncomputable def rng2 : List D -> Option (List D)
 | [.int i, .int j] => if (okR i && okR j) = true then some (rangeD i (j - i).toNat) else none
 | _ => none
@[irreducible] noncomputable def mlist (f : List D -> Option (List D)) (m : ML) : ML := fun ρ => (m ρ).bind f
theorem mlist_some {f : List D -> Option (List D)} {m : ML} {ρ : Ro} {gs : List D} (h : mlist f m ρ = some gs) : ∃ ds, m ρ = some ds /\ f ds = some gs := by
 unfold mlist at h
 cases h1 : m ρ with
 | none => rw [h1] at h; cases h
 | some ds => rw [h1] at h; exact ⟨ds, rfl, h⟩
theorem pid_range1 {tg a : Expr} {m : ML} {p pos : Pos} (hg : Gl X "range") (hm : X.mg "range" = none) (ha : PAs X [a] m) (hs : starEach [a] X.env = [(false, eval a X.env)] := by rfl) : PId X tg (.Call (.Name "range" p) [a] [] pos) (mlist rng1 m) := PI.imp (pi_range1 hg hm ha hs) fun σ H R hpat => by
 obtain ⟨F0, H0, F, ρ, its, rl, e, q⟩ := hpat
 obtain ⟨ds, h1, h2⟩ := mlist_some e
 refine ⟨F0, H0, F, ρ, ds, rl, h1, fun vs F1 H1 x1 r1 => ?_⟩
 unfold rng1 at h2
 split at h2
 ·rename_i j
  split at h2
  ·rename_i hk
   cases h2
   unfold okR at hk
   simp only [Bool.and_eq_true, decide_eq_true_eq] at hk
   cases r1 with
   | cons r rr =>
    cases rr; cases r
    exact ⟨j, rfl, hk.1, hk.2, q _ F1 H1 x1 itd_range⟩
  ·cases h2
 ·cases h2
theorem pid_range2 {tg a b : Expr} {m : ML} {p pos : Pos} (hg : Gl X "range") (hm : X.mg "range" = none) (ha : PAs X [a, b] m) (hs : starEach [a, b] X.env = [(false, eval a X.env), (false, eval b X.env)] := by rfl) (hs2 : starEach [b] X.env = [(false, eval b X.env)] := by rfl) : PId X tg (.Call (.Name "range" p) [a, b] [] pos) (mlist rng2 m) := PI.imp (pi_range2 hg hm ha hs hs2) fun σ H R hpat => by
 obtain ⟨F0, H0, F, ρ, its, rl, e, q⟩ := hpat
 obtain ⟨ds, h1, h2⟩ := mlist_some e
 refine ⟨F0, H0, F, ρ, ds, rl, h1, fun vs F1 H1 x1 r1 => ?_⟩
 unfold rng2 at h2
 split at h2
 ·rename_i i j
  split at h2
  ·rename_i hk
   cases h2
   unfold okR at hk
   simp only [Bool.and_eq_true, decide_eq_true_eq] at hk
   cases r1 with
   | cons r rr =>
    cases rr with
    | cons r2 rr =>
     cases rr; cases r; cases r2
     exact ⟨i, j, rfl, ⟨hk.1.1, hk.1.2, hk.2.1, hk.2.2⟩, q _ F1 H1 x1 itd_range⟩
  ·cases h2
 ·cases h2
noncomputable def enumL : Nat -> List D -> List D
 | _, [] => []
 | i, d :: ds => .tup [.int i, d] :: enumL (i + 1) ds
theorem enumL_length : ∀ i ds, (enumL i ds).length = ds.length
 | _, [] => rfl
 | i, _ :: ds => by simp [enumL, enumL_length (i + 1) ds]
theorem enumL_get : ∀ (k : Nat) ds (i : Nat) d, ds[i]? = some d -> (enumL k ds)[i]? = some (.tup [.int ((k + i : Nat) : Int), d])
 | _, [], _, _, h => by simp at h
 | k, _ :: ds, 0, d, h => by simp at h; subst h; rfl
 | k, _ :: ds, i + 1, d, h => by
  have := enumL_get (k + 1) ds i d (by simpa using h)
  have e : k + 1 + i = k + (i + 1) := by omega
  rw [e] at this
  simpa [enumL] using this
noncomputable def enum1 : List D -> Option (List D)
 | [.lst ds] => some (enumL 0 ds)
 | _ => none
theorem itd_enum {K : PySem.W.Frag} {F : Hp} {p : Addr} {xs : List V} {ds : List D} (s : SqL K F p xs) (r : Reps K F xs ds) : ItD K F (Ite K p) (enumL 0 ds) where
 go := fun i F1 H1 a b hi => by
  rw [enumL_length] at hi
  obtain ⟨v, e, _⟩ := r.get (List.getElem?_eq_getElem hi)
  exact ⟨xs, v, b.seq (a.seq s), e⟩
 yld := fun i F1 H1 x H2 d a b e y => by
  obtain ⟨t, u, rfl, ht, rfl, y1⟩ := y
  have y1 := y1 xs (b.seq (a.seq s))
  obtain ⟨d1, e1, r1⟩ := r.get' y1
  rw [enumL_get 0 ds i d1 e1, Nat.zero_add] at e
  cases e
  refine ⟨upd F1 t (.tup [.int i, u]), Ext.laid b ht, .tup (SqT.of upd_same) ?_⟩
  have mm : Same F (upd F1 t (.tup [.int i, u])) := a.trans ((Same.refl F1).put (b.free ht))
  exact .cons (.int _) (.cons (r1.mono mm) .nil)
 stop := fun F1 H1 a b => ⟨xs, b.seq (a.seq s), by rw [r.length, enumL_length]; exact Nat.le_refl _⟩
theorem pid_enum {es : List Expr} {tk : Nat} {tp : Pos} {a : Expr} {m : ML} {p pos : Pos} (hg : Gl X "enumerate") (hm : X.mg "enumerate" = none) (ha : PAs X [a] m) (hs : starEach [a] X.env = [(false, eval a X.env)] := by rfl) : PId X (.Tuple es tk tp) (.Call (.Name "enumerate" p) [a] [] pos) (mlist enum1 m) := PI.imp (pi_enum hg hm ha hs) fun σ H R hpat => by
 obtain ⟨F0, H0, F, ρ, its, rl, e, q⟩ := hpat
 obtain ⟨ds, h1, h2⟩ := mlist_some e
 refine ⟨F0, H0, F, ρ, ds, rl, h1, fun vs F1 H1 x1 r1 => ?_⟩
 unfold enum1 at h2
 split at h2
 ·cases h2
  cases r1 with
  | cons r rr =>
   cases rr
   cases r with
   | lst s t => exact ⟨_, _, rfl, x1.fh.seq s, q _ F1 H1 x1 (itd_enum s t)⟩
 ·cases h2
end
end L2
namespace L2
open PySem PySem.Spec PyProof.Rows
noncomputable def forD (g : Tg) (body : MS) : List D -> MS
 | [], ρ => some (.nx ρ)
 | d :: ds, ρ => match tgD g d ρ with
  | some ρ1 => match body ρ1 with
   | some (.nx ρ2) => forD g body ds ρ2
   | some (.ct ρ2) => forD g body ds ρ2
   | some (.bk ρ2) => some (.nx ρ2)
   | o => o
  | none => none
noncomputable def mfor (mi : ML) (g : Tg) (body : MS) : MS := fun ρ => (mi ρ).bind fun its => forD g body its ρ
theorem drop_get {α : Type} {xs : List α} {i : Nat} {d : α} (h : xs[i]? = some d) : xs.drop i = d :: xs.drop (i + 1) := by
 obtain ⟨hl, e⟩ := List.getElem?_eq_some_iff.mp h
 rw [List.drop_eq_getElem_cons hl, e]
section
variable {X : Cx} {a b c e : Expr} {ma mb : ME} {pos : Pos} {st : Stmt} {rest : List Stmt}
theorem psd_for {tg iter : Expr} {body : List Stmt} {mi : ML} {g : Tg} {mb : MS} (hp : PassesOwn (model X.prog X.w) X.A X.env X.xe) (hc : X.calm = true) (hi : PId X tg iter mi) (hg : PGd X tg g) (hb : PSsd X body mb)
  (hs : ∀ x, foldedSetIterable iter X.env x = pure x := by intro _; rfl) : PSd X (.For tg iter body [] pos) (mfor mi g mb) := (ps_for hp hc hi hg hb hs).imp fun Dn σ H hpat => by
 obtain ⟨F0, H0, F, ρ, o, rl, e, ok⟩ := hpat
 unfold mfor at e
 cases h1 : mi ρ with
 | none => rw [h1] at e; cases e
 | some its =>
  rw [h1] at e
  have e : forD g mb its ρ = some o := e
  refine ⟨F0, H0, F, ρ, its, rl, h1, fun J F1 H1 x1 I => ?_⟩
  refine ⟨fun i m σ' H' => ∃ F' ρ', Rl X.K F0 H0 F' H' σ' ρ' /\ Same F1 F' /\ i <= its.length /\ m = its.length - i /\ forD g mb (its.drop i) ρ' = some o, ⟨_, F1, ρ, rl.go x1, Same.refl _, Nat.zero_le _, rfl, e⟩, ?_⟩
  rintro i m σ' H' ⟨F', ρ', rl', sf, hi', rfl, e'⟩
  by_cases hlt : i < its.length
  ·right
   have hd := List.getElem?_eq_getElem hlt
   refine ⟨I.go i F' H' sf rl'.fh hlt, fun σ2 H2 => ∃ F2 ρ2, Rl X.K F0 H0 F2 H2 σ2 ρ2 /\ Same F1 F2 /\ forD g mb (its.drop (i + 1)) ρ2 = some o, ?_, fun x H2 y => ?_⟩
   ·rintro σ2 H2 ⟨F2, ρ2, rl2, sf2, e2⟩
    exact ⟨its.length - (i + 1), by omega, F2, ρ2, rl2, sf2, hlt, rfl, e2⟩
   ·obtain ⟨F2, x2, r2⟩ := I.yld i F' H' x H2 _ sf rl'.fh hd y
    rw [drop_get hd] at e'
    unfold forD at e'
    cases h2 : tgD g its[i] ρ' with
    | none => simp only [h2] at e'; cases e'
    | some ρ1 =>
     simp only [h2] at e'
     refine ⟨F0, H0, F2, ρ', _, ρ1, rl'.go x2, r2, h2, fun F3 H3 σ3 rl3 x3 => ?_⟩
     have s3 : Same F1 F3 := (sf.trans x2.ff).trans x3.ff
     cases h3 : mb ρ1 with
     | none => simp only [h3] at e'; cases e'
     | some o1 =>
      simp only [h3] at e'
      refine ⟨F0, H0, F3, ρ1, o1, rl3, h3, ?_⟩
      cases o1 with
      | nx ρ2 => exact fun F4 H4 σ4 rl4 s4 => ⟨F4, ρ2, rl4, s3.trans s4, e'⟩
      | ct ρ2 => exact fun F4 H4 σ4 rl4 s4 => ⟨F4, ρ2, rl4, s3.trans s4, e'⟩
      | bk ρ2 =>
       cases e'
       exact fun F4 H4 σ4 rl4 s4 => ok F4 H4 σ4 rl4 ((x1.ff.trans s3).trans s4)
      | rt d => cases e'; exact ok
      | rf d => cases e'; exact ok
      | rp d ds => cases e'; exact ok
      | rg d p r => cases e'; exact ok
      | rgf d p r => cases e'; exact ok
  ·left
   have hieq : i = its.length := by omega
   subst hieq
   rw [List.drop_length] at e'
   have e' : some (Out.nx ρ') = some o := e'
   cases e'
   exact ⟨I.stop F' H' sf rl'.fh, ok F' H' σ' rl' (x1.ff.trans sf)⟩
end
end L2
namespace L2
open PySem PySem.Spec PyProof.Rows
noncomputable def blkRo (src : List (Option Nat)) (ρ : Ro) : Ro := src.map fun o => o.bind fun i => match ρ[i]? with | some (some (.sh d)) => some (.sh d) | _ => none
noncomputable def compD (g : Tg) (c : MB) (elt : ME) : List D -> Ro -> List D -> Option (List D)
 | [], _, acc => some acc
 | d :: ds, ρ, acc => match tgD g d ρ with
  | some ρ1 => match c ρ1 with
   | some true => match elt ρ1 with
    | some x => if acc.length < sizeLine then compD g c elt ds ρ1 (acc ++ [x]) else none
    | none => none
   | some false => compD g c elt ds ρ1 acc
   | none => none
  | none => none
@[irreducible] noncomputable def mcomp (src : List (Option Nat)) (mi : ML) (g : Tg) (c : MB) (elt : ME) : ML := fun ρ => (mi ρ).bind fun its => compD g c elt its (blkRo src ρ) []
noncomputable def NoOwn (ρ : Ro) : Prop := ∀ (i : Nat) ds, ρ[i]? ≠ some (some (.own ds)) /\ ∀ p, ρ[i]? ≠ some (some (.ob p ds))
theorem NoOwn.set {ρ : Ro} (h : NoOwn ρ) (i : Nat) (d : D) : NoOwn (ρ.set i (some (.sh d))) := fun j ds => ⟨fun e => by
 by_cases hj : i = j
 ·subst hj
  have hl : i < ρ.length := by
   rcases Nat.lt_or_ge i ρ.length with z | z
   ·exact z
   ·rw [List.getElem?_eq_none (by simpa using z)] at e; cases e
  rw [List.getElem?_set_self hl] at e; cases e
 ·rw [List.getElem?_set_ne hj] at e; exact (h j ds).1 e, fun p e => (h j ds).2 p (set_ob e).2⟩
theorem NoOwn.all : ∀ (is : List Nat) (ds : List D) {ρ ρ' : Ro}, NoOwn ρ -> setAll is ds ρ = some ρ' -> NoOwn ρ'
 | [], [], ρ, ρ', h, e => by cases e; exact h
 | [], _ :: _, _, _, _, e => by cases e
 | _ :: _, [], _, _, _, e => by cases e
 | i :: is, d :: ds, ρ, ρ', h, e => NoOwn.all is ds (h.set i d) e
theorem NoOwn.tg {g : Tg} {d : D} {ρ ρ' : Ro} (h : NoOwn ρ) (e : tgD g d ρ = some ρ') : NoOwn ρ' := by
 cases g with
 | nm i => cases e; exact h.set i d
 | tp is => cases d <;> first | (cases e; done) | exact NoOwn.all is _ h e
 | nt i is =>
  cases d with
  | tup ds =>
   match ds, e with
   | [d, .tup ds], e => exact NoOwn.all is _ (h.set i d) e
  | _ => cases e
theorem Rl.blk {K : PySem.W.Frag} {F0 H0 F H : Hp} {σ : St} {ρ : Ro} (r : Rl K F0 H0 F H σ ρ) (src : List (Option Nat)) : Rl K F H F H (blk0 src σ) (blkRo src ρ) /\ NoOwn (blkRo src ρ) := by
 have no1 : ∀ (i : Nat) x, (blkRo src ρ)[i]? = some (some x) -> ∃ d, x = S.sh d := fun i x e => by
  unfold blkRo at e
  rw [List.getElem?_map] at e
  cases h : src[i]? with
  | none => rw [h] at e; cases e
  | some o =>
   rw [h] at e
   cases o with
   | none => cases e
   | some k =>
    simp only [Option.map_some, Option.bind_some] at e
    split at e
    ·cases e; exact ⟨_, rfl⟩
    ·cases e
 have no : NoOwn (blkRo src ρ) := fun i ds => ⟨fun e => (by obtain ⟨d, z⟩ := no1 i _ e; cases z), fun p e => (by obtain ⟨d, z⟩ := no1 i _ e; cases z)⟩
 refine ⟨⟨.refl r.fh, by unfold blk0 blkRo; simp, fun i d e => ?_, fun i ds e => absurd e (no i ds).1, fun i j p ds es _ e => absurd e (no i ds).1, fun i p ds e => absurd e ((no i ds).2 p), fun i j p ds es e => absurd e ((no i ds).2 p), fun i j p q ds es e => absurd e ((no i ds).2 p)⟩, no⟩
 unfold blkRo at e
 unfold blk0
 rw [List.getElem?_map] at e ⊢
 cases h : src[i]? with
 | none => rw [h] at e; cases e
 | some o =>
  rw [h] at e
  cases o with
  | none => cases e
  | some k =>
   simp only [Option.map_some, Option.bind_some] at e ⊢
   split at e
   ·rename_i d' h'
    cases e
    obtain ⟨v, e1, e2⟩ := r.sh k _ h'
    exact ⟨v, by rw [e1]; rfl, e2⟩
   ·cases e
theorem Rl.other {K : PySem.W.Frag} {F0 H0 F H : Hp} {σ : St} {ρ : Ro} (r : Rl K F0 H0 F H σ ρ) (no : NoOwn ρ) {p : Addr} {o : HO} (h0 : H0 p = none) (hF : F p = none) : Rl K F0 H0 F (upd H p o) σ ρ :=
 ⟨⟨r.ext.ff, r.ext.hh.put h0, r.ext.fh.put hF, r.ext.new, r.ext.nf⟩, r.len, r.sh, fun i ds e => absurd e (no i ds).1, r.inj, fun i p ds e => absurd e ((no i ds).2 p), r.obn, r.ob1⟩
section
variable {X : Cx} {a b c e : Expr} {ma mb : ME} {pos : Pos} {st : Stmt} {rest : List Stmt}
noncomputable def PTsd (X : Cx) (ifs : List Expr) (c : MB) : Prop := PTs X ifs (TC X.K c)
noncomputable def cyes : MB := fun _ => some true
theorem ptsd_nil : PTsd X [] cyes := fun pins s σ H Q I hpat => by
 obtain ⟨F0, H0, F, ρ, b, rl, e, q⟩ := hpat
 cases e
 exact pts_nil pins s σ H Q I (q F H (.refl rl.fh))
theorem ptsd_one {ca : MB} (h : PC' X c ca) : PTsd X [c] ca := pts_one h
theorem comp_tf {K : PySem.W.Frag} {src : List (Option Nat)} {mi : ML} {g : Tg} {c : MB} {elt : ME} {σ : St} {H : Hp} {Q : VK} (h : TF K (mcomp src mi g c elt) σ H Q) : tComp src (TId K mi) (TGd K g) (TC K c) (TD K elt) σ H Q := by
 obtain ⟨F0, H0, F, ρ, out, rl, e, q⟩ := h
 unfold mcomp at e
 cases h1 : mi ρ with
 | none => rw [h1] at e; cases e
 | some its =>
  rw [h1] at e
  have e : compD g c elt its (blkRo src ρ) [] = some out := e
  refine ⟨F0, H0, F, ρ, its, rl, h1, fun J F1 H1 x1 I => ?_⟩
  intro p hp
  obtain ⟨rb, no⟩ := (rl.go x1).blk src
  have hF1 : F1 p = none := x1.fh.free hp
  refine ⟨fun i m σ' H' => ∃ F' ρ' acc xs, Rl K F1 H1 F' H' σ' ρ' /\ NoOwn ρ' /\ H' p = some (.lst xs) /\ F' p = none /\ Reps K F' xs acc /\ i <= its.length /\ m = its.length - i /\ compD g c elt (its.drop i) ρ' acc = some out,
   ⟨_, F1, blkRo src ρ, [], [], rb.other no hp hF1, no, upd_same, hF1, .nil, Nat.zero_le _, rfl, e⟩, ?_⟩
  rintro i m σ' H' ⟨F', ρ', acc, xs, rl', no', hH', hF', ra, hi', rfl, e'⟩
  by_cases hlt : i < its.length
  ·right
   have hd := List.getElem?_eq_getElem hlt
   refine ⟨I.go i F' H' rl'.ext.ff rl'.fh hlt, fun σ2 H2 => ∃ F2 ρ2 acc2 xs2, Rl K F1 H1 F2 H2 σ2 ρ2 /\ NoOwn ρ2 /\ H2 p = some (.lst xs2) /\ F2 p = none /\ Reps K F2 xs2 acc2 /\ compD g c elt (its.drop (i + 1)) ρ2 acc2 = some out, ?_, fun x H2 y => ?_⟩
   ·rintro σ2 H2 ⟨F2, ρ2, acc2, xs2, b1, b2, b3, b4, b5, b6⟩
    exact ⟨its.length - (i + 1), by omega, F2, ρ2, acc2, xs2, b1, b2, b3, b4, b5, hlt, rfl, b6⟩
   ·obtain ⟨F2, x2, r2⟩ := I.yld i F' H' x H2 _ rl'.ext.ff rl'.fh hd y
    rw [drop_get hd] at e'
    unfold compD at e'
    have pn : ∀ {F3 H3 : Hp}, Ext F' H' F3 H3 -> F3 p = none := fun {F3 H3} x3 => by
     cases qq : F3 p with
     | none => rfl
     | some o => have := x3.new p hF' (by rw [qq]; simp); rw [this] at hH'; cases hH'
    cases h2 : tgD g its[i] ρ' with
    | none => simp only [h2] at e'; cases e'
    | some ρ1 =>
     simp only [h2] at e'
     refine ⟨F1, H1, F2, ρ', _, ρ1, rl'.go x2, r2, h2, fun F3 H3 σ3 rl3 x3 => ?_⟩
     have no1 := no'.tg h2
     have x23 := x2.trans x3
     cases h3 : c ρ1 with
     | none => simp only [h3] at e'; cases e'
     | some k =>
      refine ⟨F1, H1, F3, ρ1, k, rl3, h3, fun F4 H4 x4 => ?_⟩
      have x24 := x23.trans x4
      cases k with
      | false =>
       simp only [h3] at e'
       exact iteF ⟨F4, ρ1, acc, xs, rl3.go x4, no1, x24.hh _ _ hH', pn x24, ra.mono x24.ff, e'⟩
      | true =>
       simp only [h3] at e'
       refine iteT ?_
       cases h4 : elt ρ1 with
       | none => simp only [h4] at e'; cases e'
       | some d =>
        simp only [h4] at e'
        split at e'
        ·rename_i hz
         refine ⟨F1, H1, F4, ρ1, d, rl3.go x4, h4, fun v F5 H5 x5 r5 => ?_⟩
         have x25 := x24.trans x5
         refine ⟨xs, x25.hh _ _ hH', by rw [ra.length]; exact hz, F5, ρ1, acc ++ [d], xs ++ [v], ((rl3.go x4).go x5).other no1 hp (pn x25), no1, upd_same, pn x25, (ra.mono x25.ff).append (.cons r5 .nil), e'⟩
        ·cases e'
  ·left
   have hieq : i = its.length := by omega
   subst hieq
   rw [List.drop_length] at e'
   have e' : some acc = some out := e'
   cases e'
   exact ⟨I.stop F' H' rl'.ext.ff rl'.fh, q p xs F' H' (x1.trans rl'.ext) (x1.hh.free hp) hF' hH' ra⟩
theorem pf_comp {sc : Scope} {N : List Str} {src : List (Option Nat)} {tg elt iter : Expr} {ifs : List Expr} {mi : ML} {g : Tg} {cc : MB} {me : ME} (B : Blk X sc N src) (hc : X.calm = true)
  (hi : PId X tg iter mi) (hg : ∀ C fp s H, PGd (blkCx X sc C N fp s H) tg g) (ht : ∀ C fp s H, PTsd (blkCx X sc C N fp s H) ifs cc) (he : ∀ C fp s H, PD (blkCx X sc C N fp s H) elt me)
  (hs : ∀ x, foldedSetIterable iter X.env x = pure x := by intro _; rfl) :
  PF X (.ListComp elt [⟨tg, iter, ifs, 0⟩] sc pos) (mcomp src mi g cc me) := (pe_comp (g := TGd X.K g) (tc := TC X.K cc) (te := TD X.K me) B hc hi (fun C fp s H => hg C fp s H) (fun C fp s H => ht C fp s H) (fun C fp s H => he C fp s H) hs).imp fun _ _ _ h => comp_tf h
theorem pf_imp {mf : ML} {σ : St} {H : Hp} {Q : VK} (h : TD X.K (mlst mf) σ H Q) : TF X.K mf σ H Q := by
 obtain ⟨F0, H0, F, ρ, d, r, e, q⟩ := h
 unfold mlst at e
 cases hm : mf ρ with
 | none => rw [hm] at e; cases e
 | some ds =>
  rw [hm] at e; cases e
  refine ⟨F0, H0, F, ρ, ds, r, hm, fun p xs F' H' x hp hF hH rs => ?_⟩
  exact q _ (upd F' p (.lst xs)) H' (x.freeze hF hp hH) (.lst (SqL.of upd_same) (rs.mono ((Same.refl F').put hF)))
theorem psd_setCs {i : Nat} {src : List (Option Nat)} {mi : ML} {g : Tg} {cc : MB} {me : ME} (h : PS X st (tAsg (tComp src (TId X.K mi) (TGd X.K g) (TC X.K cc) (TD X.K me)) (gName i))) : PSd X st (mset i (mlst (mcomp src mi g cc me))) := asg_d h fun _ _ _ q => comp_tf (pf_imp q)
noncomputable def whileD (c : MB) (body : MS) : Nat -> MS
 | 0, _ => none
 | n + 1, ρ => match c ρ with
  | some true => match body ρ with
   | some (.nx ρ2) => whileD c body n ρ2
   | some (.ct ρ2) => whileD c body n ρ2
   | some (.bk ρ2) => some (.nx ρ2)
   | o => o
  | some false => some (.nx ρ)
  | none => none
theorem psd_while {body : List Stmt} {ca : MB} {mb : MS} (n : Nat) (hp : PassesOwn (model X.prog X.w) X.A X.env X.xe) (hc : PC' X c ca) (hb : PSsd X body mb) : PSd X (.While c body [] pos) (whileD ca mb n) := (ps_while hp hc hb).imp fun Dn σ H hpat => by
 obtain ⟨F0, H0, F, ρ, o, rl, e, ok⟩ := hpat
 refine ⟨fun m σ' H' => ∃ F' ρ', Rl X.K F0 H0 F' H' σ' ρ' /\ Same F F' /\ whileD ca mb m ρ' = some o, ⟨n, F, ρ, rl, Same.refl _, e⟩, ?_⟩
 rintro m σ' H' ⟨F', ρ', rl', sf, e'⟩
 cases m with
 | zero => cases e'
 | succ m =>
  unfold whileD at e'
  cases h1 : ca ρ' with
  | none => simp only [h1] at e'; cases e'
  | some k =>
   refine ⟨F0, H0, F', ρ', k, rl', h1, fun F1 H1 x1 => ?_⟩
   cases k with
   | false =>
    simp only [h1] at e'
    cases e'
    exact iteF (ok F1 H1 σ' (rl'.go x1) (sf.trans x1.ff))
   | true =>
    simp only [h1] at e'
    refine iteT ⟨fun σ2 H2 => ∃ F2 ρ2, Rl X.K F0 H0 F2 H2 σ2 ρ2 /\ Same F F2 /\ whileD ca mb m ρ2 = some o, fun σ2 H2 ⟨F2, ρ2, a1, a2, a3⟩ => ⟨m, Nat.lt_succ_self m, F2, ρ2, a1, a2, a3⟩, ?_⟩
    cases h2 : mb ρ' with
    | none => simp only [h2] at e'; cases e'
    | some o1 =>
     simp only [h2] at e'
     refine ⟨F0, H0, F1, ρ', o1, rl'.go x1, h2, ?_⟩
     have s1 := sf.trans x1.ff
     cases o1 with
     | nx ρ2 => exact fun F4 H4 σ4 rl4 s4 => ⟨F4, ρ2, rl4, s1.trans s4, e'⟩
     | ct ρ2 => exact fun F4 H4 σ4 rl4 s4 => ⟨F4, ρ2, rl4, s1.trans s4, e'⟩
     | bk ρ2 => cases e'; exact fun F4 H4 σ4 rl4 s4 => ok F4 H4 σ4 rl4 (s1.trans s4)
     | rt d => cases e'; exact ok
     | rf d => cases e'; exact ok
     | rp d ds => cases e'; exact ok
     | rg d p r => cases e'; exact ok
     | rgf d p r => cases e'; exact ok
inductive Rt where
 | sh (d : D) | fr (ds : List D) | pr (d : D) (ds : List D)
noncomputable abbrev MF := List D -> Option Rt
noncomputable def okT (K : PySem.W.Frag) (F H : Hp) (Q : VK) : Rt -> Prop
 | .sh d => ∀ v F' H', Ext F H F' H' -> Rep K F' v d -> Q v H'
 | .fr ds => ∀ p xs F' H', Ext F H F' H' -> H p = none -> F' p = none -> H' p = some (.lst xs) -> Reps K F' xs ds -> Q (.ref p) H'
 | .pr d ds => ∀ t v p xs F' H', Ext F H F' H' -> H t = none -> H p = none -> t ≠ p -> F' t = none -> F' p = none -> H' t = some (.tup [v, .ref p]) -> H' p = some (.lst xs) -> Rep K F' v d -> Reps K F' xs ds -> Q (.ref t) H'
noncomputable def spR (K : PySem.W.Frag) (n : Nat) (m : MF) : Sp := fun vs H Q _ => vs.length = n /\ ∃ F ds r, Same F H /\ Reps K F vs ds /\ m ds = some r /\ okT K F H Q r
noncomputable def startS (n : Nat) (ds : List D) : Ro := ds.map (fun d => some (.sh d)) ++ List.replicate (n - ds.length) none
noncomputable def runB (n : Nat) (m : MS) : MF := fun ds => match m (startS n ds) with
 | some (.nx _) => some (.sh .non)
 | some (.rt d) => some (.sh d)
 | some (.rf es) => some (.fr es)
 | some (.rp d es) => some (.pr d es)
 | _ => none
theorem rl_start {K : PySem.W.Frag} {F H : Hp} {N : List Str} {vs : List V} {ds : List D} (s : Same F H) (r : Reps K F vs ds) : Rl K F H F H (start N vs) (startS N.length ds) := by
 have get : ∀ (i : Nat) x, (startS N.length ds)[i]? = some (some x) -> ∃ d, x = S.sh d /\ ds[i]? = some d := fun i x e => by
  unfold startS at e
  by_cases hi : i < ds.length
  ·rw [List.getElem?_append_left (by simpa using hi), List.getElem?_map] at e
   cases q : ds[i]? with
   | none => rw [q] at e; cases e
   | some d => rw [q] at e; cases e; exact ⟨d, rfl, rfl⟩
  ·rw [List.getElem?_append_right (by simpa using hi), List.getElem?_replicate] at e
   split at e <;> cases e
 refine ⟨.refl s, ?_, fun i d e => ?_, fun i ds e => ?_, fun i j p ds es _ e => ?_, fun i p ds e => ?_, fun i j p ds es e => ?_, fun i j p q ds es e => ?_⟩
 ·unfold start startS; simp [r.length]
 ·obtain ⟨d', e1, e2⟩ := get i _ e
  cases e1
  obtain ⟨v, e3, e4⟩ := r.get e2
  have hl : i < vs.length := (List.getElem?_eq_some_iff.mp e3).1
  refine ⟨v, ?_, e4⟩
  unfold start
  rw [List.getElem?_append_left (by simpa using hl), List.getElem?_map, e3]; rfl
 ·obtain ⟨d', e1, _⟩ := get i _ e
  cases e1
 ·obtain ⟨d', e1, _⟩ := get i _ e
  cases e1
 ·obtain ⟨d', e1, _⟩ := get i _ e
  cases e1
 ·obtain ⟨d', e1, _⟩ := get i _ e
  cases e1
 ·obtain ⟨d', e1, _⟩ := get i _ e
  cases e1
theorem Fun.okD {P : Program} {w : World} {K : PySem.W.Frag} {mg : Str -> Option Value} {base : Heap} {x qual : Str} {st : Stmt} {f : Addr} {fd : FuncData} {N ps : List Str} {k : Nat} {m : MS} (Fn : Fun K x qual st f fd) (Sc : FnScope N ps (defScope st))
  (hbody : ∀ (cdv : Value) (A : Around) (outer : List Env) (s : Shared) (H : Hp) (E : XK), Room k (A.deeper (envOfC qual (defScope st) s.heap.objs.size f cdv)) -> PSsd (cxOf CX0 P w K mg base N qual (defScope st) f cdv A outer s H E).nox (defBody st) m) :
  FnOk P w K mg base CX0 (k + 1) f fd ps (spR K ps.length (runB N.length m)) := by
 refine Fn.ok Sc (fun vs H Q E h => h.1) fun cdv A outer s H vs Q E hr h => ?_
 obtain ⟨hl, F, ds, r, sf, rs, e, ok⟩ := h
 unfold runB at e
 cases h1 : m (startS N.length ds) with
 | none => rw [h1] at e; cases e
 | some o =>
  rw [h1] at e
  refine ⟨_, hbody cdv A outer s H E hr, F, H, F, startS N.length ds, o, rl_start sf rs, h1, ?_⟩
  cases o with
  | nx ρ => cases e; exact fun F' H' σ' rl _ => ok .non F' H' rl.ext .non
  | rt d => cases e; exact ok
  | rf es => cases e; exact ok
  | rp d es => cases e; exact ok
  | rg d p r => cases e
  | rgf d p r => cases e
  | bk ρ => cases e
  | ct ρ => cases e
@[irreducible] noncomputable def mcall (f : MF) (m : ML) : ME := fun ρ => (m ρ).bind fun ds => match f ds with | some (.sh d) => some d | some (.fr es) => some (.lst es) | some (.pr d es) => some (.tup [d, .lst es]) | none => none
@[irreducible] noncomputable def mcallF (f : MF) (m : ML) : ML := fun ρ => (m ρ).bind fun ds => match f ds with | some (.fr es) => some es | _ => none
variable {E : XK} {es : List Expr} {mf : MF} {m : ML}
theorem pd_call {n : Nat} (h : ∀ t, PA X es t -> PE X e (tCall (spR X.K n mf) [] E t)) (hl : es.length = n) (ha : PAs X es m) (hm : ∀ ρ ds, m ρ = some ds -> ds.length = es.length) : PD X e (mcall mf m) := (h _ ha).imp fun σ H Q hpat => by
 obtain ⟨F0, H0, F, ρ, d, rl, e, q⟩ := hpat
 unfold mcall at e
 cases h1 : m ρ with
 | none => rw [h1] at e; cases e
 | some ds =>
  rw [h1] at e
  refine ⟨F0, H0, F, ρ, ds, rl, h1, fun vs F1 H1 x1 r1 => ?_⟩
  dsimp only [Option.bind] at e
  show spR X.K n mf (vs ++ []) H1 Q E
  rw [List.append_nil]
  refine ⟨by rw [r1.length, hm ρ ds h1, hl], F1, ds, ?_⟩
  split at e
  ·rename_i d' h2
   cases e
   exact ⟨_, x1.fh, r1, h2, fun v F2 H2 x2 r2 => q v F2 H2 (x1.trans x2) r2⟩
  ·rename_i es' h2
   cases e
   exact ⟨_, x1.fh, r1, h2, fun p xs F2 H2 x2 hp hF hH r2 => q _ (upd F2 p (.lst xs)) H2 (x1.trans (x2.freeze hF hp hH)) (.lst (SqL.of upd_same) (r2.mono ((Same.refl F2).put hF)))⟩
  ·rename_i d' es' h2
   cases e
   refine ⟨_, x1.fh, r1, h2, fun t v p xs F2 H2 x2 ht hp hne hFt hFp hHt hHp rv rs => ?_⟩
   have x3 := x2.freeze hFp hp hHp
   have hFt' : upd F2 p (.lst xs) t = none := by rw [upd_ne hne]; exact hFt
   have s2 : Same F2 (upd F2 p (.lst xs)) := (Same.refl F2).put hFp
   have s3 : Same (upd F2 p (.lst xs)) (upd (upd F2 p (.lst xs)) t (.tup [v, .ref p])) := (Same.refl _).put hFt'
   exact q _ (upd (upd F2 p (.lst xs)) t (.tup [v, .ref p])) H2 (x1.trans (x3.freeze hFt' ht hHt)) (.tup (SqT.of upd_same) (.cons (rv.mono (s2.trans s3)) (.cons (.lst (SqL.of (by rw [upd_ne (Ne.symm hne)]; exact upd_same)) (rs.mono (s2.trans s3))) .nil)))
  ·cases e
theorem pf_call {n : Nat} (h : ∀ t, PA X es t -> PE X e (tCall (spR X.K n mf) [] E t)) (hl : es.length = n) (ha : PAs X es m) (hm : ∀ ρ ds, m ρ = some ds -> ds.length = es.length) : PF X e (mcallF mf m) := (h _ ha).imp fun σ H Q hpat => by
 obtain ⟨F0, H0, F, ρ, d, rl, e, q⟩ := hpat
 unfold mcallF at e
 cases h1 : m ρ with
 | none => rw [h1] at e; cases e
 | some ds =>
  rw [h1] at e
  refine ⟨F0, H0, F, ρ, ds, rl, h1, fun vs F1 H1 x1 r1 => ?_⟩
  dsimp only [Option.bind] at e
  show spR X.K n mf (vs ++ []) H1 Q E
  rw [List.append_nil]
  refine ⟨by rw [r1.length, hm ρ ds h1, hl], F1, ds, ?_⟩
  split at e
  ·rename_i es' h2
   cases e
   exact ⟨_, x1.fh, r1, h2, fun p xs F2 H2 x2 hp hF hH r2 => q p xs F2 H2 (x1.trans x2) (x1.hh.free hp) hF hH r2⟩
  ·cases e
theorem anil_len (ρ : Ro) (ds : List D) (h : anil ρ = some ds) : ds.length = 0 := by cases h; rfl
theorem acons_len {x : ME} {r : ML} {n : Nat} (hr : ∀ ρ ds, r ρ = some ds -> ds.length = n) (ρ : Ro) (ds : List D) (h : acons x r ρ = some ds) : ds.length = n + 1 := by
 obtain ⟨d, es, _, h2, rfl⟩ := acons_some h
 rw [List.length_cons, hr ρ es h2]
end
end L2
namespace L2
open PySem PySem.Spec PyProof.Rows
section
variable {X : Cx} {a b c e : Expr} {ma mb : ME} {pos : Pos}
noncomputable def bl2 (g : Bool -> Bool -> Bool) : D -> D -> Option D
 | .bl i, .bl j => some (.bl (g i j))
 | _, _ => none
noncomputable def rRng1 : List V -> Hp -> VK -> Prop := fun vs H Q => ∃ j : Int, vs = [.int j] /\ ∀ p, H p = none -> Q (.ref p) (upd H p (.rng 0 j))
theorem call_rng1 : CallR X (.type "range") rRng1 := by
 intro pins s σ H xs us Q I r h
 obtain ⟨j, rfl, q⟩ := h
 obtain ⟨u, rfl, t, rfl⟩ := vals1 r
 refine call_range_1 ⟨.ref s.heap.objs.size, _, I.laid (o := .rng 0 j) (fun b o e => Heap.get?_push_of_some _ e) (Nat.le_refl _) ⟨_, _, _, Heap.get?_push_size _ rfl⟩, rfl, q _ I.fresh⟩
theorem reps_ints {K : PySem.W.Frag} {F : Hp} : ∀ ns : List Int, Reps K F (ns.map V.int) (ns.map D.int)
 | [] => .nil
 | n :: ns => .cons (.int n) (reps_ints ns)
theorem sp_Z17 {K : PySem.W.Frag} {m : MF} (h : ∀ ns : List Int, ns.length <= 63 -> m [.lst (ns.map .int)] = some (.sh (.bl true))) (H : Hp) (a : Addr) (ns : List Int) (hl : ns.length <= 63) (hS : SqL K H a (ns.map V.int)) (E : XK) :
  spR K 1 m [.ref a] H (fun v _ => v = .bl true) E :=
 ⟨rfl, H, _, _, Same.refl H, .cons (.lst hS (reps_ints ns)) .nil, h ns hl, fun v F' H' _ r => by cases r; rfl⟩
end
end L2
namespace L2
open PySem PySem.Spec PyProof.Rows
noncomputable def blkOk (fsc : Scope) (fN : List Str) (sc : Scope) (N : List Str) (src : List (Option Nat)) : Bool :=
 (sc.kind == .function) && sc.names.all (fun y => y.2 != .cell) && sc.names.all (fun y => y.2 != .local || sc.names.lookup y.1 == some .local)
  && sc.names.all (fun y => y.2 != .free || (fsc.names.lookup y.1 == some .cell || fsc.names.lookup y.1 == some .free)) && (src.length == N.length)
  && (List.range src.length).all fun j => match src[j]? with
   | some (some i) => match N[j]? with
    | some x => fN[i]? == some x && sc.names.lookup x == some .free
    | none => false
   | _ => true
theorem blk_of {X : Cx} {sc : Scope} {N : List Str} {src : List (Option Nat)} (fsc : Scope) (fN : List Str) (h1 : X.env.scope = fsc) (h2 : X.N = fN) (h : blkOk fsc fN sc N src = true) : Blk X sc N src := by
 unfold blkOk at h
 simp only [Bool.and_eq_true, List.all_eq_true, beq_iff_eq, Bool.or_eq_true, bne_iff_ne, ne_eq] at h
 obtain ⟨⟨⟨⟨⟨a1, a2⟩, a3⟩, a4⟩, a5⟩, a6⟩ := h
 refine ⟨a1, a2, fun y hy hk => ?_, fun y hy hk => ?_, fun j i e => ?_, a5⟩
 ·rcases a3 y hy with z | z
  ·exact absurd hk z
  ·exact z
 ·have k : ∀ x, X.env.kindOf x = fsc.names.lookup x := fun x => by rw [<- h1]; rfl
  rw [k]
  rcases a4 y hy with z | z
  ·exact absurd hk z
  ·exact z
 ·have hj : j < src.length := (List.getElem?_eq_some_iff.mp e).1
  have := a6 j (List.mem_range.mpr hj)
  rw [e] at this
  simp only at this
  cases hx : N[j]? with
  | none => rw [hx] at this; cases this
  | some x =>
   rw [hx] at this
   simp only [Bool.and_eq_true, beq_iff_eq] at this
   exact ⟨x, rfl, by rw [h2]; exact this.1, this.2⟩
end L2
namespace L2
open PySem PySem.Spec PyProof.Rows
theorem pf_sl {X : Cx} {a : Expr} {ml : ML} {lo hi : Option Expr} {l h : MO} {p2 pos : Pos} (ha : PB X a ml) (hl : POs X lo l) (hh : POs X hi h) : PF X (.Subscript a (.Slice lo hi none p2) pos) (mcut ml l h) := pf_cut ha hl hh (pe_slice sl_list ha hl hh)
end L2
namespace L2
open PySem PySem.Spec PyProof.Rows
noncomputable def zipE (f : D -> D -> Option Bool) : List D -> List D -> Option Bool
 | d :: ds, e :: es => (f d e).bind fun a => (zipE f ds es).bind fun b => some (a && b)
 | _, _ => some true
noncomputable def eqF : Nat -> D -> D -> Option Bool
 | 0, _, _ => none
 | n + 1, .lst ds, .lst es => if ds.length = es.length then zipE (eqF n) ds es else some false
 | n + 1, .tup ds, .tup es => (zipE (eqF n) ds es).map fun b => b && ds.length == es.length
 | _ + 1, d, e => eqS d e
theorem zipE_all {f : D -> D -> Option Bool} : ∀ {ds es : List D} {k : Bool}, zipE f ds es = some k -> ∃ g : Nat -> Bool, (∀ j d e, ds[j]? = some d -> es[j]? = some e -> f d e = some (g j)) /\ k = (List.range (min ds.length es.length)).all g
 | [], es, k, h => by
  have h : some true = some k := by simpa [zipE] using h
  cases h
  exact ⟨fun _ => true, by simp, by simp⟩
 | _ :: _, [], k, h => by
  have h : some true = some k := by simpa [zipE] using h
  cases h
  exact ⟨fun _ => true, by simp, by simp⟩
 | d :: ds, e :: es, k, h => by
  unfold zipE at h
  cases h1 : f d e with
  | none => rw [h1] at h; cases h
  | some a =>
   rw [h1] at h
   cases h2 : zipE f ds es with
   | none => rw [h2] at h; cases h
   | some b =>
    rw [h2] at h
    have h : some (a && b) = some k := h
    cases h
    obtain ⟨g, q1, q2⟩ := zipE_all h2
    refine ⟨fun j => match j with | 0 => a | j + 1 => g j, ?_, ?_⟩
    ·intro j d' e' hd he
     cases j with
     | zero => simp at hd he; subst hd he; exact h1
     | succ j => exact q1 j d' e' (by simpa using hd) (by simpa using he)
    ·rw [q2, List.length_cons, List.length_cons, Nat.add_min_add_right, List.range_succ_eq_map, List.all_cons, List.all_map]
     rfl
theorem zipE_refl {f : D -> D -> Option Bool} (hf : ∀ d k, f d d = some k -> k = true) : ∀ {ds : List D} {k : Bool}, zipE f ds ds = some k -> k = true
 | [], k, h => by simp [zipE] at h; exact h
 | d :: ds, k, h => by
  unfold zipE at h
  cases h1 : f d d with
  | none => rw [h1] at h; cases h
  | some a =>
   rw [h1] at h
   cases h2 : zipE f ds ds with
   | none => rw [h2] at h; cases h
   | some b =>
    rw [h2] at h
    have h : some (a && b) = some k := h
    cases h
    rw [hf d a h1, zipE_refl hf h2]; rfl
theorem eqF_refl : ∀ (n : Nat) (d : D) (k : Bool), eqF n d d = some k -> k = true
 | 0, _, _, h => by simp [eqF] at h
 | n + 1, .lst ds, k, h => by
  simp only [eqF, if_true] at h
  exact zipE_refl (eqF_refl n) h
 | n + 1, .tup ds, k, h => by
  simp only [eqF] at h
  cases h1 : zipE (eqF n) ds ds with
  | none => rw [h1] at h; cases h
  | some b =>
   rw [h1] at h
   have := zipE_refl (eqF_refl n) h1
   subst this
   simp at h; exact h
 | n + 1, .non, k, h => by simp [eqF, eqS] at h; exact h
 | n + 1, .bl b, k, h => by simp [eqF, eqS] at h; exact h
 | n + 1, .int b, k, h => by simp [eqF, eqS] at h; exact h
 | n + 1, .str b, k, h => by simp [eqF, eqS] at h; exact h
 | n + 1, .exc b, k, h => by simp [eqF, eqS] at h
section
variable {X : Cx} {pins : List (Addr × Obj)} {σ : St} {H : Hp} {s : Shared}
theorem Inv.no_both (I : Inv X pins σ H s) {a : Addr} {xs ys : List V} (h1 : SqL X.K H a xs) (h2 : SqT X.K H a ys) : False := by
 obtain ⟨its, _, ⟨o, n, e, hc, _⟩, _⟩ := I.list h1
 obtain ⟨its', _, ⟨o', e', hc', _⟩, _⟩ := I.tuple h2
 rw [e] at e'; cases e'
 rw [hc] at hc'
 injection hc' with q
 exact absurd q (by decide)
theorem Inv.xat (I : Inv X pins σ H s) {a C : Addr} (h : H a = some (.ext (XAt a C))) : XAt a C s.heap := (show ObjOk X.prog X.w H s.heap a (.ext (XAt a C)) from I.hok a _ h).1
theorem Inv.no_xl (I : Inv X pins σ H s) {a C : Addr} {xs : List V} (h1 : SqL X.K H a xs) (h2 : H a = some (.ext (XAt a C))) : False := by
 obtain ⟨its, _, ⟨o, n, e, hc, _⟩, _⟩ := I.list h1
 obtain ⟨o', vs, e', hc', _⟩ := I.xat h2
 rw [e] at e'; cases e'
 rw [hc] at hc'; cases hc'
theorem Inv.no_xt (I : Inv X pins σ H s) {a C : Addr} {xs : List V} (h1 : SqT X.K H a xs) (h2 : H a = some (.ext (XAt a C))) : False := by
 obtain ⟨its, _, ⟨o, e, hc, _⟩, _⟩ := I.tuple h1
 obtain ⟨o', vs, e', hc', _⟩ := I.xat h2
 rw [e] at e'; cases e'
 rw [hc] at hc'; cases hc'
mutual
theorem Rep.inj (I : Inv X pins σ H s) : ∀ {v : V} {d e : D}, Rep X.K H v d -> Rep X.K H v e -> d = e
 | _, _, _, .non, .non => rfl
 | _, _, _, .bl b, .bl _ => rfl
 | _, _, _, .int i, .int _ => rfl
 | _, _, _, .str x, .str _ => rfl
 | _, _, _, .lst h r, .lst h' r' => by
  have e := I.list_inj h h'
  subst e
  rw [Reps.inj I r r']
 | _, _, _, .tup h r, .tup h' r' => by
  have e := I.tuple_inj h h'
  subst e
  rw [Reps.inj I r r']
 | _, _, _, .lst h _, .tup h' _ => (I.no_both h h').elim
 | _, _, _, .tup h _, .lst h' _ => (I.no_both h' h).elim
 | _, _, _, .lst h _, .exc _ h' => (I.no_xl h h').elim
 | _, _, _, .tup h _, .exc _ h' => (I.no_xt h h').elim
 | _, _, _, .exc _ h', .lst h _ => (I.no_xl h h').elim
 | _, _, _, .exc _ h', .tup h _ => (I.no_xt h h').elim
 | _, _, _, .exc n h, .exc n' h' => by
  obtain ⟨o, vs, e, hc, _⟩ := I.xat h
  obtain ⟨o', vs', e', hc', _⟩ := I.xat h'
  rw [e] at e'; cases e'
  rw [hc] at hc'; cases hc'
  have q := n.2.symm.trans n'.2
  cases q; rfl
theorem Reps.inj (I : Inv X pins σ H s) : ∀ {vs : List V} {ds es : List D}, Reps X.K H vs ds -> Reps X.K H vs es -> ds = es
 | _, _, _, .nil, .nil => rfl
 | _, _, _, .cons h r, .cons h' r' => by rw [Rep.inj I h h', Reps.inj I r r']
end
open PySem.SeqAt in
theorem eq_at (I : Inv X pins σ H s) : ∀ (n : Nat) {A : Around} {x y : V} {v u : Value} {d e : D} {k : Bool}, A.units + n < cLine -> Rep X.K H x d -> Rep X.K H y e -> RelV x v -> RelV y u -> eqF n d e = some k -> EqAt A s v u k /\ RcAt A s v u k /\ RcNeAt A s v u (!k)
 | 0, A, x, y, v, u, d, e, k, hu, r1, r2, q1, q2, h => by simp [eqF] at h
 | n + 1, A, x, y, v, u, d, e, k, hu, r1, r2, q1, q2, h => by
  have hu0 : A.units < cLine := by omega
  have hu1 : A.in1.units + n < cLine := by show A.units + 1 + n < cLine; omega
  cases r1 with
  | non =>
   cases q1
   cases r2 with
   | non => cases q2; cases h; exact ⟨EqAt.same _, .none_none, .none_none⟩
   | bl b => cases q2; cases h; exact ⟨.none_bool _, .none_bool _, .none_bool _⟩
   | int b => obtain ⟨t, rfl⟩ := q2; cases h; exact ⟨.none_int _ _, .none_int _ _, .none_int _ _⟩
   | str b => obtain ⟨t, rfl⟩ := q2; cases h; exact ⟨.none_str _ _, .none_str _ _, .none_str _ _⟩
   | lst _ _ => cases h
   | tup _ _ => cases h
   | exc _ _ => cases h
  | bl i =>
   cases q1
   cases r2 with
   | non => cases q2; cases h; exact ⟨.bool_none _, .bool_none _, .bool_none _⟩
   | bl b => cases q2; cases h; exact ⟨.bool_bool _ _, .bool_bool _ _, .bool_bool _ _⟩
   | int b => cases h
   | str b => obtain ⟨t, rfl⟩ := q2; cases h; exact ⟨.bool_str _ _ _, .bool_str _ _ _, .bool_str _ _ _⟩
   | lst _ _ => cases h
   | tup _ _ => cases h
   | exc _ _ => cases h
  | int i =>
   obtain ⟨t0, rfl⟩ := q1
   cases r2 with
   | non => cases q2; cases h; exact ⟨.int_none _ _, .int_none _ _, .int_none _ _⟩
   | bl b => cases h
   | int b => obtain ⟨t, rfl⟩ := q2; cases h; exact ⟨.int_int _ _ _ _, .int_int _ _ _ _, .int_int _ _ _ _⟩
   | str b => obtain ⟨t, rfl⟩ := q2; cases h; exact ⟨.int_str _ _ _ _, .int_str _ _ _ _, .int_str _ _ _ _⟩
   | lst _ _ => cases h
   | tup _ _ => cases h
   | exc _ _ => cases h
  | str i =>
   obtain ⟨t0, rfl⟩ := q1
   cases r2 with
   | non => cases q2; cases h; exact ⟨.str_none _ _, .str_none _ _, .str_none _ _⟩
   | bl b => cases q2; cases h; exact ⟨.str_bool _ _ _, .str_bool _ _ _, .str_bool _ _ _⟩
   | int b => obtain ⟨t, rfl⟩ := q2; cases h; exact ⟨.str_int _ _ _ _, .str_int _ _ _ _, .str_int _ _ _ _⟩
   | str b => obtain ⟨t, rfl⟩ := q2; cases h; exact ⟨.str_str _ _ _ _, .str_str _ _ _ _, .str_str _ _ _ _⟩
   | lst _ _ => cases h
   | tup _ _ => cases h
   | exc _ _ => cases h
  | @lst a xs ds sq rs =>
   cases q1
   cases r2 with
   | @lst b ys es sq2 rs2 =>
    cases q2
    obtain ⟨its, vr, ⟨o, m, ho, hc, _, hd⟩, _⟩ := I.list sq
    obtain ⟨its2, vr2, ⟨o2, m2, ho2, hc2, _, hd2⟩, _⟩ := I.list sq2
    have L1 : s.heap.IsList a its.toArray := ⟨o, ho, hc, m, hd⟩
    have L2 : s.heap.IsList b its2.toArray := ⟨o2, ho2, hc2, m2, hd2⟩
    have z1 : its.length = ds.length := by rw [<- vr.length, rs.length]
    have z2 : its2.length = es.length := by rw [<- vr2.length, rs2.length]
    have main : RcAt A s (.ref a) (.ref b) k /\ RcNeAt A s (.ref a) (.ref b) (!k) := by
     simp only [eqF] at h
     split at h
     ·rename_i hl
      obtain ⟨g, g1, g2⟩ := zipE_all h
      have he : ∀ j (h1 : j < its.toArray.size) (h2 : j < its2.toArray.size), EqAt A.in1 s its.toArray[j] its2.toArray[j] (g j) := by
       intro j h1 h2
       simp only [List.size_toArray] at h1 h2
       obtain ⟨d', hd'⟩ : ∃ d', ds[j]? = some d' := ⟨_, List.getElem?_eq_getElem (by omega)⟩
       obtain ⟨e', he'⟩ : ∃ e', es[j]? = some e' := ⟨_, List.getElem?_eq_getElem (by omega)⟩
       obtain ⟨v', hv', rv'⟩ := rs.get hd'
       obtain ⟨u', hu', ru'⟩ := rs2.get he'
       obtain ⟨p, hp, rp⟩ := vr.get hv'
       obtain ⟨p2, hp2, rp2⟩ := vr2.get hu'
       have e1 : its.toArray[j] = p := by
        rw [List.getElem?_eq_getElem h1] at hp
        simpa using hp
       have e2 : its2.toArray[j] = p2 := by
        rw [List.getElem?_eq_getElem h2] at hp2
        simpa using hp2
       rw [e1, e2]
       exact (eq_at I n hu1 rv' ru' rp rp2 (g1 j d' e' hd' he')).1
      have hz : its.toArray.size = its2.toArray.size := by simp only [List.size_toArray]; omega
      have hk : k = (List.range its.toArray.size).all g := by
       rw [g2]; simp only [List.size_toArray]; rw [show min ds.length es.length = its.length by omega]
      rw [hk]
      exact ⟨.lists L1 L2 hz hu0 he, .lists L1 L2 hz hu0 he⟩
     ·rename_i hl
      cases h
      have hz : (its.toArray.size != its2.toArray.size) = true := by simp only [List.size_toArray]; exact bne_iff_ne.mpr (by omega)
      exact ⟨.lists_lengths L1 L2 hz hu0, .lists_lengths L1 L2 hz hu0⟩
    refine ⟨?_, main⟩
    by_cases hab : a = b
    ·subst hab
     have := Rep.inj I (.lst sq rs) (.lst sq2 rs2)
     rw [this] at h
     rw [eqF_refl _ _ _ h]
     exact EqAt.same _
    ·exact .of_refs hab main.1
   | non => cases h
   | bl _ => cases h
   | int _ => cases h
   | str _ => cases h
   | tup _ _ => cases h
   | exc _ _ => cases h
  | @tup a xs ds sq rs =>
   cases q1
   cases r2 with
   | @tup b ys es sq2 rs2 =>
    cases q2
    obtain ⟨its, vr, ⟨o, ho, hc, m, hd⟩, _⟩ := I.tuple sq
    obtain ⟨its2, vr2, ⟨o2, ho2, hc2, m2, hd2⟩, _⟩ := I.tuple sq2
    have L1 : s.heap.IsTuple a its.toArray := ⟨o, ho, hc, m, hd⟩
    have L2 : s.heap.IsTuple b its2.toArray := ⟨o2, ho2, hc2, m2, hd2⟩
    have z1 : its.length = ds.length := by rw [<- vr.length, rs.length]
    have z2 : its2.length = es.length := by rw [<- vr2.length, rs2.length]
    have main : RcAt A s (.ref a) (.ref b) k /\ RcNeAt A s (.ref a) (.ref b) (!k) := by
     simp only [eqF] at h
     cases hz : zipE (eqF n) ds es with
     | none => rw [hz] at h; cases h
     | some kk =>
      rw [hz] at h
      have h : some (kk && ds.length == es.length) = some k := h
      cases h
      obtain ⟨g, g1, g2⟩ := zipE_all hz
      have he : ∀ j (h1 : j < its.toArray.size) (h2 : j < its2.toArray.size), EqAt A.in1 s its.toArray[j] its2.toArray[j] (g j) := by
       intro j h1 h2
       simp only [List.size_toArray] at h1 h2
       obtain ⟨d', hd'⟩ : ∃ d', ds[j]? = some d' := ⟨_, List.getElem?_eq_getElem (by omega)⟩
       obtain ⟨e', he'⟩ : ∃ e', es[j]? = some e' := ⟨_, List.getElem?_eq_getElem (by omega)⟩
       obtain ⟨v', hv', rv'⟩ := rs.get hd'
       obtain ⟨u', hu', ru'⟩ := rs2.get he'
       obtain ⟨p, hp, rp⟩ := vr.get hv'
       obtain ⟨p2, hp2, rp2⟩ := vr2.get hu'
       have e1 : its.toArray[j] = p := by
        rw [List.getElem?_eq_getElem h1] at hp
        simpa using hp
       have e2 : its2.toArray[j] = p2 := by
        rw [List.getElem?_eq_getElem h2] at hp2
        simpa using hp2
       rw [e1, e2]
       exact (eq_at I n hu1 rv' ru' rp rp2 (g1 j d' e' hd' he')).1
      have hk : (kk && ds.length == es.length) = ((List.range (min its.toArray.size its2.toArray.size)).all g && its.toArray.size == its2.toArray.size) := by
       rw [g2]; simp only [List.size_toArray]; rw [z1, z2]
      rw [hk]
      exact ⟨.tuples L1 L2 hu0 he, .tuples L1 L2 hu0 he⟩
    refine ⟨?_, main⟩
    by_cases hab : a = b
    ·subst hab
     have := Rep.inj I (.tup sq rs) (.tup sq2 rs2)
     rw [this] at h
     rw [eqF_refl _ _ _ h]
     exact EqAt.same _
    ·exact .of_refs hab main.1
   | non => cases h
   | bl _ => cases h
   | int _ => cases h
   | str _ => cases h
   | lst _ _ => cases h
   | exc _ _ => cases h
  | exc _ _ => cases r2 <;> cases h
end
end L2
namespace L2
open PySem PySem.Spec PyProof.Rows
section
variable {X : Cx} {a b c e : Expr} {ma mb : ME} {la lb : ML} {pos : Pos}
noncomputable def rEqF (K : PySem.W.Frag) (neg : Bool) : R2 := fun x y H Q => ∃ d e k, Rep K H x d /\ Rep K H y e /\ eqF 8 d e = some k /\ Q (.bl (if neg then !k else k)) H
theorem op_eqF (hu : X.A.units + 64 < cLine) : OpR X (compareOp .Eq) (rEqF X.K false) := by
 intro pins s σ H x y v u Q I rx ry h
 obtain ⟨d, e, k, r1, r2, h, q⟩ := h
 exact (eq_at I 8 (by omega) r1 r2 rx ry h).2.1 X.prog X.w _ _ ⟨.bl k, H, I, rfl, q⟩
theorem op_neF (hu : X.A.units + 64 < cLine) : OpR X (compareOp .NotEq) (rEqF X.K true) := by
 intro pins s σ H x y v u Q I rx ry h
 obtain ⟨d, e, k, r1, r2, h, q⟩ := h
 exact (eq_at I 8 (by omega) r1 r2 rx ry h).2.2 X.prog X.w _ _ ⟨.bl (!k), H, I, rfl, q⟩
noncomputable def eqFD (neg : Bool) (d e : D) : Option D := (eqF 8 d e).map fun k => .bl (if neg then !k else k)
@[irreducible] noncomputable def meqB (neg : Bool) (x y : ML) : ME := fun ρ => (x ρ).bind fun ds => (y ρ).bind fun es => eqFD neg (.lst ds) (.lst es)
theorem eqB_d {neg : Bool} {σ : St} {H : Hp} {Q : VK} (h : TD X.K (meqB neg la lb) σ H Q) : tOp (rEqF X.K neg) (TB X.K la) (TB X.K lb) σ H Q := by
 obtain ⟨F0, H0, F, ρ, g, rl, e, q⟩ := h
 unfold meqB at e
 cases h1 : la ρ with
 | none => rw [h1] at e; cases e
 | some ds =>
  cases h2 : lb ρ with
  | none => rw [h1, h2] at e; cases e
  | some es =>
   rw [h1, h2] at e
   have e : eqFD neg (.lst ds) (.lst es) = some g := e
   refine ⟨F0, H0, F, ρ, ds, rl, h1, fun p xs F1 H1 x1 s1 r1 => ⟨F0, H0, F1, ρ, es, rl.go x1, h2, fun p2 xs2 F2 H2 x2 s2 r2 => ?_⟩⟩
   unfold eqFD at e
   cases hk : eqF 8 (.lst ds) (.lst es) with
   | none => rw [hk] at e; cases e
   | some k =>
    rw [hk] at e; cases e
    exact ⟨_, _, k, .lst (x2.hh.seq s1) (r1.mono (x2.ff.trans x2.fh)), .lst s2 (r2.mono x2.fh), hk, q _ F2 H2 (x1.trans x2) (.bl _)⟩
theorem pd_eqB {op : CmpOp} {neg : Bool} (ho : OpR X (compareOp op) (rEqF X.K neg)) (ha : PB X a la) (hb : PB X b lb) (hm : behindInMarks op b = false) : PD X (.Compare a [op] [b] pos) (meqB neg la lb) := (pe_cmpR ho ha hb hm).imp fun _ _ _ h => eqB_d h
theorem pc_eqB {op : CmpOp} {neg : Bool} (ho : OpR X (compareOp op) (rEqF X.K neg)) (ha : PB X a la) (hb : PB X b lb) (hm : behindInMarks op b = false) : PC' X (.Compare a [op] [b] pos) (mtest (meqB neg la lb)) := (pt_cmpR ho ha hb hm).imp fun σ H Q hpat => by
 obtain ⟨F0, H0, F, ρ, g, rl, e, q⟩ := hpat
 unfold mtest at e
 split at e
 ·rename_i k hk
  cases e
  refine eqB_d ⟨F0, H0, F, ρ, .bl g, rl, hk, fun v F' H' x r => ?_⟩
  cases r
  exact ⟨_, rfl, q F' H' x⟩
 ·cases e
end
end L2
namespace L2
open PySem PySem.Spec PyProof.Rows
section
variable {X : Cx} {a b c e k : Expr} {te : TE} {ma mb : ME} {la lb : ML} {pos p2 : Pos} {st : Stmt}
end
end L2
namespace L2
open PySem PySem.Spec PyProof.Rows
section
variable {X : Cx} {a b c e : Expr} {ma mb : ME} {la lb : ML} {pos : Pos} {st : Stmt}
end
end L2
namespace L2
open PySem PySem.Spec PyProof.Rows
section
variable {K : PySem.W.Frag} {F0 H0 F H : Hp} {σ : St} {ρ : Ro}
end
end L2
namespace L2
open PySem PySem.Spec PyProof.Rows
section
variable {X : Cx} {a b c e : Expr} {ma mb mz : ME} {la lb : ML} {pos : Pos}
noncomputable def intsD : List D -> Option (List Int)
 | [] => some []
 | .int i :: r => match intsD r with | some ns => some (i :: ns) | none => none
 | _ => none
theorem intsD_reps {K : PySem.W.Frag} {F : Hp} : ∀ {vs : List V} {ds : List D} {ns : List Int}, Reps K F vs ds -> intsD ds = some ns -> vs = ns.map V.int
 | _, _, _, .nil, h => by cases h; rfl
 | _, _, _, .cons (d := d) (ds := ds) r t, h => by
  cases r with
  | int i =>
   unfold intsD at h
   cases h1 : intsD ds with
   | none => simp only [h1] at h; cases h
   | some ns => simp only [h1] at h; cases h; rw [intsD_reps t h1]; rfl
  | _ => cases h
theorem intsD_map : ∀ ns : List Int, intsD (ns.map D.int) = some ns
 | [] => rfl
 | n :: ns => by show (match intsD (ns.map D.int) with | some ns => some (n :: ns) | none => none) = _; rw [intsD_map ns]
noncomputable def tabVs : List (Str × Str) -> List DictEntry -> Prop
 | [], [] => True
 | (k, v) :: r, e :: es => (∃ t, e.key = .str k t) /\ (∃ t, e.val = .str v t) /\ tabVs r es
 | _, _ => False
structure KTab (w : World) (K : PySem.W.Frag) (a : Addr) (tab : List (Str × Str)) : Prop where
 ns : (a == sysModules) = false
 nd : (tab.map (·.1)).Nodup
 obj : ∃ es ep, K.lookup a = some ⟨.type "dict", none, .dict es ep, #[]⟩ /\ tabVs tab es.toList /\ ∀ e ∈ es.toList, ∀ k t, e.key = .str k t -> e.hash = hashStr w k
theorem tab_pairs {P : Program} {w : World} : ∀ {tab : List (Str × Str)} {es : List DictEntry}, tabVs tab es -> ∃ kvs : List (Key × Value), Pairs (mixKind P w) es kvs /\ kvs.map (·.1) = tab.map (fun p => Sum.inr p.1) /\ ∀ k, (∀ v, tab.lookup k = some v -> ∃ t, valueAt kvs (Sum.inr k) = some (.str v t)) /\ (tab.lookup k = none -> valueAt kvs (Sum.inr k) = none)
 | [], [], _ => ⟨[], .nil, rfl, fun k => ⟨fun v h => by simp at h, fun _ => rfl⟩⟩
 | [], _ :: _, h => h.elim
 | _ :: _, [], h => h.elim
 | (k, v) :: r, e :: es, ⟨⟨t1, h1⟩, ⟨t2, h2⟩, h3⟩ => by
  obtain ⟨kvs, a1, a2, a3⟩ := tab_pairs (P := P) (w := w) h3
  refine ⟨(Sum.inr k, .str v t2) :: kvs, .cons (by rw [h1]; exact keyIs_str k t1) h2 a1, by rw [List.map_cons, List.map_cons, a2], fun k' => ?_⟩
  unfold valueAt
  by_cases hk : k' = k
  ·subst hk
   refine ⟨fun v' h => ?_, fun h => ?_⟩
   ·rw [List.lookup_cons_self] at h; cases h
    exact ⟨t2, by simp⟩
   ·rw [List.lookup_cons_self] at h; cases h
  ·have hb : (k' == k) = false := by simpa using hk
   have hb2 : ¬ ((Sum.inr k : Key) = Sum.inr k') := fun z => hk (Sum.inr.inj z).symm
   obtain ⟨c1, c2⟩ := a3 k'
   refine ⟨fun v' h => ?_, fun h => ?_⟩
   ·rw [List.lookup_cons, hb] at h
    obtain ⟨t, ht⟩ := c1 v' h
    unfold valueAt at ht
    exact ⟨t, by simpa [hb2] using ht⟩
   ·rw [List.lookup_cons, hb] at h
    have := c2 h
    unfold valueAt at this
    simpa [hb2] using this
theorem KTab.dict {t : Addr} {tab : List (Str × Str)} {pins : List (Addr × Obj)} {σ : St} {H : Hp} {s : Shared} (T : KTab X.w X.K t tab) (I : Inv X pins σ H s) : ∃ kvs : List (Key × Value), s.heap.DictOf (mixKind X.prog X.w) t kvs /\ ∀ k, (∀ v, tab.lookup k = some v -> ∃ t, valueAt kvs (Sum.inr k) = some (.str v t)) /\ (tab.lookup k = none -> valueAt kvs (Sum.inr k) = none) := by
 obtain ⟨es, ep, h1, h2, h3⟩ := T.obj
 obtain ⟨kvs, a1, a2, a3⟩ := tab_pairs (P := X.prog) (w := X.w) h2
 refine ⟨kvs, ⟨_, es, ep, I.kIn t _ h1, ⟨rfl, rfl, rfl⟩, rfl, fun e he => ?_, a1, ?_⟩, a3⟩
 ·have key : ∀ {tab : List (Str × Str)} {es : List DictEntry}, tabVs tab es -> ∀ e ∈ es, ∃ k t, e.key = .str k t := by
   intro tab
   induction tab with
   | nil => intro es h e he; cases es with
    | nil => cases he
    | cons _ _ => exact h.elim
   | cons p r ih =>
    intro es h e he
    cases es with
    | nil => cases he
    | cons e0 es =>
     obtain ⟨⟨t1, g1⟩, _, g3⟩ := h
     rcases List.mem_cons.mp he with z | z
     ·subst z; exact ⟨_, t1, g1⟩
     ·exact ih g3 e z
  obtain ⟨k, tk, hk⟩ := key h2 e (by simpa using he)
  exact ⟨Sum.inr k, by rw [hk]; exact keyIs_str k tk, h3 e (by simpa using he) k tk hk⟩
 ·rw [a2]
  have := T.nd
  rw [show tab.map (fun p => (Sum.inr p.1 : Key)) = (tab.map (·.1)).map Sum.inr by rw [List.map_map]; rfl]
  exact List.Pairwise.map _ (fun _ _ h z => h (Sum.inr.inj z)) this
end
end L2
namespace L2
open PySem PySem.Spec PyProof.Rows
section
variable {prog : Program} {w : World} {A : Around} {E : Value -> Shared -> Prop} {s : Shared}
structure ApT (z TO i1 i2 l : Addr) : Prop where
 lz : l ≠ z
 lTO : l ≠ TO
 l1 : l ≠ i1
 l2 : l ≠ i2
end
end L2
namespace L2
open PySem PySem.Spec PyProof.Rows
section
variable {prog : Program} {w : World} {A : Around} {E : Value -> Shared -> Prop} {s : Shared}
end
section
variable {X : Cx}
end
end L2
namespace L2
open PySem PySem.Spec PyProof.Rows
section
variable {X : Cx} {a b c e : Expr} {ma mb : ME} {la lb : ML} {pos : Pos}
end
section
variable {K : PySem.W.Frag} {F0 H0 F H H' : Hp} {σ : St} {ρ : Ro}
end
section
variable {X : Cx} {a b c e3 : Expr} {ma mb : ME} {la lb : ML} {pos : Pos} {E : XK} {es : List Expr} {mf : MF} {m : ML} {rb : List Stmt} {mx : MS} {cc : MB} {y : D}
end
end L2
namespace L2
open PySem PySem.Spec PyProof.Rows
noncomputable abbrev MEm := Ro -> Option (D × Ro)
noncomputable abbrev MLm := Ro -> Option (List D × Ro)
noncomputable def TDm (K : PySem.W.Frag) (m : MEm) : TE := fun σ H Q => ∃ F0 H0 F ρ d ρ', Rl K F0 H0 F H σ ρ /\ m ρ = some (d, ρ') /\ ∀ v F' H', Rl K F0 H0 F' H' σ ρ' -> Same F F' -> Rep K F' v d -> Q v H'
noncomputable def TAm (K : PySem.W.Frag) (m : MLm) : TA := fun σ H Q => ∃ F0 H0 F ρ ds ρ', Rl K F0 H0 F H σ ρ /\ m ρ = some (ds, ρ') /\ ∀ vs F' H', Rl K F0 H0 F' H' σ ρ' -> Same F F' -> Reps K F' vs ds -> Q vs H'
noncomputable def PDm (X : Cx) (e : Expr) (m : MEm) : Prop := PE X e (TDm X.K m)
noncomputable def PAm (X : Cx) (es : List Expr) (m : MLm) : Prop := PA X es (TAm X.K m)
section
variable {X : Cx} {a b c e : Expr} {ma mb : ME} {na nb : MEm} {pos : Pos} {es : List Expr}
@[irreducible] noncomputable def mpu (m : ME) : MEm := fun ρ => match m ρ with | some d => some (d, ρ) | none => none
@[irreducible] noncomputable def apu (m : ML) : MLm := fun ρ => match m ρ with | some d => some (d, ρ) | none => none
theorem pdm_pure (h : PD X e ma) : PDm X e (mpu ma) := h.imp fun σ H Q hpat => by
 obtain ⟨F0, H0, F, ρ, d, ρ', rl, e, q⟩ := hpat
 unfold mpu at e
 split at e
 ·rename_i d' hm; cases e; exact ⟨F0, H0, F, ρ, d, rl, hm, fun v F' H' x r => q v F' H' (rl.go x) x.ff r⟩
 ·cases e
theorem pam_pure {m : ML} (h : PAs X es m) : PAm X es (apu m) := h.imp fun σ H Q hpat => by
 obtain ⟨F0, H0, F, ρ, d, ρ', rl, e, q⟩ := hpat
 unfold apu at e
 split at e
 ·rename_i d' hm; cases e; exact ⟨F0, H0, F, ρ, d, rl, hm, fun v F' H' x r => q v F' H' (rl.go x) x.ff r⟩
 ·cases e
@[irreducible] noncomputable def m2m (f : D -> D -> Option D) (x y : MEm) : MEm := fun ρ => match x ρ with
 | some (d, ρ1) => (match y ρ1 with | some (e, ρ2) => (match f d e with | some g => some (g, ρ2) | none => none) | none => none)
 | none => none
theorem opm_d {r : R2} {f : D -> D -> Option D} (hf : OpD X.K r f) {σ : St} {H : Hp} {Q : VK} (h : TDm X.K (m2m f na nb) σ H Q) : tOp r (TDm X.K na) (TDm X.K nb) σ H Q := by
 obtain ⟨F0, H0, F, ρ, g, ρ', rl, e, q⟩ := h
 unfold m2m at e
 split at e
 ·rename_i d ρ1 h1
  split at e
  ·rename_i d2 ρ2 h2
   split at e
   ·rename_i g' h3
    cases e
    refine ⟨F0, H0, F, ρ, d, ρ1, rl, h1, fun x F1 H1 rl1 s1 r1 => ⟨F0, H0, F1, ρ1, d2, ρ', rl1, h2, fun y F2 H2 rl2 s2 r2 => ?_⟩⟩
    exact hf F2 H2 x y d d2 g Q rl2.fh (r1.mono s2) r2 h3 fun v F' H' x3 r3 => q v F' H' (rl2.go x3) (s1.trans (s2.trans x3.ff)) r3
   ·cases e
  ·cases e
 ·cases e
theorem pdm_op {op : Operator} {r : R2} {f : D -> D -> Option D} (ho : OpR X (binaryOp op) r) (hf : OpD X.K r f) (ha : PDm X a na) (hb : PDm X b nb) : PDm X (.BinOp a op b pos) (m2m f na nb) := (pe_op ho ha hb).imp fun _ _ _ h => opm_d hf h
noncomputable def ixLD : D -> D -> Option D
 | .lst ds, .int k => atI ds k
 | _, _ => none
theorem opd_ixL {K : PySem.W.Frag} : OpD K (rIxL K) ixLD := by
 intro F H x y d e w Q s r1 r2 h q
 cases r1 with
 | lst sq rs =>
  cases r2 with
  | int k =>
   obtain ⟨v, h3, h4⟩ := atI_reps rs (show atI _ k = some w from h)
   exact ⟨_, _, k, v, rfl, rfl, s.seq sq, h3, q v F H (.refl s) h4⟩
  | _ => cases h
 | _ => cases r2 <;> cases h
theorem pdm_ix (ha : PDm X a na) (hb : PDm X b nb) (hs : PlainIx b := by exact fun _ _ => rfl) : PDm X (.Subscript a b pos) (m2m ixLD na nb) := (pe_ix ix_list ha hb hs).imp fun σ H Q h => opm_d opd_ixL h
@[irreducible] noncomputable def aconsm (x : MEm) (r : MLm) : MLm := fun ρ => match x ρ with | some (d, ρ1) => (match r ρ1 with | some (ds, ρ2) => some (d :: ds, ρ2) | none => none) | none => none
theorem pam_cons {m : MLm} (ha : PDm X a na) (hr : PAm X es m) (hs : starEach (a :: es) X.env = (false, eval a X.env) :: starEach es X.env := by rfl) : PAm X (a :: es) (aconsm na m) := (pa_cons ha hr hs).imp fun σ H Q hpat => by
 obtain ⟨F0, H0, F, ρ, g, ρ', rl, e, q⟩ := hpat
 unfold aconsm at e
 split at e
 ·rename_i d ρ1 h1
  split at e
  ·rename_i ds ρ2 h2
   cases e
   refine ⟨F0, H0, F, ρ, d, ρ1, rl, h1, fun x F1 H1 rl1 s1 r1 => ⟨F0, H0, F1, ρ1, ds, ρ', rl1, h2, fun xs F2 H2 rl2 s2 r2 => ?_⟩⟩
   exact q _ F2 H2 rl2 (s1.trans s2) (.cons (r1.mono s2) r2)
  ·cases e
 ·cases e
@[irreducible] noncomputable def mlstm (m : MLm) : MEm := fun ρ => match m ρ with | some (ds, ρ1) => if ds.length <= sizeLine then some (.lst ds, ρ1) else none | none => none
theorem pdm_lst {m : MLm} (h : PAm X es m) : PDm X (.List es pos) (mlstm m) := (pe_lst h).imp fun σ H Q hpat => by
 obtain ⟨F0, H0, F, ρ, g, ρ', rl, e, q⟩ := hpat
 unfold mlstm at e
 split at e
 ·rename_i ds ρ1 h1
  split at e
  ·rename_i hz
   cases e
   refine ⟨F0, H0, F, ρ, ds, ρ', rl, h1, fun vs F1 H1 rl1 s1 r1 => ⟨by rw [r1.length]; exact hz, fun p hp => ?_⟩⟩
   have x := Ext.laid (o := .lst vs) rl1.fh hp
   exact q _ _ _ (rl1.go x) (s1.trans x.ff) (.lst (SqL.of upd_same) (r1.mono x.ff))
  ·cases e
 ·cases e
variable {st : Stmt}
@[irreducible] noncomputable def msetm (i : Nat) (x : MEm) : MS := fun ρ => match x ρ with | some (d, ρ1) => some (.nx (ρ1.set i (some (.sh d)))) | none => none
theorem psd_setm {i : Nat} {x : Str} {pos' : Pos} (hN : X.N.Nodup) (hi : X.N[i]? = some x) (hx : Loc X.env.scope x) (he : PDm X e na) (hs : swapsWith e (some (.Name x pos')) pos.line X.env = pure false := by rfl) (hf : X.fn x = true \/ X.env.scope.names.lookup x = some .local := by first | exact .inl rfl | exact .inr rfl | assumption) :
  PSd X (.Assign [.Name x pos'] e pos) (msetm i na) := (ps_set hN hi hx he hs hf).imp fun D σ H hpat => by
 obtain ⟨F0, H0, F, ρ, o, rl, e, ok⟩ := hpat
 unfold msetm at e
 split at e
 ·rename_i d ρ1 h1
  cases e
  exact ⟨F0, H0, F, ρ, d, ρ1, rl, h1, fun v F1 H1 rl1 s1 r1 => ok F1 H1 _ (rl1.set r1) s1⟩
 ·cases e
@[irreducible] noncomputable def mretG (i : Nat) (x : MEm) : MS := fun ρ => match x ρ with
 | some (d, ρ1) => (match ρ1[i]? with | some (some (.ob p r)) => some (.rg d p r) | _ => none)
 | none => none
theorem psd_retG (i : Nat) (he : PDm X e na) : PSd X (.Return (some e) pos) (mretG i na) := (ps_ret he).imp fun D σ H hpat => by
 obtain ⟨F0, H0, F, ρ, o, rl, e, ok⟩ := hpat
 unfold mretG at e
 split at e
 ·rename_i d ρ1 h1
  split at e
  ·rename_i p r h2
   cases e
   refine ⟨F0, H0, F, ρ, d, ρ1, rl, h1, fun v F1 H1 rl1 s1 r1 => ?_⟩
   obtain ⟨o1, o2, o3, xs, o4, o5⟩ := rl1.ob i p r h2
   exact ok v F1 H1 xs rl1.ext r1 o2 o4 o5
  ·cases e
 ·cases e
end
noncomputable abbrev MG := Addr -> List D -> List D -> Option (Rt × List D)
noncomputable def del (H : Hp) (p : Addr) : Hp := fun b => if b = p then none else H b
theorem del_self {H : Hp} {p : Addr} : del H p p = none := by unfold del; rw [if_pos rfl]
theorem del_ne {H : Hp} {p b : Addr} (h : b ≠ p) : del H p b = H b := by unfold del; rw [if_neg h]
noncomputable def okG (K : PySem.W.Frag) (F H : Hp) (p : Addr) (Q : VK) (r' : List D) : Rt -> Prop
 | .sh d => ∀ v F' H' xs, Ext F (del H p) F' H' -> Rep K F' v d -> F' p = none -> H' p = some (.lst xs) -> Reps K F' xs r' -> Q v H'
 | .fr ds => ∀ q ys F' H' xs, Ext F (del H p) F' H' -> H q = none -> F' q = none -> H' q = some (.lst ys) -> Reps K F' ys ds -> F' p = none -> H' p = some (.lst xs) -> Reps K F' xs r' -> Q (.ref q) H'
 | .pr _ _ => False
noncomputable def spG (K : PySem.W.Frag) (n : Nat) (m : MG) : Sp := fun vs H Q _ => vs.length = n /\ ∃ p ws F r0 ds r r1 xs, vs = .ref p :: ws /\ H p = some (.lst xs) /\ F p = none /\ Same F H /\ Reps K F xs r0 /\ Reps K F ws ds /\ m p r0 ds = some (r, r1) /\ okG K F H p Q r1 r
noncomputable def startG (n : Nat) (p : Addr) (r : List D) (ds : List D) : Ro := some (.ob p r) :: startS (n - 1) ds
noncomputable def runG (n : Nat) (m : MS) : MG := fun p r ds => match m (startG n p r ds) with
 | some (.rg d q r') => if q = p then some (.sh d, r') else none
 | some (.rgf es q r') => if q = p then some (.fr es, r') else none
 | _ => none
theorem rl_startG {K : PySem.W.Frag} {F H : Hp} {N : List Str} {p : Addr} {xs ws : List V} {r ds : List D} (hn : 0 < N.length) (s : Same F H) (hF : F p = none) (hH : H p = some (.lst xs)) (hr : Reps K F xs r) (rs : Reps K F ws ds) : Rl K F (del H p) F H (start N (.ref p :: ws)) (startG N.length p r ds) := by
 have e0 : start N (.ref p :: ws) = some (.ref p) :: start N.tail ws := by
  unfold start
  rw [List.map_cons, List.cons_append, List.length_cons, List.length_tail]
  congr 2
  congr 1
  omega
 have e1 : startG N.length p r ds = some (.ob p r) :: startS N.tail.length ds := by unfold startG; rw [List.length_tail]
 have base := rl_start (N := N.tail) s rs
 have only : ∀ (j : Nat) x, (startS N.tail.length ds)[j]? = some (some x) -> ∃ d, x = S.sh d := fun j x e => by
  unfold startS at e
  by_cases hi : j < ds.length
  ·rw [List.getElem?_append_left (by simpa using hi), List.getElem?_map] at e
   cases q : ds[j]? with
   | none => rw [q] at e; cases e
   | some d => rw [q] at e; cases e; exact ⟨d, rfl⟩
  ·rw [List.getElem?_append_right (by simpa using hi), List.getElem?_replicate] at e
   split at e <;> cases e
 rw [e0, e1]
 refine ⟨⟨Same.refl F, fun b o e => ?_, s, fun b e n => absurd e n, fun _ _ _ z => z⟩, by rw [List.length_cons, List.length_cons, base.len], fun i d e => ?_, fun i es e => ?_, fun i j q es es' _ e => ?_, fun i q es e => ?_, fun i j q es es' e e2 => ?_, fun i j q q' es es' e e2 => ?_⟩
 ·by_cases hb : b = p
  ·subst hb; rw [del_self] at e; cases e
  ·rw [del_ne hb] at e; exact e
 ·cases i with
  | zero => cases e
  | succ i => exact base.sh i d e
 ·cases i with
  | zero => cases e
  | succ i => obtain ⟨d, z⟩ := only i _ e; cases z
 ·cases i with
  | zero => cases e
  | succ i => obtain ⟨d, z⟩ := only i _ e; cases z
 ·cases i with
  | zero => cases e; exact ⟨rfl, hF, del_self, xs, hH, hr⟩
  | succ i => obtain ⟨d, z⟩ := only i _ e; cases z
 ·cases j with
  | zero => cases e2
  | succ j => obtain ⟨d, z⟩ := only j _ e2; cases z
 ·cases i with
  | zero =>
   cases j with
   | zero => rfl
   | succ j => obtain ⟨d, z⟩ := only j _ e2; cases z
  | succ i => obtain ⟨d, z⟩ := only i _ e; cases z
theorem Fun.okGl {P : Program} {w : World} {K : PySem.W.Frag} {mg : Str -> Option Value} {base : Heap} {x qual : Str} {st : Stmt} {f : Addr} {fd : FuncData} {N ps : List Str} {k : Nat} {m : MS} (Fn : Fun K x qual st f fd) (Sc : FnScope N ps (defScope st)) (hn : 0 < N.length)
  (hbody : ∀ (cdv : Value) (A : Around) (outer : List Env) (s : Shared) (H : Hp) (E : XK), Room k (A.deeper (envOfC qual (defScope st) s.heap.objs.size f cdv)) -> PSsd (cxOf CX0 P w K mg base N qual (defScope st) f cdv A outer s H E).nox (defBody st) m) :
  FnOk P w K mg base CX0 (k + 1) f fd ps (spG K ps.length (runG N.length m)) := by
 refine Fn.ok Sc (fun vs H Q E h => h.1) fun cdv A outer s H vs Q E hr h => ?_
 obtain ⟨hl, p, ws, F, r0, ds, r, r1, xs, rfl, hH, hF, sf, rx, rs, e, ok⟩ := h
 unfold runG at e
 cases h1 : m (startG N.length p r0 ds) with
 | none => rw [h1] at e; cases e
 | some o =>
  rw [h1] at e
  refine ⟨_, hbody cdv A outer s H E hr, F, del H p, F, startG N.length p r0 ds, o, rl_startG hn sf hF hH rx rs, h1, ?_⟩
  cases o with
  | rg d q r' =>
   have e : (if q = p then some (Rt.sh d, r') else none) = some (r, r1) := e
   by_cases hq : q = p
   ·rw [if_pos hq] at e
    cases e
    subst hq
    exact fun v F' H' xs' x rv f1 h1 rr => ok v F' H' xs' x rv f1 h1 rr
   ·rw [if_neg hq] at e; cases e
  | rgf es q r' =>
   have e : (if q = p then some (Rt.fr es, r') else none) = some (r, r1) := e
   by_cases hq : q = p
   ·rw [if_pos hq] at e
    cases e
    subst hq
    exact fun q' ys F' H' xs' x h0 f0 hne hq' rq f1 h1 rr => ok q' ys F' H' xs' x (by rw [del_ne hne] at h0; exact h0) f0 hq' rq f1 h1 rr
   ·rw [if_neg hq] at e; cases e
  | nx _ => cases e
  | bk _ => cases e
  | ct _ => cases e
  | rt _ => cases e
  | rf _ => cases e
  | rp _ _ => cases e
end L2
namespace L2
open PySem PySem.Spec PyProof.Rows
section
variable {K : PySem.W.Frag} {F0 H0 F H F' H' : Hp} {σ : St} {ρ : Ro}
theorem Ext.lent (a : Ext F0 H0 F H) {p : Addr} (h0 : H0 p = none) (x : Ext F (del H p) F' H') : Ext F0 H0 F' H' :=
 ⟨a.ff.trans x.ff, fun b o e => by
  have hb : b ≠ p := fun z => by rw [z, h0] at e; cases e
  exact x.hh b o (by rw [del_ne hb]; exact a.hh b o e), x.fh, fun b e n => by
  by_cases hf : F b = none
  ·by_cases hb : b = p
   ·rw [hb]; exact h0
   ·have := x.new b hf n
    rw [del_ne hb] at this
    exact a.hh.free this
  ·exact a.new b e hf, fun b o u z => a.nf b o u (x.nf b o u z)⟩
theorem Rl.lent (r : Rl K F0 H0 F H σ ρ) {i : Nat} {p : Addr} {xs : List V} {r0 r1 : List D} (h : ρ[i]? = some (some (.own r0))) (hp : σ[i]? = some (some (.ref p))) (x : Ext F (del H p) F' H') (hF : F' p = none) (hH : H' p = some (.lst xs)) (hr : Reps K F' xs r1) : Rl K F0 H0 F' H' σ (ρ.set i (some (.own r1))) := by
 obtain ⟨p', xs', a, b, c, d, z⟩ := r.own i r0 h
 rw [hp] at a; cases a
 have hl : i < ρ.length := (List.getElem?_eq_some_iff.mp h).1
 have keepF : ∀ q, q ≠ p -> F q = none -> (∃ o, H q = some o) -> F' q = none := fun q hq f hpat => by
  obtain ⟨o, ho⟩ := hpat
  cases w : F' q with
  | none => rfl
  | some u => have := x.new q f (by rw [w]; simp); rw [del_ne hq, ho] at this; cases this
 have keepH : ∀ q o, q ≠ p -> H q = some o -> H' q = some o := fun q o hq ho => x.hh q o (by rw [del_ne hq]; exact ho)
 have back : ∀ (j : Nat) fs, (ρ.set i (some (S.own r1)))[j]? = some (some (.own fs)) -> (j = i /\ fs = r1) \/ (i ≠ j /\ ρ[j]? = some (some (.own fs))) := fun j fs e => by
  by_cases hj : i = j
  ·subst hj; rw [List.getElem?_set_self hl] at e; cases e; exact .inl ⟨rfl, rfl⟩
  ·rw [List.getElem?_set_ne hj] at e; exact .inr ⟨hj, e⟩
 refine ⟨r.ext.lent z x, by simp [r.len], fun j d' q => ?_, fun j fs q => ?_, fun j k q fs fs' hjk e1 e2 e3 e4 => ?_, fun j q fs e1 => ?_, fun j k q fs fs' e1 e2 e3 => ?_, fun j k q q' es es' e1 e2 => r.ob1 j k q q' es es' (set_ob e1).2 (set_ob e2).2⟩
 ·by_cases hj : i = j
  ·subst hj; rw [List.getElem?_set_self hl] at q; cases q
  ·rw [List.getElem?_set_ne hj] at q
   obtain ⟨v, v1, v2⟩ := r.sh j d' q
   exact ⟨v, v1, v2.mono x.ff⟩
 ·rcases back j fs q with ⟨rfl, rfl⟩ | ⟨n, e⟩
  ·exact ⟨p, xs, hp, hF, hH, hr, z⟩
  ·obtain ⟨p2, xs2, a2, b2, c2, d2, z2⟩ := r.own j fs e
   have hpp : p2 ≠ p := fun w => r.inj i j p r0 fs n h e hp (by rw [<- w]; exact a2)
   exact ⟨p2, xs2, a2, keepF p2 hpp b2 ⟨_, c2⟩, keepH _ _ hpp c2, d2.mono x.ff, z2⟩
 ·have b1 : ∃ g, ρ[j]? = some (some (.own g)) := by
   rcases back j fs e1 with ⟨rfl, _⟩ | ⟨_, w⟩
   ·exact ⟨_, h⟩
   ·exact ⟨_, w⟩
  have b2 : ∃ g, ρ[k]? = some (some (.own g)) := by
   rcases back k fs' e2 with ⟨rfl, _⟩ | ⟨_, w⟩
   ·exact ⟨_, h⟩
   ·exact ⟨_, w⟩
  obtain ⟨g1, w1⟩ := b1
  obtain ⟨g2, w2⟩ := b2
  exact r.inj j k q g1 g2 hjk w1 w2 e3 e4
 ·obtain ⟨n, e1⟩ := set_ob e1
  obtain ⟨o1, o2, o3, zs, o4, o5⟩ := r.ob j q fs e1
  have hpp : q ≠ p := fun w => r.obn j i q fs r0 e1 h (by rw [w]; exact hp)
  exact ⟨o1, keepF q hpp o2 ⟨_, o4⟩, o3, zs, keepH _ _ hpp o4, o5.mono x.ff⟩
 ·obtain ⟨n, e5⟩ := set_ob e1
  rcases back k fs' e2 with ⟨e6, _⟩ | ⟨_, w⟩
  ·rw [e6] at e3; exact r.obn j i q fs r0 e5 h e3
  ·exact r.obn j k q fs fs' e5 w e3
theorem Rl.lentB (r : Rl K F0 H0 F H σ ρ) {i : Nat} {p : Addr} {xs : List V} {r0 r1 : List D} (h : ρ[i]? = some (some (.ob p r0))) (x : Ext F (del H p) F' H') (hF : F' p = none) (hH : H' p = some (.lst xs)) (hr : Reps K F' xs r1) : Rl K F0 H0 F' H' σ (ρ.set i (some (.ob p r1))) := by
 obtain ⟨a, b, z, xs', c, d⟩ := r.ob i p r0 h
 have hl : i < ρ.length := (List.getElem?_eq_some_iff.mp h).1
 have keepF : ∀ q, q ≠ p -> F q = none -> (∃ o, H q = some o) -> F' q = none := fun q hq f hpat => by
  obtain ⟨o, ho⟩ := hpat
  cases w : F' q with
  | none => rfl
  | some u => have := x.new q f (by rw [w]; simp); rw [del_ne hq, ho] at this; cases this
 have keepH : ∀ q o, q ≠ p -> H q = some o -> H' q = some o := fun q o hq ho => x.hh q o (by rw [del_ne hq]; exact ho)
 have back : ∀ (j : Nat) q fs, (ρ.set i (some (S.ob p r1)))[j]? = some (some (.ob q fs)) -> j = i /\ q = p /\ fs = r1 := fun j q fs e => by
  by_cases hj : i = j
  ·subst hj; rw [List.getElem?_set_self hl] at e; cases e; exact ⟨rfl, rfl, rfl⟩
  ·rw [List.getElem?_set_ne hj] at e; exact absurd (r.ob1 i j p q r0 fs h e) hj
 have other : ∀ (j : Nat) fs, (ρ.set i (some (S.ob p r1)))[j]? = some (some (.own fs)) -> i ≠ j /\ ρ[j]? = some (some (.own fs)) := fun j fs e => by
  by_cases hj : i = j
  ·subst hj; rw [List.getElem?_set_self hl] at e; cases e
  ·rw [List.getElem?_set_ne hj] at e; exact ⟨hj, e⟩
 refine ⟨r.ext.lent z x, by simp [r.len], fun j d' q => ?_, fun j fs q => ?_, fun j k q fs fs' hjk e1 e2 e3 e4 => r.inj j k q fs fs' hjk (other j fs e1).2 (other k fs' e2).2 e3 e4, fun j q fs e1 => ?_, fun j k q fs fs' e1 e2 e3 => ?_, fun j k q q' fs fs' e1 e2 => ?_⟩
 ·by_cases hj : i = j
  ·subst hj; rw [List.getElem?_set_self hl] at q; cases q
  ·rw [List.getElem?_set_ne hj] at q
   obtain ⟨v, v1, v2⟩ := r.sh j d' q
   exact ⟨v, v1, v2.mono x.ff⟩
 ·obtain ⟨n, e⟩ := other j fs q
  obtain ⟨p2, xs2, a2, b2, c2, d2, z2⟩ := r.own j fs e
  have hpp : p2 ≠ p := fun w => r.obn i j p r0 fs h e (by rw [<- w]; exact a2)
  exact ⟨p2, xs2, a2, keepF p2 hpp b2 ⟨_, c2⟩, keepH _ _ hpp c2, d2.mono x.ff, z2⟩
 ·obtain ⟨e2, e3, e4⟩ := back j q fs e1
  subst e2 e3 e4
  exact ⟨a, hF, z, xs, hH, hr⟩
 ·obtain ⟨e4, e5, _⟩ := back j q fs e1
  subst e4 e5
  exact r.obn j k q r0 fs' h (other k fs' e2).2 e3
 ·rw [(back j q fs e1).1, (back k q' fs' e2).1]
end
open Classical in
noncomputable def anyP {α : Type} (f : Addr -> Option α) : Option α := if h : ∃ x, ∀ p, f p = some x then some (Classical.choose h) else none
theorem anyP_some {α : Type} {f : Addr -> Option α} {x : α} (h : anyP f = some x) : ∀ p, f p = some x := by
 unfold anyP at h
 split at h
 ·rename_i hx
  cases h
  exact Classical.choose_spec hx
 ·cases h
theorem anyP_of {α : Type} {f : Addr -> Option α} {x : α} (h : ∀ p, f p = some x) : anyP f = some x := by
 unfold anyP
 have hx : ∃ x, ∀ p, f p = some x := ⟨x, h⟩
 rw [dif_pos hx]
 have := Classical.choose_spec hx 0
 rw [h 0] at this
 exact this.symm
noncomputable def rtD : Rt -> Option D
 | .sh d => some d
 | .fr es => some (.lst es)
 | .pr _ _ => none
@[irreducible] noncomputable def mcallG (f : MG) (i : Nat) (m : MLm) : MEm := fun ρ => match ρ[i]? with
 | some (some (.own _)) => (match m ρ with
  | some (ds, ρ1) => (match ρ1[i]? with
   | some (some (.own r0)) => (match anyP (fun p => f p r0 ds) with
    | some (t, r1) => (match rtD t with | some d => some (d, ρ1.set i (some (.own r1))) | none => none)
    | none => none)
   | _ => none)
  | none => none)
 | some (some (.ob _ _)) => (match m ρ with
  | some (ds, ρ1) => (match ρ1[i]? with
   | some (some (.ob p r0)) => (match f p r0 ds with
    | some (t, r1) => (match rtD t with | some d => some (d, ρ1.set i (some (.ob p r1))) | none => none)
    | none => none)
   | _ => none)
  | none => none)
 | _ => none
theorem apu_len {m : ML} {n : Nat} (h : ∀ ρ ds, m ρ = some ds -> ds.length = n) (ρ : Ro) (ds : List D) (ρ' : Ro) (e : apu m ρ = some (ds, ρ')) : ds.length = n := by
 unfold apu at e
 split at e
 ·rename_i d hm; cases e; exact h ρ _ hm
 ·cases e
theorem aconsm_len {x : MEm} {r : MLm} {n : Nat} (hr : ∀ ρ ds ρ', r ρ = some (ds, ρ') -> ds.length = n) (ρ : Ro) (ds : List D) (ρ' : Ro) (h : aconsm x r ρ = some (ds, ρ')) : ds.length = n + 1 := by
 unfold aconsm at h
 split at h
 ·rename_i d ρ1 h1
  split at h
  ·rename_i ds' ρ2 h2; cases h; rw [List.length_cons, hr ρ1 ds' _ h2]
  ·cases h
 ·cases h
section
variable {X : Cx} {e : Expr} {pos : Pos} {es : List Expr} {E : XK} {mf : MG} {m : MLm}
theorem pdm_callG {n i : Nat} {x : Str} {px : Pos} (h : ∀ t, PA X (.Name x px :: es) t -> PE X e (tCall (spG X.K n mf) [] E t)) (hl : es.length + 1 = n) (hv : PE X (.Name x px) (tVar i)) (ha : PAm X es m) (hm : ∀ ρ ds ρ', m ρ = some (ds, ρ') -> ds.length = es.length)
  (hs : starEach (.Name x px :: es) X.env = (false, eval (.Name x px) X.env) :: starEach es X.env := by rfl) : PDm X e (mcallG mf i m) := (h _ (pa_cons hv ha hs)).imp fun σ H Q hpat => by
 obtain ⟨F0, H0, F, ρ, d, ρ', rl, e, q⟩ := hpat
 unfold mcallG at e
 split at e
 ·rename_i r00 h0
  obtain ⟨p, xs, a1, a2, a3, a4, a5⟩ := rl.own i r00 h0
  split at e
  ·rename_i ds ρ1 h1
   split at e
   ·rename_i r0 h2
    split at e
    ·rename_i t r1 h3
     split at e
     ·rename_i d' h4
      cases e
      have h3 := anyP_some h3
      refine ⟨_, a1, F0, H0, F, ρ, ds, ρ1, rl, h1, fun vs F1 H1 rl1 s1 rv => ?_⟩
      obtain ⟨p', ys, b1, b2, b3, b4, b5⟩ := rl1.own i r0 h2
      rw [a1] at b1; cases b1
      show spG X.K n mf ((.ref p :: vs) ++ []) H1 Q E
      rw [List.append_nil]
      refine ⟨by rw [List.length_cons, rv.length, hm ρ ds ρ1 h1, hl], p, vs, F1, r0, ds, t, r1, ys, rfl, b3, b2, rl1.fh, b4, rv, h3 p, ?_⟩
      cases t with
      | sh g =>
       cases h4
       exact fun v F' H' zs x rg f1 g1 rz => q v F' H' (rl1.lent h2 a1 x f1 g1 rz) (s1.trans x.ff) rg
      | fr gs =>
       cases h4
       intro w zs F' H' us x hw fw hw' rw' f1 g1 rz
       have hne : w ≠ p := fun z => by rw [z, b3] at hw; cases hw
       have rl2 := rl1.lent h2 a1 x f1 g1 rz
       have fz : Ext F' H' (upd F' w (.lst zs)) H' -> True := fun _ => True.intro
       have x2 : Ext F1 (del H1 p) (upd F' w (.lst zs)) H' := x.freeze fw (by rw [del_ne hne]; exact hw) hw'
       have s2 : Same F' (upd F' w (.lst zs)) := (Same.refl F').put fw
       exact q _ (upd F' w (.lst zs)) H' (rl1.lent h2 a1 x2 (by rw [upd_ne (Ne.symm hne)]; exact f1) g1 (rz.mono s2)) (s1.trans x2.ff) (.lst (SqL.of upd_same) (rw'.mono s2))
      | pr _ _ => cases h4
     ·cases e
    ·cases e
   ·cases e
  ·cases e
 ·rename_i p00 r00 h0
  obtain ⟨a1, a2, a5, xs, a3, a4⟩ := rl.ob i p00 r00 h0
  split at e
  ·rename_i ds ρ1 h1
   split at e
   ·rename_i p r0 h2
    split at e
    ·rename_i t r1 h3
     split at e
     ·rename_i d' h4
      cases e
      refine ⟨_, a1, F0, H0, F, ρ, ds, ρ1, rl, h1, fun vs F1 H1 rl1 s1 rv => ?_⟩
      obtain ⟨b1, b2, b5, ys, b3, b4⟩ := rl1.ob i p r0 h2
      rw [a1] at b1; cases b1
      show spG X.K n mf ((.ref p00 :: vs) ++ []) H1 Q E
      rw [List.append_nil]
      refine ⟨by rw [List.length_cons, rv.length, hm ρ ds ρ1 h1, hl], p00, vs, F1, r0, ds, t, r1, ys, rfl, b3, b2, rl1.fh, b4, rv, h3, ?_⟩
      cases t with
      | sh g =>
       cases h4
       exact fun v F' H' zs x rg f1 g1 rz => q v F' H' (rl1.lentB h2 x f1 g1 rz) (s1.trans x.ff) rg
      | fr gs =>
       cases h4
       intro w zs F' H' us x hw fw hw' rw' f1 g1 rz
       have hne : w ≠ p00 := fun z => by rw [z, b3] at hw; cases hw
       have x2 : Ext F1 (del H1 p00) (upd F' w (.lst zs)) H' := x.freeze fw (by rw [del_ne hne]; exact hw) hw'
       have s2 : Same F' (upd F' w (.lst zs)) := (Same.refl F').put fw
       exact q _ (upd F' w (.lst zs)) H' (rl1.lentB h2 x2 (by rw [upd_ne (Ne.symm hne)]; exact f1) g1 (rz.mono s2)) (s1.trans x2.ff) (.lst (SqL.of upd_same) (rw'.mono s2))
      | pr _ _ => cases h4
     ·cases e
    ·cases e
   ·cases e
  ·cases e
 ·cases e
end
end L2
namespace L2
open PySem PySem.Spec PyProof.Rows
section
variable {X : Cx} {a b c e : Expr} {ma mb : ME} {pos : Pos}
end
end L2
namespace L2
open PySem PySem.Spec PyProof.Rows
noncomputable def LtAt (A : Around) (s : Shared) (v u : Value) (k : Bool) : Prop := ∀ (prog : Program) (w : World) (E : Value -> Shared -> Prop) (Q : Value -> Shared -> Prop), Q (.bool k) s -> wpAny (model prog w) A (richCompare .Lt v u) Q E s
noncomputable def LexAt (A : Around) (s : Shared) : List Value -> List Value -> Bool -> Prop
 | [], [], k => k = false
 | [], _ :: _, k => k = true
 | _ :: _, [], k => k = false
 | y :: ys, x :: xs, k => ∃ e, SeqAt.EqAt A s y x e /\ ((e = true /\ LexAt A s ys xs k) \/ (e = false /\ LtAt A s y x k))
section
open PySem.SeqAt
open PySem.AutoSeq1 (wpAny_loadPart')
open PySem.MeetsSeq PySem.MeetsSeq2 PySem.MeetsSeq3
set_option maxHeartbeats 4000000 in
theorem tup_lt (l b : Addr) (items items2 : Array Value) (n n2 : Nat) (dd dd2 : Option Addr) (sl sl2 : Array (Option Value)) (k : Bool) :
  Meets (Builtin.«tuple.__lt__» ⟨[.ref l, .ref b], []⟩)
   (fun A R s => s.heap.get? l = some { cls := .type "tuple", dict := dd, data := .seq items n, slots := sl } /\ s.heap.get? b = some { cls := .type "tuple", dict := dd2, data := .seq items2 n2, slots := sl2 } /\
    LexAt A.in1 s items.toList items2.toList k /\ R (.ok (.ret (.bool k))) s) :=
 .of_wp fun prog w A R s h => by
  obtain ⟨hp, g, d, tk, os⟩ := s; obtain ⟨hl, hb, hx, h⟩ := h
  have f2 := AutoSeq1.sub_tuple_tuple
  wp_walk using wpAny_loadPart' hl, wpAny_loadPart' hb, wpAny_forIn_list _ (fun rest b s' => b.1 = none /\ s' = ⟨hp, g, d, tk, os⟩ /\ ∃ (vs ws : List Value), rest = vs.zip ws /\
   vs.length + items2.size = ws.length + items.size /\ LexAt A.in1 ⟨hp, g, d, tk, os⟩ vs ws k) _
  case turn =>
   rintro ⟨y, x⟩ rest b s' ⟨hb', rfl, vs, ws, hz, hlen, hL⟩
   cases vs with
   | nil => rw [List.zip_nil_left] at hz; cases hz
   | cons a vs =>
    cases ws with
    | nil => rw [List.zip_nil_right] at hz; cases hz
    | cons c ws =>
     rw [List.zip_cons_cons] at hz
     injection hz with hyx hrest
     injection hyx with hy hx'
     subst hy hx'
     simp only [List.length_cons] at hlen
     obtain ⟨e, he, hL⟩ := hL
     refine wpAny_bind (he prog w _ _ ?_)
     rcases hL with ⟨rfl, hL⟩ | ⟨rfl, hL⟩
     ·wp_walk
      exact ⟨rfl, rfl, vs, ws, hrest, by omega, hL⟩
     ·have hri := hL prog w
      wp_walk using hri
      exact ⟨_, rfl, by simpa using h⟩
  case fin =>
   rintro ⟨b1, b2⟩ s' ⟨hb', rfl, vs, ws, hz, hlen, hL⟩
   simp only at hb'
   subst hb'
   have hv : k = decide (items.size < items2.size) := by
    cases vs with
    | nil =>
     cases ws with
     | nil =>
      simp only [List.length_nil] at hlen
      rw [show k = false from hL]
      exact (decide_eq_false (by omega)).symm
     | cons c ws =>
      simp only [List.length_nil, List.length_cons] at hlen
      rw [show k = true from hL]
      exact (decide_eq_true (by omega)).symm
    | cons a vs =>
     cases ws with
     | nil =>
      simp only [List.length_nil, List.length_cons] at hlen
      rw [show k = false from hL]
      exact (decide_eq_false (by omega)).symm
     | cons c ws =>
      rw [List.zip_cons_cons] at hz
      cases hz
   rw [hv] at h
   wp_walk
   exact ⟨_, rfl, by simpa [Builtin.Tuple.tupleCompareSizes] using h⟩
  case h =>
   exact ⟨rfl, rfl, items.toList, items2.toList, rfl, by simp; omega, hx⟩
set_option maxHeartbeats 4000000 in
theorem lst_lt_loop (l b : Addr) (items items2 : Array Value) (n n2 : Nat) (dd dd2 : Option Addr) (sl sl2 : Array (Option Value)) (r : Bool) (k : Nat) :
  ∀ i : Nat, items.size - i = k -> i <= items.size -> i <= items2.size -> Meets (Builtin.«list.__eq__.loop» ⟨[.ref l, .ref b, rawInt i, rawInt 0], []⟩)
   (fun A R s => s.heap.get? l = some { cls := .type "list", dict := dd, data := .seq items n, slots := sl } /\ s.heap.get? b = some { cls := .type "list", dict := dd2, data := .seq items2 n2, slots := sl2 } /\
    LexAt A.in1 s (items.toList.drop i) (items2.toList.drop i) r /\ R (.ok (.ret (.bool r))) s) := by
 induction k with
 | zero =>
  intro i hk h1 h2 prog w A R s h
  obtain ⟨hp, g, d, tk, os⟩ := s; obtain ⟨hl, hb, hx, h⟩ := h
  wp_walk using wpAny_loadPart' hl, wpAny_loadPart' hb
  have hi1 : items[((i : Nat) : Int).toNat]? = none := by simp; omega
  have e1 : items.toList.drop i = [] := List.drop_eq_nil_of_le (by simp; omega)
  rw [e1] at hx
  have hr : r = decide (items.size < items2.size) := by
   cases e2 : items2.toList.drop i with
   | nil =>
    rw [e2] at hx
    have : items2.size <= i := by simpa using e2
    rw [show r = false from hx]
    exact (decide_eq_false (by omega)).symm
   | cons c ws =>
    rw [e2] at hx
    have : i < items2.size := by
     rcases Nat.lt_or_ge i items2.size with z | z
     ·exact z
     ·rw [List.drop_eq_nil_of_le (by simpa using z)] at e2; cases e2
    rw [show r = true from hx]
    exact (decide_eq_true (by omega)).symm
  rw [hi1]
  wp_walk using wpAny_loadPart' hl, wpAny_loadPart' hb
  rw [hr] at h
  exact h
 | succ k ih =>
  intro i hk h1 h2 prog w A R s h
  obtain ⟨hp, g, d, tk, os⟩ := s; obtain ⟨hl, hb, hx, h⟩ := h
  have hlt : i < items.size := by omega
  have hi1 : items[((i : Nat) : Int).toNat]? = some items[i] := by simp [hlt]
  have e1 : items.toList.drop i = items[i] :: items.toList.drop (i + 1) := by rw [List.drop_eq_getElem_cons (by simpa using hlt)]; simp
  have hc : ((i : Int) + 1) = ((i + 1 : Nat) : Int) := by push_cast; rfl
  rw [e1] at hx
  by_cases hlt2 : i < items2.size
  ·have hi2 : items2[((i : Nat) : Int).toNat]? = some items2[i] := by simp [hlt2]
   have e2 : items2.toList.drop i = items2[i] :: items2.toList.drop (i + 1) := by rw [List.drop_eq_getElem_cons (by simpa using hlt2)]; simp
   rw [e2] at hx
   obtain ⟨e, he, hx⟩ := hx
   wp_walk using wpAny_loadPart' hl, wpAny_loadPart' hb
   rw [hi1, hi2]
   refine wpAny_bind (he prog w _ _ ?_)
   rcases hx with ⟨rfl, hx⟩ | ⟨rfl, hx⟩
   ·wp_walk
    rw [hc]
    exact ⟨plainId_quiet plain_eq_loop _, codeAny_builtin entry_eq_loop (by
     rw [Around.under_plainId plain_eq_loop _]
     exact ih (i + 1) (by omega) (by omega) (by omega) prog w A R _ ⟨hl, hb, hx, h⟩)⟩
   ·have hri := hx prog w
    wp_walk using wpAny_loadPart' hl, wpAny_loadPart' hb
    rw [hi1, hi2]
    wp_walk using hri
    exact h
  ·have hi2 : items2[((i : Nat) : Int).toNat]? = none := by simp; omega
   have e2 : items2.toList.drop i = [] := List.drop_eq_nil_of_le (by simp; omega)
   rw [e2] at hx
   have hr : r = decide (items.size < items2.size) := by
    rw [show r = false from hx]
    exact (decide_eq_false (by omega)).symm
   wp_walk using wpAny_loadPart' hl, wpAny_loadPart' hb
   rw [hi1, hi2]
   wp_walk using wpAny_loadPart' hl, wpAny_loadPart' hb
   rw [hr] at h
   exact h
set_option maxHeartbeats 4000000 in
theorem lst_lt (l b : Addr) (items items2 : Array Value) (n n2 : Nat) (dd dd2 : Option Addr) (sl sl2 : Array (Option Value)) (r : Bool) :
  Meets (Builtin.«list.__lt__» ⟨[.ref l, .ref b], []⟩)
   (fun A R s => s.heap.get? l = some { cls := .type "list", dict := dd, data := .seq items n, slots := sl } /\ s.heap.get? b = some { cls := .type "list", dict := dd2, data := .seq items2 n2, slots := sl2 } /\
    LexAt A.in1 s items.toList items2.toList r /\ R (.ok (.ret (.bool r))) s) := by
 intro prog w A R s h
 obtain ⟨hp, g, d, tk, os⟩ := s; obtain ⟨hl, hb, hx, h⟩ := h
 have f3 := AutoSeq1.sub_list_list
 wp_walk using wpAny_loadPart' hl, wpAny_loadPart' hb
 exact ⟨plainId_quiet plain_eq_loop _, codeAny_builtin entry_eq_loop (by
  rw [Around.under_plainId plain_eq_loop _]
  exact lst_lt_loop l b items items2 n n2 dd dd2 sl sl2 r _ 0 rfl (Nat.zero_le _) (Nat.zero_le _) prog w A R _ ⟨hl, hb, by simpa using hx, h⟩)⟩
end
noncomputable def lexF (eq lt : D -> D -> Option Bool) : List D -> List D -> Option Bool
 | [], [] => some false
 | [], _ :: _ => some true
 | _ :: _, [] => some false
 | d :: ds, e :: es => match eq d e with
  | some true => lexF eq lt ds es
  | some false => lt d e
  | none => none
noncomputable def ltF : Nat -> D -> D -> Option Bool
 | 0, _, _ => none
 | n + 1, .lst ds, .lst es => lexF (eqF n) (ltF n) ds es
 | n + 1, .tup ds, .tup es => lexF (eqF n) (ltF n) ds es
 | _ + 1, .int i, .int j => some (decide (i < j))
 | _ + 1, _, _ => none
section
variable {X : Cx} {pins : List (Addr × Obj)} {σ : St} {H : Hp} {s : Shared}
theorem lex_at (I : Inv X pins σ H s) (n : Nat) {A : Around} (hu : A.units + n < cLine) (ih : ∀ {x y : V} {v u : Value} {d e : D} {k : Bool}, Rep X.K H x d -> Rep X.K H y e -> RelV x v -> RelV y u -> ltF n d e = some k -> LtAt A s v u k) :
  ∀ {xs ys : List V} {vs us : List Value} {ds es : List D} {k : Bool}, Reps X.K H xs ds -> Reps X.K H ys es -> Vals xs vs -> Vals ys us -> lexF (eqF n) (ltF n) ds es = some k -> LexAt A s vs us k
 | _, _, _, _, _, _, k, .nil, .nil, .nil, .nil, h => by cases h; exact rfl
 | _, _, _, _, _, _, k, .nil, .cons _ _, .nil, .cons _ _, h => by cases h; exact rfl
 | _, _, _, _, _, _, k, .cons _ _, .nil, .cons _ _, .nil, h => by cases h; exact rfl
 | _, _, _, _, _, _, k, .cons (d := d) r1 t1, .cons (d := e) r2 t2, .cons q1 p1, .cons q2 p2, h => by
  unfold lexF at h
  cases hq : eqF n d e with
  | none => rw [hq] at h; cases h
  | some b =>
   rw [hq] at h
   refine ⟨b, (eq_at I n hu r1 r2 q1 q2 hq).1, ?_⟩
   cases b with
   | true => exact .inl ⟨rfl, lex_at I n hu ih t1 t2 p1 p2 h⟩
   | false => exact .inr ⟨rfl, ih r1 r2 q1 q2 h⟩
theorem lt_at (I : Inv X pins σ H s) : ∀ (n : Nat) {A : Around} {x y : V} {v u : Value} {d e : D} {k : Bool}, A.units + n < cLine -> Rep X.K H x d -> Rep X.K H y e -> RelV x v -> RelV y u -> ltF n d e = some k -> LtAt A s v u k
 | 0, A, x, y, v, u, d, e, k, hu, r1, r2, q1, q2, h => by simp [ltF] at h
 | n + 1, A, x, y, v, u, d, e, k, hu, r1, r2, q1, q2, h => by
  have hu0 : A.units < cLine := by omega
  have hu1 : A.in1.units + n < cLine := by show A.units + 1 + n < cLine; omega
  cases r1 with
  | int i =>
   cases r2 with
   | int j =>
    obtain ⟨t, rfl⟩ := q1
    obtain ⟨t', rfl⟩ := q2
    cases h
    exact fun prog w E Q hQ => HT.rcLt_int A s i t j t' prog w E Q hQ
   | _ => cases h
  | lst sq rs =>
   cases r2 with
   | lst sq2 rs2 =>
    cases q1; cases q2
    obtain ⟨its, vr, ⟨⟨cls, dd, data, sl⟩, m, ho, hc, hdd, hd⟩, _⟩ := I.list sq
    obtain ⟨its2, vr2, ⟨⟨cls2, dd2, data2, sl2⟩, m2, ho2, hc2, hdd2, hd2⟩, _⟩ := I.list sq2
    simp only at hc hd hc2 hd2
    subst hc hd hc2 hd2
    have L := lex_at I n hu1 (fun a b c d e => lt_at I n hu1 a b c d e) rs rs2 vr vr2 (show lexF (eqF n) (ltF n) _ _ = some k from h)
    intro prog w E Q hQ
    exact richCompare_meets_room (op := .Lt) ⟨_, ho, rfl⟩ ⟨_, ho2, rfl⟩ PySem.F.slot_list_lt PySem.F.entry_list_lt (PySem.F.args_list_lt_2 _ _) (lst_lt _ _ its.toArray its2.toArray m m2 dd dd2 sl sl2 k)
     ⟨ho, ho2, by simpa using L, show Value.bool k ≠ Value.notImplemented /\ Q (.bool k) s from ⟨(fun x => nomatch x), hQ⟩⟩ hu0
   | _ => cases h
  | tup sq rs =>
   cases r2 with
   | tup sq2 rs2 =>
    cases q1; cases q2
    obtain ⟨its, vr, ⟨⟨cls, dd, data, sl⟩, ho, hc, m, hd⟩, _⟩ := I.tuple sq
    obtain ⟨its2, vr2, ⟨⟨cls2, dd2, data2, sl2⟩, ho2, hc2, m2, hd2⟩, _⟩ := I.tuple sq2
    simp only at hc hd hc2 hd2
    subst hc hd hc2 hd2
    have L := lex_at I n hu1 (fun a b c d e => lt_at I n hu1 a b c d e) rs rs2 vr vr2 (show lexF (eqF n) (ltF n) _ _ = some k from h)
    intro prog w E Q hQ
    exact richCompare_meets_room (op := .Lt) ⟨_, ho, rfl⟩ ⟨_, ho2, rfl⟩ PySem.F.slot_tuple_lt PySem.F.entry_tuple_lt (PySem.F.args_tuple_lt_2 _ _) (tup_lt _ _ its.toArray its2.toArray m m2 dd dd2 sl sl2 k)
     ⟨ho, ho2, by simpa using L, show Value.bool k ≠ Value.notImplemented /\ Q (.bool k) s from ⟨(fun x => nomatch x), hQ⟩⟩ hu0
   | _ => cases h
  | _ => cases r2 <;> cases h
end
end L2
namespace L2
open PySem PySem.Spec PyProof.Rows
noncomputable def KeyAt (X : Cx) (kv : Value) (mk : D -> Option D) : Prop := ∀ (pins : List (Addr × Obj)) (σ : St) (H F : Hp) (s : Shared) (x : V) (u : Value) (d kd : D), Inv X pins σ H s -> Same F H -> Rep X.K F x d -> RelV x u -> mk d = some kd ->
 wpAny (model X.prog X.w) X.A.in1 (call kv [u]) (fun w s' => ∃ y F' H', Inv X pins σ H' s' /\ RelV y w /\ Ext F H F' H' /\ Rep X.K F' y kd) (fun _ _ => False) s
noncomputable def shOf : Option Rt -> Option D
 | some (.sh d) => some d
 | some (.fr es) => some (.lst es)
 | _ => none
theorem keyAt_fn {X : Cx} {k : Nat} {f : Addr} {fd : FuncData} {p : Str} {m : MF} (F : FnOk X.prog X.w X.K X.mg X.base CX0 k f fd [p] (spR X.K 1 m)) (hr : Room k X.A.in1) (hb : Binds X.K fd [p] []) : KeyAt X (.ref f) (fun d => shOf (m [d])) := by
 intro pins σ H Fh s x u d kd I sf r rx hm
 have hm : shOf (m [d]) = some kd := hm
 have sp : spR X.K 1 m [x] H (fun v H' => ∃ F', Ext Fh H F' H' /\ Rep X.K F' v kd) E0 := by
  cases h : m [d] with
  | none => rw [h] at hm; cases hm
  | some t =>
   rw [h] at hm
   cases t with
   | sh g => cases hm; exact ⟨rfl, Fh, [d], _, sf, .cons r .nil, h, fun v F' H' x' r' => ⟨F', x', r'⟩⟩
   | fr gs => cases hm; exact ⟨rfl, Fh, [d], _, sf, .cons r .nil, h, fun q xs F' H' x' hp hF hH rs => ⟨upd F' q (.lst xs), x'.freeze hF hp hH, .lst (SqL.of upd_same) (rs.mono ((Same.refl F').put hF))⟩⟩
   | pr _ _ => cases hm
 have e0 := I.env0
 have env : Env0 X.prog X.w X.K X.mg X.base X.A.in1 X.stack s H := ⟨e0.frames, e0.mod, e0.bs, e0.bsz, e0.funs, e0.frf, e0.hok, e0.bare⟩
 refine wpAny_call (codeAny_mono (F.run X.A.in1 X.stack s H ⟨[u], []⟩ [u] [x] _ E0 hr env (hb s [u] I.kIn rfl) (.cons rx .nil) sp) fun r s' hq => ?_)
 cases r with
 | error e => exact hq.elim
 | ok fl =>
  cases fl with
  | ret v =>
   obtain ⟨y, H', I', ry, F', x', r'⟩ := I.after hq
   exact ⟨y, F', H', I', ry, x', r'⟩
  | next => exact hq.elim
  | brk => exact hq.elim
  | cont => exact hq.elim
noncomputable def minF (mk : D -> Option D) : List D -> D -> D -> Option D
 | [], b, _ => some b
 | d :: ds, b, kb => match mk d with
  | some kd => (match ltF 8 kd kb with | some true => minF mk ds d kd | some false => minF mk ds b kb | none => none)
  | none => none
section
variable {X : Cx} {pins : List (Addr × Obj)} {σ : St}
theorem FpOk.now {H H' : Hp} {b : Addr} (h : FpOk X pins H b) (hn : H' b = none) : FpOk X pins H' b := ⟨hn, h.2⟩
theorem Inv.pin2 {H : Hp} {s : Shared} {a b : Addr} {oa ob : Obj} (I : Inv X pins σ H s) (ha : FpOk X pins H a) (hb : FpOk X pins H b) (ea : s.heap.get? a = some oa) (eb : s.heap.get? b = some ob) (da : ∀ v, oa.data ≠ .cell v) (db : ∀ v, ob.data ≠ .cell v) : Inv X (pins ++ [(a, oa), (b, ob)]) σ H s :=
 I.pins_of fun p hp => by
  rcases List.mem_append.mp hp with hp | hp
  ·exact I.pin p (List.mem_append_right _ hp)
  ·simp only [List.mem_cons, List.not_mem_nil, or_false] at hp
   rcases hp with rfl | rfl
   ·exact ⟨ea, ha.1, ha.2.1, ha.2.2.1, da⟩
   ·exact ⟨eb, hb.1, hb.2.1, hb.2.2.1, db⟩
set_option maxHeartbeats 8000000 in
theorem min_loop {q : Addr} {mk : D -> Option D} (hk : KeyAt X (.ref q) mk) (hc : X.calm = true) (hu : X.A.units + 64 < cLine) {l I S : Addr} {xs : List V} {ds : List D} {kw : List (Str × Value)} {dm : D} (hIS : I ≠ S) (hlI : l ≠ I) (hlS : l ≠ S) :
  ∀ (r j : Nat) (H F H0 F0 : Hp) (s : Shared) (xb yb : V) (vb kb : Value) (db kdb : D) (c : Nat) (R : Result -> Shared -> Prop),
   ds.length - (j + 1) = r -> j + 1 <= ds.length -> Inv X pins σ H s -> Ext F0 H0 F H -> SqL X.K H l xs -> Reps X.K F xs ds -> s.heap.IsListIter I l (j + 1) -> s.heap.get? S = some (seqObj "list" #[vb, kb] c) -> FpOk X pins H I -> FpOk X pins H S ->
   RelV xb vb -> Rep X.K F xb db -> RelV yb kb -> Rep X.K F yb kdb -> minF mk (ds.drop (j + 1)) db kdb = some dm ->
   (∀ x v F' H' s', Inv X pins σ H' s' -> RelV x v -> Ext F0 H0 F' H' -> Rep X.K F' x dm -> R (.ok (.ret v)) s') ->
   codeAny (model X.prog X.w) X.A (.builtin "min.loop" ⟨[.ref I, .ref q, .ref S], kw⟩) R s := by
 have hname : (toString "min" ++ toString ".loop" : String) = "min.loop" := by decide
 intro r
 induction r with
 | zero =>
  intro j H F H0 F0 s xb yb vb kb db kdb c R hr hj I' ext sq rs hit hS fI fS rb pb ry py hm hR
  have hin : j + 1 = ds.length := by omega
  obtain ⟨its, vr, pl, _⟩ := I'.list sq
  have zl : its.length = ds.length := by rw [<- vr.length, rs.length]
  rw [hin, List.drop_length] at hm
  have hm : some db = some dm := hm
  cases hm
  refine codeAny_builtin PySem.F.entry_min_loop ?_
  rw [Around.under_plainId PySem.F.plain_min_loop _]
  show wpAny _ X.A.in1 (seqItems? (.ref S) >>= _) _ _ _
  refine wpAny_bind (wpAny_seqItems hS rfl ?_)
  show wpAny _ X.A.in1 (tryCatch (pyNext (.ref I)) _ >>= _) _ _ _
  refine wpAny_bind (wpAny_tryCatch (wpAny_pyNext_list_end (I'.ok.hd hc) hit pl.isList (by simp; omega) fun h' hk' => ?_))
  have hS' : h'.get? S = some (seqObj "list" #[vb, kb] c) := hk' S _ (Ne.symm hIS) hS
  have s1 := Heap.SameBut.update h' S (Obj.mapSeq fun _ => (#[] : Array Value))
  show wpAny _ X.A.in1 (updateSeq S (fun _ => #[]) >>= _) _ _ _
  refine wpAny_bind ?_
  refine wpAny_updateSeq hS' rfl (wpAny_bind (wpAny_letGo (wpAny_pure ?_)))
  have I9 : Inv X pins σ H { s with heap := h'.update S (Obj.mapSeq fun _ => (#[] : Array Value)), toks := s.toks } := I'.turnedL (fp := [I, S]) (t' := s.toks) (fun b o hb e => by
   simp only [List.mem_cons, List.not_mem_nil, or_false, not_or] at hb
   exact (s1.2 b hb.2).trans (hk' b o hb.1 e)) (fun b hb => by
   simp only [List.mem_cons, List.not_mem_nil, or_false] at hb
   rcases hb with rfl | rfl <;> assumption)
  exact hR xb vb F H _ I9 rb ext pb
 | succ r ih =>
  intro j H F H0 F0 s xb yb vb kb db kdb c R hr hj I' ext sq rs hit hS fI fS rb pb ry py hm hR
  have hlt : j + 1 < ds.length := by omega
  obtain ⟨its, vr, pl, _⟩ := I'.list sq
  have zl : its.length = ds.length := by rw [<- vr.length, rs.length]
  obtain ⟨d, hd⟩ : ∃ d, ds[j + 1]? = some d := ⟨_, List.getElem?_eq_getElem hlt⟩
  obtain ⟨x, hx, px⟩ := rs.get hd
  obtain ⟨v, hv, rx⟩ := vr.get hx
  rw [drop_get hd] at hm
  unfold minF at hm
  cases hkd : mk d with
  | none => rw [hkd] at hm; cases hm
  | some kd =>
   rw [hkd] at hm
   dsimp only at hm
   refine codeAny_builtin PySem.F.entry_min_loop ?_
   rw [Around.under_plainId PySem.F.plain_min_loop _]
   show wpAny _ X.A.in1 (seqItems? (.ref S) >>= _) _ _ _
   refine wpAny_bind (wpAny_seqItems hS rfl ?_)
   show wpAny _ X.A.in1 (tryCatch (pyNext (.ref I)) _ >>= _) _ _ _
   refine wpAny_bind (wpAny_tryCatch (wpAny_pyNext_list_item hit pl.isList (by simpa using hv) fun h1 hit1 s1 => ?_))
   have I1 : Inv X pins σ H { s with heap := h1, toks := s.toks } := I'.turnedL (fp := [I]) (fun b o hb e => s1.extBut b o (by simpa using hb) e) (fun b hb => by rw [List.mem_singleton.mp hb]; exact fI)
   have hS1 : h1.get? S = some (seqObj "list" #[vb, kb] c) := s1.extBut _ _ (Ne.symm hIS) hS
   obtain ⟨oI, eI, cI, dI⟩ := id hit1
   have Ip := I1.pin2 fI fS eI hS1 (fun v z => by rw [dI] at z; cases z) (fun v z => by cases z)
   show wpAny _ X.A.in1 (tryCatch (holding [v] (call (.ref q) [v])) _ >>= _) _ _ _
   refine wpAny_bind (wpAny_tryCatch (wpAny_holding (wpAny_mono (hk (pins ++ [(I, oI), (S, seqObj "list" #[vb, kb] c)]) σ H F _ x v d kd Ip ext.fh px rx hkd) (fun w s2 hw => ?_) fun _ _ z => z.elim)))
   obtain ⟨y, F2, H2, I2, rw2, x2, py2⟩ := hw
   have pI := I2.pin (I, oI) (by simp)
   have pS := I2.pin (S, seqObj "list" #[vb, kb] c) (by simp)
   have I2' : Inv X pins σ H2 s2 := I2.unpinned
   have fI2 : FpOk X pins H2 I := fI.now pI.2.1
   have fS2 : FpOk X pins H2 S := fS.now pS.2.1
   have hit2 : s2.heap.IsListIter I l (j + 1 + 1) := ⟨oI, pI.1, cI, dI⟩
   cases hlt8 : ltF 8 kd kdb with
   | none => rw [hlt8] at hm; cases hm
   | some bt =>
    rw [hlt8] at hm
    have hcmp := lt_at I2' 8 (A := X.A.in1) (by show X.A.units + 1 + 8 < cLine; omega) (py2.mono x2.fh) ((py.mono x2.ff).mono x2.fh) rw2 ry hlt8
    show wpAny _ X.A.in1 (tryCatch (holding [v, w] (richCompare .Lt w kb >>= _)) _ >>= _) _ _ _
    refine wpAny_bind (wpAny_tryCatch (wpAny_holding (wpAny_bind (hcmp X.prog X.w _ _ ?_))))
    refine wpAny_bind (wpAny_holding (wpAny_truthy_bool ?_))
    refine wpAny_bind (wpAny_letGo (wpAny_pure ?_))
    cases bt with
    | true =>
     have s3 := Heap.SameBut.update s2.heap S (Obj.mapSeq fun _ => #[v, w])
     obtain ⟨c2, hc2⟩ : ∃ c2, (s2.heap.update S (Obj.mapSeq fun _ => #[v, w])).get? S = some (seqObj "list" #[v, w] c2) := ⟨_, get?_update_seq pS.1 fun _ => #[v, w]⟩
     simp only [if_true]
     refine wpAny_bind ?_
     refine wpAny_updateSeq pS.1 rfl (wpAny_bind (wpAny_letGo ?_))
     rw [hname]
     have I3 : Inv X pins σ H2 { s2 with heap := s2.heap.update S (Obj.mapSeq fun _ => #[v, w]), toks := s2.toks } := I2'.turnedL (fp := [S]) (fun b o hb e => (s3.2 b (by simpa using hb)).trans e) (fun b hb => by rw [List.mem_singleton.mp hb]; exact fS2)
     refine wpAny_pure ⟨plainId_quiet PySem.F.plain_min_loop _, ih (j + 1) H2 F2 H0 F0 _ x y v w d kd c2 R (by omega) hlt I3 (ext.trans x2) (x2.hh.seq sq) (rs.mono x2.ff) ⟨oI, (s3.2 I hIS).trans pI.1, cI, dI⟩ hc2 fI2 fS2 rx (px.mono x2.ff) rw2 py2 hm hR⟩
    | false =>
     simp only [Bool.false_eq_true, if_false]
     refine wpAny_bind (wpAny_letGo ?_)
     rw [hname]
     refine wpAny_pure ⟨plainId_quiet PySem.F.plain_min_loop _, ih (j + 1) H2 F2 H0 F0 _ xb yb vb kb db kdb c R (by omega) hlt I2' (ext.trans x2) (x2.hh.seq sq) (rs.mono x2.ff) hit2 pS.1 fI2 fS2 rb (pb.mono x2.ff) ry (py.mono x2.ff) hm hR⟩
end
end L2
namespace L2
open PySem PySem.Spec PyProof.Rows
theorem args_min_kd (a v u : Value) : argsOk "min" ⟨[a], [(Str.ofString "key", v), (Str.ofString "default", u)]⟩ := by unfold argsOk; kernel_rfl
noncomputable def minD (mk : D -> Option D) (ds : List D) (d0 : D) : Option D := match ds with
 | [] => some d0
 | d :: ds => (match mk d with | some kd => minF mk ds d kd | none => none)
section
variable {X : Cx} {pins : List (Addr × Obj)} {σ : St}
set_option maxHeartbeats 8000000 in
theorem min_top {q : Addr} {mk : D -> Option D} (hk : KeyAt X (.ref q) mk) (hc : X.calm = true) (hu : X.A.units + 64 < cLine) {l : Addr} {xs : List V} {ds : List D} {dm d0 : D} {H F : Hp} {s : Shared} {x0 : V} {v0 : Value} {E : Value -> Shared -> Prop} {Q : Value -> Shared -> Prop}
  (I : Inv X pins σ H s) (sf : Same F H) (sq : SqL X.K H l xs) (rs : Reps X.K F xs ds) (r0 : RelV x0 v0) (p0 : Rep X.K F x0 d0) (hm : minD mk ds d0 = some dm)
  (hQ : ∀ x v F' H' s', Inv X pins σ H' s' -> RelV x v -> Ext F H F' H' -> Rep X.K F' x dm -> Q v s') :
  wpAny (model X.prog X.w) X.A (call (.builtin "min") [.ref l] [(Str.ofString "key", .ref q), (Str.ofString "default", v0)]) Q E s := by
 have hname : (toString "min" ++ toString ".loop" : String) = "min.loop" := by decide
 obtain ⟨its, vr, pl, _⟩ := I.list sq
 have hls := pl.isList
 obtain ⟨ol, hol, _⟩ := id hls
 have hll : l < s.heap.objs.size := Heap.lt_size hol
 refine kmk_tree PySem.F.kind_min PySem.F.plain_min PySem.F.entry_min (args_min_kd _ _ _) ?_
 show wpAny _ X.A.in1 (Builtin.Builtins.bindParams "min" ["key", "default"] 0 ⟨[], [(Str.ofString "key", .ref q), (Str.ofString "default", v0)]⟩ >>= _) _ _ s
 refine wpAny_bind (wpAny_of_eq (show Builtin.Builtins.bindParams "min" ["key", "default"] 0 ⟨[], [(Str.ofString "key", .ref q), (Str.ofString "default", v0)]⟩ = pure [some (.ref q), some v0] from rfl) ?_)
 refine wpAny_bind (wpAny_pure ?_)
 refine wpAny_bind (wpAny_pyIter_list hls ?_)
 refine wpAny_bind (wpAny_newList ?_ (Nat.zero_le _))
 rw [hname]
 refine wpAny_pure ⟨plainId_quiet PySem.F.plain_min_loop _, ?_⟩
 generalize hIo : ({ cls := .type "list_iterator", data := .fields #[.ref l, .int 0 0] } : Obj) = oI0
 have hS : (s.heap.push oI0).objs.size = s.heap.objs.size + 1 := size_push' ..
 have hlI : l ≠ s.heap.objs.size := Nat.ne_of_lt hll
 have hlS : l ≠ (s.heap.push oI0).objs.size := by rw [hS]; exact Nat.ne_of_lt (Nat.lt_succ_of_lt hll)
 have hIS : s.heap.objs.size ≠ (s.heap.push oI0).objs.size := by rw [hS]; exact Nat.ne_of_lt (Nat.lt_succ_self _)
 have gI : ((s.heap.push oI0).push (seqObj "list" #[] 0)).get? s.heap.objs.size = some oI0 := Heap.get?_push_of_some _ (Heap.get?_push_size _ (by rw [<- hIo]; rfl))
 have gS : ((s.heap.push oI0).push (seqObj "list" #[] 0)).get? (s.heap.push oI0).objs.size = some (seqObj "list" #[] 0) := Heap.get?_push_size _ rfl
 have fI : FpOk X pins H s.heap.objs.size := I.fpOk (Nat.le_refl _) (I.hok.fresh (Nat.le_refl _))
 have fS : FpOk X pins H (s.heap.push oI0).objs.size := I.fpOk (by rw [hS]; exact Nat.le_succ _) (I.hok.fresh (by rw [hS]; exact Nat.le_succ _))
 have I0 : Inv X pins σ H { s with heap := (s.heap.push oI0).push (seqObj "list" #[] 0), toks := s.toks } := I.turnedL (fp := []) (fun b o _ e => Heap.get?_push_of_some _ (Heap.get?_push_of_some _ e)) (fun b hb => by cases hb)
 generalize (s.heap.push oI0).objs.size = S at *
 generalize hI : s.heap.objs.size = J at *
 generalize (s.heap.push oI0).push (seqObj "list" #[] 0) = h0 at *
 have hit : h0.IsListIter J l 0 := ⟨_, gI, by rw [<- hIo], by rw [<- hIo]; rfl⟩
 have zl : its.length = ds.length := by rw [<- vr.length, rs.length]
 obtain ⟨its', vr', pl', _⟩ := I0.list sq
 have zl' : its'.length = ds.length := by rw [<- vr'.length, rs.length]
 refine codeAny_builtin PySem.F.entry_min_loop ?_
 rw [Around.under_plainId PySem.F.plain_min_loop _]
 show wpAny _ X.A.in1 (seqItems? (.ref S) >>= _) _ _ _
 refine wpAny_bind (wpAny_seqItems gS rfl ?_)
 show wpAny _ X.A.in1 (tryCatch (pyNext (.ref J)) _ >>= _) _ _ _
 cases ds with
 | nil =>
  have hm : some d0 = some dm := hm
  cases hm
  refine wpAny_bind (wpAny_tryCatch (wpAny_pyNext_list_end (I.ok.hd hc) hit pl'.isList (by simp at zl' ⊢; simp [zl']) fun h' hk' => ?_))
  refine wpAny_bind (wpAny_rule (wpAny_pure ?_))
  have I9 := I0.turnedL (h' := h') (fp := [J]) (t' := s.toks) (fun b o hb e => hk' b o (by simpa using hb) e) (fun b hb => by rw [List.mem_singleton.mp hb]; exact fI)
  exact hQ x0 v0 F H _ I9 r0 (Ext.refl sf) p0
 | cons d ds =>
  obtain ⟨x, hx, px⟩ := rs.get (i := 0) (d := d) rfl
  obtain ⟨v, hv, rx⟩ := vr'.get hx
  unfold minD at hm
  dsimp only at hm
  cases hkd : mk d with
  | none => rw [hkd] at hm; cases hm
  | some kd =>
   rw [hkd] at hm
   dsimp only at hm
   refine wpAny_bind (wpAny_tryCatch (wpAny_pyNext_list_item hit pl'.isList (by simpa using hv) fun h1 hit1 s1 => ?_))
   have I1 := I0.turnedL (h' := h1) (t' := s.toks) (fp := [J]) (fun b o hb e => s1.extBut b o (by simpa using hb) e) (fun b hb => by rw [List.mem_singleton.mp hb]; exact fI)
   have hS1 : h1.get? S = some (seqObj "list" #[] 0) := s1.extBut _ _ (Ne.symm hIS) gS
   obtain ⟨oI, eI, cI, dI⟩ := id hit1
   have Ip := I1.pin2 fI fS eI hS1 (fun v z => by rw [dI] at z; cases z) (fun v z => by cases z)
   show wpAny _ X.A.in1 (tryCatch (holding [v] (call (.ref q) [v])) _ >>= _) _ _ _
   refine wpAny_bind (wpAny_tryCatch (wpAny_holding (wpAny_mono (hk (pins ++ [(J, oI), (S, seqObj "list" #[] 0)]) σ H F _ x v d kd Ip sf px rx hkd) (fun w s2 hw => ?_) fun _ _ z => z.elim)))
   obtain ⟨y, F2, H2, I2, rw2, x2, py2⟩ := hw
   have pI := I2.pin (J, oI) (by simp)
   have pS := I2.pin (S, seqObj "list" #[] 0) (by simp)
   have I2' : Inv X pins σ H2 s2 := I2.unpinned
   have fI2 : FpOk X pins H2 J := fI.now pI.2.1
   have fS2 : FpOk X pins H2 S := fS.now pS.2.1
   have s3 := Heap.SameBut.update s2.heap S (Obj.mapSeq fun _ => #[v, w])
   obtain ⟨c2, hc2⟩ : ∃ c2, (s2.heap.update S (Obj.mapSeq fun _ => #[v, w])).get? S = some (seqObj "list" #[v, w] c2) := ⟨_, get?_update_seq pS.1 fun _ => #[v, w]⟩
   show wpAny _ X.A.in1 (updateSeq S (fun _ => #[v, w]) >>= _) _ _ _
   refine wpAny_bind (wpAny_updateSeq pS.1 rfl ?_)
   rw [hname]
   have I3 : Inv X pins σ H2 { s2 with heap := s2.heap.update S (Obj.mapSeq fun _ => #[v, w]), toks := s2.toks } := I2'.turnedL (fp := [S]) (fun b o hb e => (s3.2 b (by simpa using hb)).trans e) (fun b hb => by rw [List.mem_singleton.mp hb]; exact fS2)
   refine wpAny_pure ⟨plainId_quiet PySem.F.plain_min_loop _, min_loop hk hc hu (ds := d :: ds) (dm := dm) hIS hlI hlS _ 0 H2 F2 H F _ x y v w d kd c2 _ rfl (by simp) I3 x2 (x2.hh.seq sq) (rs.mono x2.ff) ⟨oI, (s3.2 J hIS).trans pI.1, cI, dI⟩ hc2 fI2 fS2 rx (px.mono x2.ff) rw2 py2 hm fun x v F' H' s' a b c d => hQ x v F' H' s' a b c d⟩
@[irreducible] noncomputable def mminK (mk : D -> Option D) (m : ML) (md : ME) : ME := fun ρ => (m ρ).bind fun ds => (md ρ).bind fun d0 => minD mk ds d0
theorem mminK_some {mk : D -> Option D} {m : ML} {md : ME} {ρ : Ro} {g : D} (h : mminK mk m md ρ = some g) : ∃ ds d0, m ρ = some ds /\ md ρ = some d0 /\ minD mk ds d0 = some g := by
 unfold mminK at h
 cases h1 : m ρ with
 | none => rw [h1] at h; cases h
 | some d =>
  cases h2 : md ρ with
  | none => rw [h1, h2] at h; cases h
  | some e => rw [h1, h2] at h; exact ⟨d, e, rfl, rfl, h⟩
theorem mminK_ev {mk : D -> Option D} {m : ML} {md : ME} {ρ : Ro} {ds : List D} {d0 : D} (h1 : m ρ = some ds) (h2 : md ρ = some d0) : mminK mk m md ρ = minD mk ds d0 := by
 unfold mminK
 rw [h1, h2]; rfl
theorem pd_minK {q : Addr} {mk : D -> Option D} {x : Str} {p pf kp kp2 pos : Pos} {e ed : Expr} {m : ML} {md : ME} (hk : KeyAt X (.ref q) mk) (hc : X.calm = true) (hu : X.A.units + 64 < cLine) (hg : Gl X "min") (hm : X.mg "min" = none) (hgf : Gl X x) (hmf : X.mg x = some (.ref q)) (ha : PB X e m) (hd : PD X ed md)
  (hdb : (x == ("__debug__" : Str)) = false := by decide) (hs : starEach (e :: []) X.env = (false, eval e X.env) :: starEach [] X.env := by rfl) :
  PD X (.Call (.Name "min" p) [e] [⟨some "key", .Name x pf, kp⟩, ⟨some "default", ed, kp2⟩] pos) (mminK mk m md) := by
 intro pins s σ H Q I h
 obtain ⟨F0, H0, F, ρ, g, rl, em, q0⟩ := h
 obtain ⟨ds, d0, h1, h2, h3⟩ := mminK_some em
 refine wpAny_Call_Name_kw (ld_blt I hg hm PyProof.Rows.boot_min ?_ (by decide) (by decide))
 have A := pa_cons ha pa_nil hs pos pins s σ H (fun vs H1 => ∃ p xs F1, vs = [.ref p] /\ Ext F H F1 H1 /\ SqL X.K H1 p xs /\ Reps X.K F1 xs ds) I ⟨F0, H0, F, ρ, ds, rl, h1, fun p xs F1 H1 x1 s1 r1 => ⟨p, xs, F1, rfl, x1, s1, r1⟩⟩
 refine callWith_kw (thn A fun us s1 hpat => ?_) (by rw [hs]; rfl) (by rw [hs]; rfl)
 obtain ⟨vs, H1, I1, r1, p, xs, F1, ev, x1, sq, rs⟩ := hpat
 subst ev
 obtain ⟨u, rfl, ru⟩ := vals1 r1
 cases ru
 have B := pk_cons (nm := some "key") (kpos := kp) (pe_glob (v := .ref q) (pos := pf) hgf hmf rfl hdb) (pk_cons (nm := some "default") (kpos := kp2) hd pk_nil) pos pins s1 σ H1 (fun vs H2 => ∃ y F2, vs = [.ref q, y] /\ Ext F1 H1 F2 H2 /\ Rep X.K F2 y d0) I1 ⟨F0, H0, F1, ρ, d0, rl.go x1, h2, fun y F2 H2 x2 r2 => ⟨y, F2, rfl, x2, r2⟩⟩
 refine thn B fun us s2 hpat => ?_
 obtain ⟨vs, H2, I2, r2, y, F2, ev, x2, p0⟩ := hpat
 subst ev
 obtain ⟨u1, u2, rfl, ru1, ru2⟩ := vals2 r2
 cases ru1
 exact min_top hk hc hu I2 x2.fh (x2.hh.seq sq) (rs.mono x2.ff) ru2 p0 h3 fun x v F' H' s' I' rx x3 px => ⟨x, H', I', rx, q0 x F' H' ((x1.trans x2).trans x3) px⟩
end
end L2
namespace L2
open PySem PySem.Spec PyProof.Rows
section
variable {prog : Program} {w : World} {A : Around} {E : Value -> Shared -> Prop} {s : Shared}
theorem sub_rit_reversed : isSubtype (.type "range_iterator") (.type "reversed") = pure false := by rw [isSubtype_type]; kernel_rfl
noncomputable def ritObj (x left step : Int) : Obj := { cls := .type "range_iterator", dict := none, data := .fields #[rawInt x, rawInt left, rawInt step], slots := #[] }
theorem call_range_reversed {l : Addr} {j : Int} {t u v : Tok} {Q : Value -> Shared -> Prop} (hl : IsRange s.heap l 0 j 1 t u v) (h1 : -(2 ^ 62) <= j) (h2 : j < 2 ^ 62)
  (h : Q (.ref s.heap.objs.size) { s with heap := s.heap.push (ritObj ((j.toNat : Int) - 1) j.toNat (-1)) }) : wpAny (model prog w) A (call (.builtin "range.__reversed__") [.ref l]) Q E s := by
 have hT : s.TypeIs (.ref l) "range" := ⟨_, hl, rfl⟩
 refine wpAny_call_entry F.slot_range_reversed hT F.entry_range_reversed ?_ (F.args_range_reversed_1 _)
 have hsz : Builtin.Range.rangeSize 0 j 1 = (j.toNat : Int) := by rw [rangeSize_one]; split <;> omega
 unfold Builtin.«range.__reversed__»
 refine wpAny_bind (wpAny_of_eq (a := Value.ref l) rfl ?_)
 unfold Builtin.Range.rangeFields
 refine wpAny_bind ?_
 refine wpAny_bind (wpAny_field hl rfl (x := .int 0 t) rfl ?_)
 refine wpAny_bind (wpAny_of_eq (a := some (0 : Int)) rfl ?_)
 refine wpAny_bind (wpAny_field hl rfl (x := .int j u) rfl ?_)
 refine wpAny_bind (wpAny_of_eq (a := some j) rfl ?_)
 refine wpAny_bind (wpAny_field hl rfl (x := .int 1 v) rfl ?_)
 refine wpAny_bind (wpAny_of_eq (a := some (1 : Int)) rfl ?_)
 refine wpAny_pure ?_
 dsimp only
 rw [hsz]
 have hsm : (Builtin.Range.rangeFitsLong 0 && Builtin.Range.rangeFitsLong j && Builtin.Range.rangeFitsLong 1 && Builtin.Range.rangeFitsLong (-1) && Builtin.Range.rangeFitsLong (0 - 1) && Builtin.Range.rangeFitsLong (j.toNat : Int)) = true := by
  simp only [Builtin.Range.rangeFitsLong, Bool.and_eq_true, decide_eq_true_eq]
  omega
 simp only [hsm, Bool.not_true, Bool.false_eq_true, if_false, if_true]
 have e : (0 : Int) + ((j.toNat : Int) - 1) * 1 = (j.toNat : Int) - 1 := by omega
 rw [e]
 exact wpAny_bind (wpAny_newObj_type (wpAny_pure ⟨_, rfl, h⟩))
theorem code_reversed_newR {l : Addr} {j : Int} {t u v : Tok} {Q₁ : Value -> Shared -> Prop} (hl : IsRange s.heap l 0 j 1 t u v) (h1 : -(2 ^ 62) <= j) (h2 : j < 2 ^ 62)
  (h : Q₁ (.ref s.heap.objs.size) { s with heap := s.heap.push (ritObj ((j.toNat : Int) - 1) j.toNat (-1)) }) :
  codeAny (model prog w) A (.call (.builtin "reversed.__new__") ⟨[.type "reversed", .ref l], []⟩) (wants Q₁ E) s := by
 have hT : s.TypeIs (.ref l) "range" := ⟨_, hl, rfl⟩
 refine codeAny_of_tree ?_
 show wpAny _ A.in1 (do checkBuiltinCall "reversed.__new__" ⟨[.type "reversed", .ref l], []⟩; again (.builtin "reversed.__new__" ⟨[.type "reversed", .ref l], []⟩)) _ _ s
 refine wpAny_bind (wpAny_of_eq (F.newCall_reversed_1 _) (wpAny_pure ⟨plainId_quiet F.plain_reversed_new _, codeAny_builtin F.entry_reversed_new ?_⟩))
 rw [Around.under_plainId F.plain_reversed_new _]
 unfold Builtin.«reversed.__new__»
 refine wpAny_bind (wpAny_of_eq (newClass_reversed _) ?_)
 try dsimp only
 refine wpAny_bind (wpAny_of_eq (a := ()) (by first | rfl | kernel_rfl) ?_)
 refine wpAny_bind (wpAny_of_eq (a := ()) (by first | rfl | kernel_rfl) ?_)
 try dsimp only
 refine wpAny_bind (wpAny_specialOf hT F.slot_range_reversed.lookup ?_)
 try dsimp only
 refine wpAny_bind (wpAny_of_eq (F.slot_range_reversed.bind _) ?_)
 try dsimp only
 first
 | rw [if_neg (show ¬ ((Value.builtin "range.__reversed__" == Value.none) = true) from Bool.false_ne_true)]
 | (show wpAny _ _ (if (Value.builtin "range.__reversed__" == Value.none) = true then _ else _) _ _ _; rw [if_neg (show ¬ ((Value.builtin "range.__reversed__" == Value.none) = true) from Bool.false_ne_true)])
 refine wpAny_bind (wpAny_rule ?_)
 refine wpAny_bind (m := runValue (.call (.builtin "range.__reversed__") ⟨[.ref l], []⟩)) (show wpAny _ _ (call (.builtin "range.__reversed__") [.ref l]) _ _ _ from call_range_reversed hl h1 h2 ?_)
 first
 | exact wpAny_pure h
 | exact wpAny_bind (wpAny_pure (wpAny_pure h))
theorem call_reversed_range {l : Addr} {j : Int} {t u v : Tok} {Q : Value -> Shared -> Prop} (hl : IsRange s.heap l 0 j 1 t u v) (h1 : -(2 ^ 62) <= j) (h2 : j < 2 ^ 62)
  (h : Q (.ref s.heap.objs.size) { s with heap := s.heap.push (ritObj ((j.toNat : Int) - 1) j.toNat (-1)) }) : wpAny (model prog w) A (call (.type "reversed") [.ref l]) Q E s := by
 refine callType_other (U := "range_iterator") (Q₁ := fun obj s₁ => obj = .ref s.heap.objs.size /\ s₁ = { s with heap := s.heap.push (ritObj ((j.toNat : Int) - 1) j.toNat (-1)) }) (by decide +kernel) F.create_reversed ⟨_, _, F.mro_reversed⟩ F.made_reversed sub_rit_reversed (F.typeCall_reversed_1 _) (code_reversed_newR hl h1 h2 ⟨rfl, rfl⟩) ?_
 rintro obj s₁ ⟨rfl, rfl⟩
 exact ⟨⟨_, Heap.get?_push_size _ rfl, rfl⟩, h⟩
end
noncomputable def Itdn (hi : Int) (n : Nat) : It := ⟨fun i _ => i < n, fun i H x H' => H' = H /\ x = .int (hi - i), fun i _ => n <= i⟩
theorem turn_down {P : Program} {w : World} {K : PySem.W.Frag} {tg : Expr} (it : Addr) (lo : Int) (n : Nat) : Turn P w K tg (Itdn lo n) [it] it (fun i h => IsRangeIter h it (lo + (i : Nat) * (-1)) ((n : Int) - (i : Nat)) (-1)) where
 mem := by simp
 obj := fun i h st b hb => by
  have e : b = it := by simpa using hb
  subst e
  exact ⟨_, st, fun v z => by
   have z' : Data.fields _ = Data.cell v := z
   cases z'⟩
 keep := fun i h h' st k => k it (by simp) _ st
 item := by
  intro X hP hw hK hc i pins s σ H E I hf st hg
  subst hP hw hK
  obtain ⟨f0, f1, f2, f3, f4, f5⟩ := hf it (by simp)
  have W := Walks.range (prog := X.prog) (w := X.w) (I.ok.hd hc) it lo (-1) n
  refine W.item i s _ _ hg st fun v h' tk hv st' kk => ?_
  obtain ⟨t, rfl⟩ := hv
  have I1 : Inv X pins σ H { s with heap := h', toks := tk } := I.turned (fun b o hb e => kk b o (by simpa using hb) e) f0 f1 f3 f4 f5
  refine ⟨_, rfl, go_of (s := { s with heap := h', toks := tk }) (n := "range_iterator") st' rfl rfl (by decide) ⟨.int (lo - i), H, I1, ⟨t, ?_⟩, ⟨rfl, rfl⟩, st', fun b hb => (hf b hb).1⟩⟩
  rw [show lo + (i : Int) * (-1) = lo - i by omega]
 done := by
  intro X hP hw hK hc i pins s σ H E I hf st hg
  subst hP hw hK
  obtain ⟨f0, f1, f2, f3, f4, f5⟩ := hf it (by simp)
  exact wpAny_pyNext_range_end (I.ok.hd hc) st (by have : n <= i := hg; omega) fun h' eb => ⟨rfl, I.turned (t' := s.toks) (fun b o hb e => eb b o hb e) f0 f1 f3 f4 f5⟩
 self := fun _ _ _ _ _ st h => wpAny_pyIter_rangeiter st h
section
variable {X : Cx}
noncomputable def downD (n : Nat) : List D := (List.range n).map fun (i : Nat) => D.int ((n : Int) - 1 - (i : Int))
theorem downD_length (n : Nat) : (downD n).length = n := by unfold downD; simp
theorem itd_down {K : PySem.W.Frag} {F : Hp} {n : Nat} : ItD K F (Itdn ((n : Int) - 1) n) (downD n) where
 go := fun i F1 H1 a b hi => by rw [downD_length] at hi; exact hi
 yld := fun i F1 H1 x H2 d a b e y => by
  obtain ⟨rfl, rfl⟩ := y
  unfold downD at e
  rw [List.getElem?_map] at e
  have hi : i < n := by
   rcases Nat.lt_or_ge i n with h | h
   ·exact h
   ·rw [List.getElem?_eq_none (by simpa using h)] at e; cases e
  rw [List.getElem?_range hi] at e
  cases e
  exact ⟨F1, .refl b, .int _⟩
 stop := fun F1 H1 a b => by rw [downD_length]; exact Nat.le_refl n
noncomputable def rngD : List D -> Option (List D)
 | [.int j] => if okR j = true then some (downD j.toNat) else none
 | _ => none
theorem pid_revR1 {tg a : Expr} {m : ML} {p p2 pos pos2 : Pos} (hg : Gl X "reversed") (hm : X.mg "reversed" = none) (hg' : Gl X "range") (hm' : X.mg "range" = none) (ha : PAs X [a] m) (he : starEach [a] X.env = (false, eval a X.env) :: starEach [] X.env := by rfl)
  (hpl : ∀ pos, (backTo pos (starEach [] X.env)).any (·.1) = false := by intro _; rfl)
  (hs : starEach (Expr.Call (.Name "range" p2) [a] [] pos2 :: []) X.env = (false, eval (Expr.Call (.Name "range" p2) [a] [] pos2) X.env) :: starEach [] X.env := by rfl) :
  PId X tg (.Call (.Name "reversed" p) [.Call (.Name "range" p2) [a] [] pos2] [] pos) (mlist rngD m) := by
 intro pins s σ H R I h
 obtain ⟨F0, H0, F, ρ, its, rl, e, q⟩ := h
 obtain ⟨ds, h1, h2⟩ := mlist_some e
 have A := pa_cons (pe_callTy call_rng1 hg' hm' boot_range ha (by decide) (by decide) he (hpl _)) pa_nil hs pos pins s σ H (fun vs H1 => ∃ p j F1 H2, vs = [.ref p] /\ ds = [.int j] /\ H2 p = none /\ H1 = upd H2 p (.rng 0 j) /\ Ext F H F1 H2) I ⟨F0, H0, F, ρ, ds, rl, h1, fun vs F1 H1 x1 r1 => by
  unfold rngD at h2
  split at h2
  ·rename_i j
   cases r1 with
   | cons r rr =>
    cases rr; cases r
    exact ⟨j, rfl, fun p hp => ⟨p, j, F1, H1, rfl, rfl, hp, rfl, x1⟩⟩
  ·cases h2⟩
 refine Call_ (ld_blt I hg hm boot_reversed (PyProof.Rows.callWith_type1 (thn A fun us s1 hpat => ?_) hs (hpl _)))
 obtain ⟨vs, H1, I1, r1, q1⟩ := hpat
 obtain ⟨l, j, F1, H2, ev, ed, hn, eH, x1⟩ := q1
 subst ev ed eH
 obtain ⟨u, rfl, ru⟩ := vals1 r1
 cases ru
 have h2 : (if okR j = true then some (downD j.toNat) else none) = some its := h2
 split at h2
 case isFalse => cases h2
 rename_i hk
 cases h2
 unfold okR at hk
 simp only [Bool.and_eq_true, decide_eq_true_eq] at hk
 obtain ⟨t, u, v, eo⟩ := I1.hok l _ upd_same
 refine call_reversed_range (j := j) eo hk.1 hk.2 ?_
 have hit : IsRangeIter (s1.heap.push (ritObj ((j.toNat : Int) - 1) j.toNat (-1))) s1.heap.objs.size ((j.toNat : Int) - 1) j.toNat (-1) := Heap.get?_push_size _ rfl
 refine wpAny_pyIter_rangeiter hit ?_
 have x2 : Ext F H F1 (upd H2 l (.rng 0 j)) := x1.trans (Ext.own x1.fh hn)
 refine ⟨s1.heap.objs.size, [s1.heap.objs.size], _, _, _, rfl, I1.kept (t' := s1.toks) fun b o e => Heap.get?_push_of_some _ e, turn_down _ ((j.toNat : Int) - 1) j.toNat, ?_, fun b hb => ?_, q _ F1 _ x2 itd_down⟩
 ·have e1 : ((j.toNat : Int) - 1) + ((0 : Nat) : Int) * (-1) = (j.toNat : Int) - 1 := by simp
  have e2 : ((j.toNat : Nat) : Int) - ((0 : Nat) : Int) = j.toNat := by simp
  show IsRangeIter _ _ (((j.toNat : Int) - 1) + ((0 : Nat) : Int) * (-1)) (((j.toNat : Nat) : Int) - ((0 : Nat) : Int)) (-1)
  rw [e1, e2]
  exact hit
 ·have e : b = s1.heap.objs.size := by simpa using hb
  subst e
  exact I1.fpOk (Nat.le_refl _) (I1.hok.fresh (Nat.le_refl _))
end
end L2
namespace L2
open PySem PySem.Spec PyProof.Rows
section
variable {X : Cx} {a b : Expr} {pos : Pos}
end
end L2
namespace L2
open PySem PySem.Spec PyProof.Rows
section
variable {X : Cx} {e : Expr} {pos : Pos} {es : List Expr} {E : XK} {mf : MG} {st : Stmt} {na : MEm}
end
section
variable {X : Cx} {a b : Expr} {pos : Pos}
noncomputable def repOk (n : Nat) (k : Int) : Bool := decide (-(2 ^ 62) <= k) && decide (k < 2 ^ 62) && decide (n * k.toNat <= sizeLine)
@[irreducible] noncomputable def mrep (x : ML) (y : ME) : ML := fun ρ => (x ρ).bind fun ds => match y ρ with
 | some (.int k) => if repOk ds.length k = true then some (List.replicate k.toNat ds).flatten else none
 | _ => none
theorem mrep_some {x : ML} {y : ME} {ρ : Ro} {gs : List D} (h : mrep x y ρ = some gs) : ∃ ds k, x ρ = some ds /\ y ρ = some (.int k) /\ repOk ds.length k = true /\ gs = (List.replicate k.toNat ds).flatten := by
 unfold mrep at h
 cases h1 : x ρ with
 | none => rw [h1] at h; cases h
 | some ds =>
  rw [h1, Option.bind_some] at h
  split at h
  ·rename_i k h2
   split at h
   ·rename_i hk
    exact ⟨ds, k, rfl, h2, hk, (Option.some.inj h).symm⟩
   ·cases h
  ·cases h
theorem mrep_ev {x : ML} {y : ME} {ρ : Ro} {ds : List D} {k : Int} (h1 : x ρ = some ds) (h2 : y ρ = some (.int k)) (hk : repOk ds.length k = true) : mrep x y ρ = some (List.replicate k.toNat ds).flatten := by
 unfold mrep
 rw [h1, Option.bind_some, h2]
 simp only [hk, if_true]
theorem reps_flat {K : PySem.W.Frag} {F : Hp} {xs : List V} {ds : List D} (r : Reps K F xs ds) : ∀ k : Nat, Reps K F (List.replicate k xs).flatten (List.replicate k ds).flatten
 | 0 => .nil
 | k + 1 => by
  rw [List.replicate_succ, List.replicate_succ, List.flatten_cons, List.flatten_cons]
  exact r.append (reps_flat r k)
theorem pf_rep {x : ML} {y : ME} (ha : PF X a x) (hb : PD X b y) : PF X (.BinOp a .Mult b pos) (mrep x y) := (pe_op op_rep ha hb).imp fun σ H Q hpat => by
 obtain ⟨F0, H0, F, ρ, g, rl, e, q⟩ := hpat
 obtain ⟨ds, k, h1, h2, hk, rfl⟩ := mrep_some e
 unfold repOk at hk
 simp only [Bool.and_eq_true, decide_eq_true_eq] at hk
 refine ⟨F0, H0, F, ρ, ds, rl, h1, fun p xs F1 H1 x1 n1 f1 g1 r1 => ⟨F0, H0, F1, ρ, .int k, rl.go x1, h2, fun v F2 H2 x2 r2 => ?_⟩⟩
 cases r2
 refine ⟨p, k, xs, rfl, rfl, x2.hh _ _ g1, by omega, by omega, by rw [r1.length]; exact hk.2, fun w hw => ?_⟩
 have xx := x1.trans x2
 exact q w _ F2 _ (xx.trans (Ext.own x2.fh hw)) (xx.hh.free hw) (x2.fh.free hw) upd_same (reps_flat (r1.mono x2.ff) k.toNat)
end
end L2
namespace L2
open PySem PySem.Spec PyProof.Rows
noncomputable def minN (mk : D -> Option D) (ds : List D) : Option D := match ds with
 | [] => none
 | d :: ds => (match mk d with | some kd => minF mk ds d kd | none => none)
section
variable {X : Cx} {pins : List (Addr × Obj)} {σ : St}
end
end L2
namespace L2
open PySem PySem.Spec PyProof.Rows
theorem args_max_kd (a v u : Value) : argsOk "max" ⟨[a], [(Str.ofString "key", v), (Str.ofString "default", u)]⟩ := by unfold argsOk; kernel_rfl
noncomputable def lenKey : D -> Option D
 | .lst ds => some (.int ds.length)
 | _ => none
noncomputable def gtI : D -> D -> Option Bool
 | .int i, .int j => some (decide (i > j))
 | _, _ => none
noncomputable def maxF : List D -> D -> D -> Option D
 | [], b, _ => some b
 | d :: ds, b, kb => match lenKey d with
  | some kd => (match gtI kd kb with | some true => maxF ds d kd | some false => maxF ds b kb | none => none)
  | none => none
noncomputable def maxD (ds : List D) (d0 : D) : Option D := match ds with
 | [] => some d0
 | d :: ds => (match lenKey d with | some kd => maxF ds d kd | none => none)
theorem gt_at {K : PySem.W.Frag} {F F' : Hp} {A : Around} {s : Shared} {x y : V} {v u : Value} {d e : D} {k : Bool} (r1 : Rep K F x d) (r2 : Rep K F' y e) (q1 : RelV x v) (q2 : RelV y u) (h : gtI d e = some k) (prog : Program) (w : World) (E : Value -> Shared -> Prop) (Q : Value -> Shared -> Prop) (hQ : Q (.bool k) s) : wpAny (model prog w) A (richCompare .Gt v u) Q E s := by
 cases r1 <;> cases r2 <;> first | (cases h; done) | skip
 rename_i i j
 cases h
 obtain ⟨t, rfl⟩ := q1
 obtain ⟨t', rfl⟩ := q2
 exact CmpOf.ints_gt (prog := prog) (w := w) (A := A) (P := fun n v => ∃ t, v = .int (if n = 1 then i else j) t) (fun n => if n = 1 then i else j) (fun i v h => h) 1 0 _ _ _ _ _ ⟨t, rfl⟩ ⟨t', rfl⟩ hQ
section
variable {X : Cx} {pins : List (Addr × Obj)} {σ : St}
theorem key_len (pins : List (Addr × Obj)) (σ : St) (H F : Hp) (s : Shared) (x : V) (u : Value) (d kd : D) (I : Inv X pins σ H s) (sf : Same F H) (r : Rep X.K F x d) (rx : RelV x u) (hm : lenKey d = some kd) :
  wpAny (model X.prog X.w) X.A.in1 (call (.builtin "len") [u]) (fun w s' => ∃ y F' H', Inv X pins σ H' s' /\ RelV y w /\ Ext F H F' H' /\ Rep X.K F' y kd) (fun _ _ => False) s := by
 cases r <;> first | (cases hm; done) | skip
 rename_i a xs ds sq rs
 cases hm
 cases rx
 have hn := line63
 obtain ⟨its, r', pl, hz⟩ := I.list (sf.seq sq)
 have hlen := r'.length
 refine Calls.call_len_list pl.isList (by simp only [List.size_toArray] <;> omega) ⟨.int ds.length, F, H, I.tok _, ⟨s.toks + 1, by rw [List.size_toArray, <- hlen, rs.length]⟩, .refl sf, .int _⟩
set_option maxHeartbeats 8000000 in
theorem max_loop (hc : X.calm = true) (hu : X.A.units + 64 < cLine) {l I S : Addr} {xs : List V} {ds : List D} {kw : List (Str × Value)} {dm : D} (hIS : I ≠ S) (hlI : l ≠ I) (hlS : l ≠ S) :
  ∀ (r j : Nat) (H F H0 F0 : Hp) (s : Shared) (xb yb : V) (vb kb : Value) (db kdb : D) (c : Nat) (R : Result -> Shared -> Prop),
   ds.length - (j + 1) = r -> j + 1 <= ds.length -> Inv X pins σ H s -> Ext F0 H0 F H -> SqL X.K H l xs -> Reps X.K F xs ds -> s.heap.IsListIter I l (j + 1) -> s.heap.get? S = some (seqObj "list" #[vb, kb] c) -> FpOk X pins H I -> FpOk X pins H S ->
   RelV xb vb -> Rep X.K F xb db -> RelV yb kb -> Rep X.K F yb kdb -> maxF (ds.drop (j + 1)) db kdb = some dm ->
   (∀ x v F' H' s', Inv X pins σ H' s' -> RelV x v -> Ext F0 H0 F' H' -> Rep X.K F' x dm -> R (.ok (.ret v)) s') ->
   codeAny (model X.prog X.w) X.A (.builtin "max.loop" ⟨[.ref I, .builtin "len", .ref S], kw⟩) R s := by
 have hname : (toString "max" ++ toString ".loop" : String) = "max.loop" := by decide
 intro r
 induction r with
 | zero =>
  intro j H F H0 F0 s xb yb vb kb db kdb c R hr hj I' ext sq rs hit hS fI fS rb pb ry py hm hR
  have hin : j + 1 = ds.length := by omega
  obtain ⟨its, vr, pl, _⟩ := I'.list sq
  have zl : its.length = ds.length := by rw [<- vr.length, rs.length]
  rw [hin, List.drop_length] at hm
  have hm : some db = some dm := hm
  cases hm
  refine codeAny_builtin PySem.F.entry_max_loop ?_
  rw [Around.under_plainId PySem.F.plain_max_loop _]
  show wpAny _ X.A.in1 (seqItems? (.ref S) >>= _) _ _ _
  refine wpAny_bind (wpAny_seqItems hS rfl ?_)
  show wpAny _ X.A.in1 (tryCatch (pyNext (.ref I)) _ >>= _) _ _ _
  refine wpAny_bind (wpAny_tryCatch (wpAny_pyNext_list_end (I'.ok.hd hc) hit pl.isList (by simp; omega) fun h' hk' => ?_))
  have hS' : h'.get? S = some (seqObj "list" #[vb, kb] c) := hk' S _ (Ne.symm hIS) hS
  have s1 := Heap.SameBut.update h' S (Obj.mapSeq fun _ => (#[] : Array Value))
  show wpAny _ X.A.in1 (updateSeq S (fun _ => #[]) >>= _) _ _ _
  refine wpAny_bind ?_
  refine wpAny_updateSeq hS' rfl (wpAny_bind (wpAny_letGo (wpAny_pure ?_)))
  have I9 : Inv X pins σ H { s with heap := h'.update S (Obj.mapSeq fun _ => (#[] : Array Value)), toks := s.toks } := I'.turnedL (fp := [I, S]) (t' := s.toks) (fun b o hb e => by
   simp only [List.mem_cons, List.not_mem_nil, or_false, not_or] at hb
   exact (s1.2 b hb.2).trans (hk' b o hb.1 e)) (fun b hb => by
   simp only [List.mem_cons, List.not_mem_nil, or_false] at hb
   rcases hb with rfl | rfl <;> assumption)
  exact hR xb vb F H _ I9 rb ext pb
 | succ r ih =>
  intro j H F H0 F0 s xb yb vb kb db kdb c R hr hj I' ext sq rs hit hS fI fS rb pb ry py hm hR
  have hlt : j + 1 < ds.length := by omega
  obtain ⟨its, vr, pl, _⟩ := I'.list sq
  have zl : its.length = ds.length := by rw [<- vr.length, rs.length]
  obtain ⟨d, hd⟩ : ∃ d, ds[j + 1]? = some d := ⟨_, List.getElem?_eq_getElem hlt⟩
  obtain ⟨x, hx, px⟩ := rs.get hd
  obtain ⟨v, hv, rx⟩ := vr.get hx
  rw [drop_get hd] at hm
  unfold maxF at hm
  cases hkd : lenKey d with
  | none => rw [hkd] at hm; cases hm
  | some kd =>
   rw [hkd] at hm
   dsimp only at hm
   refine codeAny_builtin PySem.F.entry_max_loop ?_
   rw [Around.under_plainId PySem.F.plain_max_loop _]
   show wpAny _ X.A.in1 (seqItems? (.ref S) >>= _) _ _ _
   refine wpAny_bind (wpAny_seqItems hS rfl ?_)
   show wpAny _ X.A.in1 (tryCatch (pyNext (.ref I)) _ >>= _) _ _ _
   refine wpAny_bind (wpAny_tryCatch (wpAny_pyNext_list_item hit pl.isList (by simpa using hv) fun h1 hit1 s1 => ?_))
   have I1 : Inv X pins σ H { s with heap := h1, toks := s.toks } := I'.turnedL (fp := [I]) (fun b o hb e => s1.extBut b o (by simpa using hb) e) (fun b hb => by rw [List.mem_singleton.mp hb]; exact fI)
   have hS1 : h1.get? S = some (seqObj "list" #[vb, kb] c) := s1.extBut _ _ (Ne.symm hIS) hS
   obtain ⟨oI, eI, cI, dI⟩ := id hit1
   have Ip := I1.pin2 fI fS eI hS1 (fun v z => by rw [dI] at z; cases z) (fun v z => by cases z)
   show wpAny _ X.A.in1 (tryCatch (holding [v] (call (.builtin "len") [v])) _ >>= _) _ _ _
   refine wpAny_bind (wpAny_tryCatch (wpAny_holding (wpAny_mono (key_len (pins ++ [(I, oI), (S, seqObj "list" #[vb, kb] c)]) σ H F _ x v d kd Ip ext.fh px rx hkd) (fun w s2 hw => ?_) fun _ _ z => z.elim)))
   obtain ⟨y, F2, H2, I2, rw2, x2, py2⟩ := hw
   have pI := I2.pin (I, oI) (by simp)
   have pS := I2.pin (S, seqObj "list" #[vb, kb] c) (by simp)
   have I2' : Inv X pins σ H2 s2 := I2.unpinned
   have fI2 : FpOk X pins H2 I := fI.now pI.2.1
   have fS2 : FpOk X pins H2 S := fS.now pS.2.1
   have hit2 : s2.heap.IsListIter I l (j + 1 + 1) := ⟨oI, pI.1, cI, dI⟩
   cases hlt8 : gtI kd kdb with
   | none => rw [hlt8] at hm; cases hm
   | some bt =>
    rw [hlt8] at hm
    have hcmp := gt_at (A := X.A.in1) (s := s2) py2 py rw2 ry hlt8
    show wpAny _ X.A.in1 (tryCatch (holding [v, w] (richCompare .Gt w kb >>= _)) _ >>= _) _ _ _
    refine wpAny_bind (wpAny_tryCatch (wpAny_holding (wpAny_bind (hcmp X.prog X.w _ _ ?_))))
    refine wpAny_bind (wpAny_holding (wpAny_truthy_bool ?_))
    refine wpAny_bind (wpAny_letGo (wpAny_pure ?_))
    cases bt with
    | true =>
     have s3 := Heap.SameBut.update s2.heap S (Obj.mapSeq fun _ => #[v, w])
     obtain ⟨c2, hc2⟩ : ∃ c2, (s2.heap.update S (Obj.mapSeq fun _ => #[v, w])).get? S = some (seqObj "list" #[v, w] c2) := ⟨_, get?_update_seq pS.1 fun _ => #[v, w]⟩
     simp only [if_true]
     refine wpAny_bind ?_
     refine wpAny_updateSeq pS.1 rfl (wpAny_bind (wpAny_letGo ?_))
     rw [hname]
     have I3 : Inv X pins σ H2 { s2 with heap := s2.heap.update S (Obj.mapSeq fun _ => #[v, w]), toks := s2.toks } := I2'.turnedL (fp := [S]) (fun b o hb e => (s3.2 b (by simpa using hb)).trans e) (fun b hb => by rw [List.mem_singleton.mp hb]; exact fS2)
     refine wpAny_pure ⟨plainId_quiet PySem.F.plain_max_loop _, ih (j + 1) H2 F2 H0 F0 _ x y v w d kd c2 R (by omega) hlt I3 (ext.trans x2) (x2.hh.seq sq) (rs.mono x2.ff) ⟨oI, (s3.2 I hIS).trans pI.1, cI, dI⟩ hc2 fI2 fS2 rx (px.mono x2.ff) rw2 py2 hm hR⟩
    | false =>
     simp only [Bool.false_eq_true, if_false]
     refine wpAny_bind (wpAny_letGo ?_)
     rw [hname]
     refine wpAny_pure ⟨plainId_quiet PySem.F.plain_max_loop _, ih (j + 1) H2 F2 H0 F0 _ xb yb vb kb db kdb c R (by omega) hlt I2' (ext.trans x2) (x2.hh.seq sq) (rs.mono x2.ff) hit2 pS.1 fI2 fS2 rb (pb.mono x2.ff) ry (py.mono x2.ff) hm hR⟩
set_option maxHeartbeats 8000000 in
theorem max_top (hc : X.calm = true) (hu : X.A.units + 64 < cLine) {l : Addr} {xs : List V} {ds : List D} {dm d0 : D} {H F : Hp} {s : Shared} {x0 : V} {v0 : Value} {E : Value -> Shared -> Prop} {Q : Value -> Shared -> Prop}
  (I : Inv X pins σ H s) (sf : Same F H) (sq : SqL X.K H l xs) (rs : Reps X.K F xs ds) (r0 : RelV x0 v0) (p0 : Rep X.K F x0 d0) (hm : maxD ds d0 = some dm)
  (hQ : ∀ x v F' H' s', Inv X pins σ H' s' -> RelV x v -> Ext F H F' H' -> Rep X.K F' x dm -> Q v s') :
  wpAny (model X.prog X.w) X.A (call (.builtin "max") [.ref l] [(Str.ofString "key", .builtin "len"), (Str.ofString "default", v0)]) Q E s := by
 have hname : (toString "max" ++ toString ".loop" : String) = "max.loop" := by decide
 obtain ⟨its, vr, pl, _⟩ := I.list sq
 have hls := pl.isList
 obtain ⟨ol, hol, _⟩ := id hls
 have hll : l < s.heap.objs.size := Heap.lt_size hol
 refine kmk_tree PySem.F.kind_max PySem.F.plain_max PySem.F.entry_max (args_max_kd _ _ _) ?_
 show wpAny _ X.A.in1 (Builtin.Builtins.bindParams "max" ["key", "default"] 0 ⟨[], [(Str.ofString "key", .builtin "len"), (Str.ofString "default", v0)]⟩ >>= _) _ _ s
 refine wpAny_bind (wpAny_of_eq (show Builtin.Builtins.bindParams "max" ["key", "default"] 0 ⟨[], [(Str.ofString "key", .builtin "len"), (Str.ofString "default", v0)]⟩ = pure [some (.builtin "len"), some v0] from rfl) ?_)
 refine wpAny_bind (wpAny_pure ?_)
 refine wpAny_bind (wpAny_pyIter_list hls ?_)
 refine wpAny_bind (wpAny_newList ?_ (Nat.zero_le _))
 rw [hname]
 refine wpAny_pure ⟨plainId_quiet PySem.F.plain_max_loop _, ?_⟩
 generalize hIo : ({ cls := .type "list_iterator", data := .fields #[.ref l, .int 0 0] } : Obj) = oI0
 have hS : (s.heap.push oI0).objs.size = s.heap.objs.size + 1 := size_push' ..
 have hlI : l ≠ s.heap.objs.size := Nat.ne_of_lt hll
 have hlS : l ≠ (s.heap.push oI0).objs.size := by rw [hS]; exact Nat.ne_of_lt (Nat.lt_succ_of_lt hll)
 have hIS : s.heap.objs.size ≠ (s.heap.push oI0).objs.size := by rw [hS]; exact Nat.ne_of_lt (Nat.lt_succ_self _)
 have gI : ((s.heap.push oI0).push (seqObj "list" #[] 0)).get? s.heap.objs.size = some oI0 := Heap.get?_push_of_some _ (Heap.get?_push_size _ (by rw [<- hIo]; rfl))
 have gS : ((s.heap.push oI0).push (seqObj "list" #[] 0)).get? (s.heap.push oI0).objs.size = some (seqObj "list" #[] 0) := Heap.get?_push_size _ rfl
 have fI : FpOk X pins H s.heap.objs.size := I.fpOk (Nat.le_refl _) (I.hok.fresh (Nat.le_refl _))
 have fS : FpOk X pins H (s.heap.push oI0).objs.size := I.fpOk (by rw [hS]; exact Nat.le_succ _) (I.hok.fresh (by rw [hS]; exact Nat.le_succ _))
 have I0 : Inv X pins σ H { s with heap := (s.heap.push oI0).push (seqObj "list" #[] 0), toks := s.toks } := I.turnedL (fp := []) (fun b o _ e => Heap.get?_push_of_some _ (Heap.get?_push_of_some _ e)) (fun b hb => by cases hb)
 generalize (s.heap.push oI0).objs.size = S at *
 generalize hI : s.heap.objs.size = J at *
 generalize (s.heap.push oI0).push (seqObj "list" #[] 0) = h0 at *
 have hit : h0.IsListIter J l 0 := ⟨_, gI, by rw [<- hIo], by rw [<- hIo]; rfl⟩
 have zl : its.length = ds.length := by rw [<- vr.length, rs.length]
 obtain ⟨its', vr', pl', _⟩ := I0.list sq
 have zl' : its'.length = ds.length := by rw [<- vr'.length, rs.length]
 refine codeAny_builtin PySem.F.entry_max_loop ?_
 rw [Around.under_plainId PySem.F.plain_max_loop _]
 show wpAny _ X.A.in1 (seqItems? (.ref S) >>= _) _ _ _
 refine wpAny_bind (wpAny_seqItems gS rfl ?_)
 show wpAny _ X.A.in1 (tryCatch (pyNext (.ref J)) _ >>= _) _ _ _
 cases ds with
 | nil =>
  have hm : some d0 = some dm := hm
  cases hm
  refine wpAny_bind (wpAny_tryCatch (wpAny_pyNext_list_end (I.ok.hd hc) hit pl'.isList (by simp at zl' ⊢; simp [zl']) fun h' hk' => ?_))
  refine wpAny_bind (wpAny_rule (wpAny_pure ?_))
  have I9 := I0.turnedL (h' := h') (fp := [J]) (t' := s.toks) (fun b o hb e => hk' b o (by simpa using hb) e) (fun b hb => by rw [List.mem_singleton.mp hb]; exact fI)
  exact hQ x0 v0 F H _ I9 r0 (Ext.refl sf) p0
 | cons d ds =>
  obtain ⟨x, hx, px⟩ := rs.get (i := 0) (d := d) rfl
  obtain ⟨v, hv, rx⟩ := vr'.get hx
  unfold maxD at hm
  dsimp only at hm
  cases hkd : lenKey d with
  | none => rw [hkd] at hm; cases hm
  | some kd =>
   rw [hkd] at hm
   dsimp only at hm
   refine wpAny_bind (wpAny_tryCatch (wpAny_pyNext_list_item hit pl'.isList (by simpa using hv) fun h1 hit1 s1 => ?_))
   have I1 := I0.turnedL (h' := h1) (t' := s.toks) (fp := [J]) (fun b o hb e => s1.extBut b o (by simpa using hb) e) (fun b hb => by rw [List.mem_singleton.mp hb]; exact fI)
   have hS1 : h1.get? S = some (seqObj "list" #[] 0) := s1.extBut _ _ (Ne.symm hIS) gS
   obtain ⟨oI, eI, cI, dI⟩ := id hit1
   have Ip := I1.pin2 fI fS eI hS1 (fun v z => by rw [dI] at z; cases z) (fun v z => by cases z)
   show wpAny _ X.A.in1 (tryCatch (holding [v] (call (.builtin "len") [v])) _ >>= _) _ _ _
   refine wpAny_bind (wpAny_tryCatch (wpAny_holding (wpAny_mono (key_len (pins ++ [(J, oI), (S, seqObj "list" #[] 0)]) σ H F _ x v d kd Ip sf px rx hkd) (fun w s2 hw => ?_) fun _ _ z => z.elim)))
   obtain ⟨y, F2, H2, I2, rw2, x2, py2⟩ := hw
   have pI := I2.pin (J, oI) (by simp)
   have pS := I2.pin (S, seqObj "list" #[] 0) (by simp)
   have I2' : Inv X pins σ H2 s2 := I2.unpinned
   have fI2 : FpOk X pins H2 J := fI.now pI.2.1
   have fS2 : FpOk X pins H2 S := fS.now pS.2.1
   have s3 := Heap.SameBut.update s2.heap S (Obj.mapSeq fun _ => #[v, w])
   obtain ⟨c2, hc2⟩ : ∃ c2, (s2.heap.update S (Obj.mapSeq fun _ => #[v, w])).get? S = some (seqObj "list" #[v, w] c2) := ⟨_, get?_update_seq pS.1 fun _ => #[v, w]⟩
   show wpAny _ X.A.in1 (updateSeq S (fun _ => #[v, w]) >>= _) _ _ _
   refine wpAny_bind (wpAny_updateSeq pS.1 rfl ?_)
   rw [hname]
   have I3 : Inv X pins σ H2 { s2 with heap := s2.heap.update S (Obj.mapSeq fun _ => #[v, w]), toks := s2.toks } := I2'.turnedL (fp := [S]) (fun b o hb e => (s3.2 b (by simpa using hb)).trans e) (fun b hb => by rw [List.mem_singleton.mp hb]; exact fS2)
   refine wpAny_pure ⟨plainId_quiet PySem.F.plain_max_loop _, max_loop hc hu (ds := d :: ds) (dm := dm) hIS hlI hlS _ 0 H2 F2 H F _ x y v w d kd c2 _ rfl (by simp) I3 x2 (x2.hh.seq sq) (rs.mono x2.ff) ⟨oI, (s3.2 J hIS).trans pI.1, cI, dI⟩ hc2 fI2 fS2 rx (px.mono x2.ff) rw2 py2 hm fun x v F' H' s' a b c d => hQ x v F' H' s' a b c d⟩
@[irreducible] noncomputable def mmaxLen (m : ML) (md : ME) : ME := fun ρ => (m ρ).bind fun ds => (md ρ).bind fun d0 => maxD ds d0
theorem mmaxLen_some {m : ML} {md : ME} {ρ : Ro} {g : D} (h : mmaxLen m md ρ = some g) : ∃ ds d0, m ρ = some ds /\ md ρ = some d0 /\ maxD ds d0 = some g := by
 unfold mmaxLen at h
 cases h1 : m ρ with
 | none => rw [h1] at h; cases h
 | some d =>
  cases h2 : md ρ with
  | none => rw [h1, h2] at h; cases h
  | some e => rw [h1, h2] at h; exact ⟨d, e, rfl, rfl, h⟩
theorem mmaxLen_ev {m : ML} {md : ME} {ρ : Ro} {ds : List D} {d0 : D} (h1 : m ρ = some ds) (h2 : md ρ = some d0) : mmaxLen m md ρ = maxD ds d0 := by
 unfold mmaxLen
 rw [h1, h2]; rfl
theorem pd_maxLen {p pf kp kp2 pos : Pos} {e ed : Expr} {m : ML} {md : ME} (hc : X.calm = true) (hu : X.A.units + 64 < cLine) (hg : Gl X "max") (hm : X.mg "max" = none) (hgf : Gl X "len") (hmf : X.mg "len" = none) (ha : PB X e m) (hd : PD X ed md)
  (hs : starEach (e :: []) X.env = (false, eval e X.env) :: starEach [] X.env := by rfl) :
  PD X (.Call (.Name "max" p) [e] [⟨some "key", .Name "len" pf, kp⟩, ⟨some "default", ed, kp2⟩] pos) (mmaxLen m md) := by
 intro pins s σ H Q I h
 obtain ⟨F0, H0, F, ρ, g, rl, em, q0⟩ := h
 obtain ⟨ds, d0, h1, h2, h3⟩ := mmaxLen_some em
 refine wpAny_Call_Name_kw (ld_blt I hg hm PyProof.Rows.boot_max ?_ (by decide) (by decide))
 have A := pa_cons ha pa_nil hs pos pins s σ H (fun vs H1 => ∃ p xs F1, vs = [.ref p] /\ Ext F H F1 H1 /\ SqL X.K H1 p xs /\ Reps X.K F1 xs ds) I ⟨F0, H0, F, ρ, ds, rl, h1, fun p xs F1 H1 x1 s1 r1 => ⟨p, xs, F1, rfl, x1, s1, r1⟩⟩
 refine callWith_kw (thn A fun us s1 hpat => ?_) (by rw [hs]; rfl) (by rw [hs]; rfl)
 obtain ⟨vs, H1, I1, r1, p, xs, F1, ev, x1, sq, rs⟩ := hpat
 subst ev
 obtain ⟨u, rfl, ru⟩ := vals1 r1
 cases ru
 show wpAny _ _ (evalAll ((do let v ← eval (.Name "len" pf) X.env; standAt pos; pure v) :: (backToKw pos (keywordEach [⟨some "default", ed, kp2⟩] X.env)).map (·.2))) _ _ s1
 refine wpAny_evalAll_cons (wpAny_bind (ld_blt I1 hgf hmf boot_len (wpAny_bind (wpAny_standAt (wpAny_pure ?_))) (by decide) (by decide)))
 have B := pk_cons (nm := some "default") (kpos := kp2) hd pk_nil pos pins s1 σ H1 (fun vs H2 => ∃ y F2, vs = [y] /\ Ext F1 H1 F2 H2 /\ Rep X.K F2 y d0) I1 ⟨F0, H0, F1, ρ, d0, rl.go x1, h2, fun y F2 H2 x2 r2 => ⟨y, F2, rfl, x2, r2⟩⟩
 refine thn B fun us s2 hpat => ?_
 obtain ⟨vs, H2, I2, r2, y, F2, ev, x2, p0⟩ := hpat
 subst ev
 obtain ⟨u2, rfl, ru2⟩ := vals1 r2
 exact max_top hc hu I2 x2.fh (x2.hh.seq sq) (rs.mono x2.ff) ru2 p0 h3 fun x v F' H' s' I' rx x3 px => ⟨x, H', I', rx, q0 x F' H' ((x1.trans x2).trans x3) px⟩
end
end L2
namespace L2
open PySem PySem.Spec PyProof.Rows
section
variable {X : Cx} {pins : List (Addr × Obj)} {σ : St}
end
section
variable {X : Cx}
end
end L2
namespace L2
open PySem PySem.Spec PyProof.Rows
theorem args_max_d (a u : Value) : argsOk "max" ⟨[a], [(Str.ofString "default", u)]⟩ := by unfold argsOk; kernel_rfl
noncomputable def maxP : List D -> D -> Option D
 | [], b => some b
 | d :: ds, b => (match gtI d b with | some true => maxP ds d | some false => maxP ds b | none => none)
noncomputable def maxE (ds : List D) (d0 : D) : Option D := match ds with
 | [] => some d0
 | d :: ds => maxP ds d
section
variable {X : Cx} {pins : List (Addr × Obj)} {σ : St}
set_option maxHeartbeats 8000000 in
theorem max_loop0 (hc : X.calm = true) (hu : X.A.units + 64 < cLine) {l I S : Addr} {xs : List V} {ds : List D} {kw : List (Str × Value)} {dm : D} (hIS : I ≠ S) (hlI : l ≠ I) (hlS : l ≠ S) :
  ∀ (r j : Nat) (H F H0 F0 : Hp) (s : Shared) (xb : V) (vb : Value) (db : D) (c : Nat) (R : Result -> Shared -> Prop),
   ds.length - (j + 1) = r -> j + 1 <= ds.length -> Inv X pins σ H s -> Ext F0 H0 F H -> SqL X.K H l xs -> Reps X.K F xs ds -> s.heap.IsListIter I l (j + 1) -> s.heap.get? S = some (seqObj "list" #[vb, vb] c) -> FpOk X pins H I -> FpOk X pins H S ->
   RelV xb vb -> Rep X.K F xb db -> maxP (ds.drop (j + 1)) db = some dm ->
   (∀ x v F' H' s', Inv X pins σ H' s' -> RelV x v -> Ext F0 H0 F' H' -> Rep X.K F' x dm -> R (.ok (.ret v)) s') ->
   codeAny (model X.prog X.w) X.A (.builtin "max.loop" ⟨[.ref I, .none, .ref S], kw⟩) R s := by
 have hname : (toString "max" ++ toString ".loop" : String) = "max.loop" := by decide
 intro r
 induction r with
 | zero =>
  intro j H F H0 F0 s xb vb db c R hr hj I' ext sq rs hit hS fI fS rb pb hm hR
  have hin : j + 1 = ds.length := by omega
  obtain ⟨its, vr, pl, _⟩ := I'.list sq
  have zl : its.length = ds.length := by rw [<- vr.length, rs.length]
  rw [hin, List.drop_length] at hm
  have hm : some db = some dm := hm
  cases hm
  refine codeAny_builtin PySem.F.entry_max_loop ?_
  rw [Around.under_plainId PySem.F.plain_max_loop _]
  show wpAny _ X.A.in1 (seqItems? (.ref S) >>= _) _ _ _
  refine wpAny_bind (wpAny_seqItems hS rfl ?_)
  show wpAny _ X.A.in1 (tryCatch (pyNext (.ref I)) _ >>= _) _ _ _
  refine wpAny_bind (wpAny_tryCatch (wpAny_pyNext_list_end (I'.ok.hd hc) hit pl.isList (by simp; omega) fun h' hk' => ?_))
  have hS' : h'.get? S = some (seqObj "list" #[vb, vb] c) := hk' S _ (Ne.symm hIS) hS
  have s1 := Heap.SameBut.update h' S (Obj.mapSeq fun _ => (#[] : Array Value))
  show wpAny _ X.A.in1 (updateSeq S (fun _ => #[]) >>= _) _ _ _
  refine wpAny_bind ?_
  refine wpAny_updateSeq hS' rfl (wpAny_bind (wpAny_letGo (wpAny_pure ?_)))
  have I9 : Inv X pins σ H { s with heap := h'.update S (Obj.mapSeq fun _ => (#[] : Array Value)), toks := s.toks } := I'.turnedL (fp := [I, S]) (t' := s.toks) (fun b o hb e => by
   simp only [List.mem_cons, List.not_mem_nil, or_false, not_or] at hb
   exact (s1.2 b hb.2).trans (hk' b o hb.1 e)) (fun b hb => by
   simp only [List.mem_cons, List.not_mem_nil, or_false] at hb
   rcases hb with rfl | rfl <;> assumption)
  exact hR xb vb F H _ I9 rb ext pb
 | succ r ih =>
  intro j H F H0 F0 s xb vb db c R hr hj I' ext sq rs hit hS fI fS rb pb hm hR
  have hlt : j + 1 < ds.length := by omega
  obtain ⟨its, vr, pl, _⟩ := I'.list sq
  have zl : its.length = ds.length := by rw [<- vr.length, rs.length]
  obtain ⟨d, hd⟩ : ∃ d, ds[j + 1]? = some d := ⟨_, List.getElem?_eq_getElem hlt⟩
  obtain ⟨x, hx, px⟩ := rs.get hd
  obtain ⟨v, hv, rx⟩ := vr.get hx
  rw [drop_get hd] at hm
  unfold maxP at hm
  refine codeAny_builtin PySem.F.entry_max_loop ?_
  rw [Around.under_plainId PySem.F.plain_max_loop _]
  show wpAny _ X.A.in1 (seqItems? (.ref S) >>= _) _ _ _
  refine wpAny_bind (wpAny_seqItems hS rfl ?_)
  show wpAny _ X.A.in1 (tryCatch (pyNext (.ref I)) _ >>= _) _ _ _
  refine wpAny_bind (wpAny_tryCatch (wpAny_pyNext_list_item hit pl.isList (by simpa using hv) fun h1 hit1 s1 => ?_))
  have I1 : Inv X pins σ H { s with heap := h1, toks := s.toks } := I'.turnedL (fp := [I]) (fun b o hb e => s1.extBut b o (by simpa using hb) e) (fun b hb => by rw [List.mem_singleton.mp hb]; exact fI)
  have hS1 : h1.get? S = some (seqObj "list" #[vb, vb] c) := s1.extBut _ _ (Ne.symm hIS) hS
  cases hlt8 : gtI d db with
  | none => rw [hlt8] at hm; cases hm
  | some bt =>
   rw [hlt8] at hm
   have hcmp := gt_at (A := X.A.in1) (s := { s with heap := h1, toks := s.toks }) px pb rx rb hlt8
   refine wpAny_bind (wpAny_pure ?_)
   show wpAny _ X.A.in1 (tryCatch (holding [v, v] (richCompare .Gt v vb >>= _)) _ >>= _) _ _ _
   refine wpAny_bind (wpAny_tryCatch (wpAny_holding (wpAny_bind (hcmp X.prog X.w _ _ ?_))))
   refine wpAny_bind (wpAny_holding (wpAny_truthy_bool ?_))
   refine wpAny_bind (wpAny_letGo (wpAny_pure ?_))
   cases bt with
   | true =>
    have s3 := Heap.SameBut.update h1 S (Obj.mapSeq fun _ => #[v, v])
    obtain ⟨c2, hc2⟩ : ∃ c2, (h1.update S (Obj.mapSeq fun _ => #[v, v])).get? S = some (seqObj "list" #[v, v] c2) := ⟨_, get?_update_seq hS1 fun _ => #[v, v]⟩
    simp only [if_true]
    refine wpAny_bind ?_
    refine wpAny_updateSeq hS1 rfl (wpAny_bind (wpAny_letGo ?_))
    rw [hname]
    have I3 := I1.turnedL (h' := h1.update S (Obj.mapSeq fun _ => #[v, v])) (t' := s.toks) (fp := [S]) (fun b o hb e => (s3.2 b (by simpa using hb)).trans e) (fun b hb => by rw [List.mem_singleton.mp hb]; exact fS)
    refine wpAny_pure ⟨plainId_quiet PySem.F.plain_max_loop _, ih (j + 1) H F H0 F0 _ x v d c2 R (by omega) hlt I3 ext sq rs (hit1.at fun o e => (s3.2 I hIS).trans e) hc2 fI fS rx px hm hR⟩
   | false =>
    simp only [Bool.false_eq_true, if_false]
    refine wpAny_bind (wpAny_letGo ?_)
    rw [hname]
    refine wpAny_pure ⟨plainId_quiet PySem.F.plain_max_loop _, ih (j + 1) H F H0 F0 _ xb vb db c R (by omega) hlt I1 ext sq rs hit1 hS1 fI fS rb pb hm hR⟩
set_option maxHeartbeats 8000000 in
theorem max_topD (hc : X.calm = true) (hu : X.A.units + 64 < cLine) {l : Addr} {xs : List V} {ds : List D} {dm d0 : D} {H F : Hp} {s : Shared} {x0 : V} {v0 : Value} {E : Value -> Shared -> Prop} {Q : Value -> Shared -> Prop}
  (I : Inv X pins σ H s) (sf : Same F H) (sq : SqL X.K H l xs) (rs : Reps X.K F xs ds) (r0 : RelV x0 v0) (p0 : Rep X.K F x0 d0) (hm : maxE ds d0 = some dm)
  (hQ : ∀ x v F' H' s', Inv X pins σ H' s' -> RelV x v -> Ext F H F' H' -> Rep X.K F' x dm -> Q v s') :
  wpAny (model X.prog X.w) X.A (call (.builtin "max") [.ref l] [(Str.ofString "default", v0)]) Q E s := by
 have hname : (toString "max" ++ toString ".loop" : String) = "max.loop" := by decide
 obtain ⟨its, vr, pl, _⟩ := I.list sq
 have hls := pl.isList
 obtain ⟨ol, hol, _⟩ := id hls
 have hll : l < s.heap.objs.size := Heap.lt_size hol
 refine kmk_tree PySem.F.kind_max PySem.F.plain_max PySem.F.entry_max (args_max_d _ _) ?_
 show wpAny _ X.A.in1 (Builtin.Builtins.bindParams "max" ["key", "default"] 0 ⟨[], [(Str.ofString "default", v0)]⟩ >>= _) _ _ s
 refine wpAny_bind (wpAny_of_eq (show Builtin.Builtins.bindParams "max" ["key", "default"] 0 ⟨[], [(Str.ofString "default", v0)]⟩ = pure [none, some v0] from rfl) ?_)
 refine wpAny_bind (wpAny_pure ?_)
 refine wpAny_bind (wpAny_pyIter_list hls ?_)
 refine wpAny_bind (wpAny_newList ?_ (Nat.zero_le _))
 rw [hname]
 refine wpAny_pure ⟨plainId_quiet PySem.F.plain_max_loop _, ?_⟩
 generalize hIo : ({ cls := .type "list_iterator", data := .fields #[.ref l, .int 0 0] } : Obj) = oI0
 have hS : (s.heap.push oI0).objs.size = s.heap.objs.size + 1 := size_push' ..
 have hlI : l ≠ s.heap.objs.size := Nat.ne_of_lt hll
 have hlS : l ≠ (s.heap.push oI0).objs.size := by rw [hS]; exact Nat.ne_of_lt (Nat.lt_succ_of_lt hll)
 have hIS : s.heap.objs.size ≠ (s.heap.push oI0).objs.size := by rw [hS]; exact Nat.ne_of_lt (Nat.lt_succ_self _)
 have gI : ((s.heap.push oI0).push (seqObj "list" #[] 0)).get? s.heap.objs.size = some oI0 := Heap.get?_push_of_some _ (Heap.get?_push_size _ (by rw [<- hIo]; rfl))
 have gS : ((s.heap.push oI0).push (seqObj "list" #[] 0)).get? (s.heap.push oI0).objs.size = some (seqObj "list" #[] 0) := Heap.get?_push_size _ rfl
 have fI : FpOk X pins H s.heap.objs.size := I.fpOk (Nat.le_refl _) (I.hok.fresh (Nat.le_refl _))
 have fS : FpOk X pins H (s.heap.push oI0).objs.size := I.fpOk (by rw [hS]; exact Nat.le_succ _) (I.hok.fresh (by rw [hS]; exact Nat.le_succ _))
 have I0 : Inv X pins σ H { s with heap := (s.heap.push oI0).push (seqObj "list" #[] 0), toks := s.toks } := I.turnedL (fp := []) (fun b o _ e => Heap.get?_push_of_some _ (Heap.get?_push_of_some _ e)) (fun b hb => by cases hb)
 generalize (s.heap.push oI0).objs.size = S at *
 generalize hI : s.heap.objs.size = J at *
 generalize (s.heap.push oI0).push (seqObj "list" #[] 0) = h0 at *
 have hit : h0.IsListIter J l 0 := ⟨_, gI, by rw [<- hIo], by rw [<- hIo]; rfl⟩
 have zl : its.length = ds.length := by rw [<- vr.length, rs.length]
 obtain ⟨its', vr', pl', _⟩ := I0.list sq
 have zl' : its'.length = ds.length := by rw [<- vr'.length, rs.length]
 refine codeAny_builtin PySem.F.entry_max_loop ?_
 rw [Around.under_plainId PySem.F.plain_max_loop _]
 show wpAny _ X.A.in1 (seqItems? (.ref S) >>= _) _ _ _
 refine wpAny_bind (wpAny_seqItems gS rfl ?_)
 show wpAny _ X.A.in1 (tryCatch (pyNext (.ref J)) _ >>= _) _ _ _
 cases ds with
 | nil =>
  have hm : some d0 = some dm := hm
  cases hm
  refine wpAny_bind (wpAny_tryCatch (wpAny_pyNext_list_end (I.ok.hd hc) hit pl'.isList (by simp at zl' ⊢; simp [zl']) fun h' hk' => ?_))
  refine wpAny_bind (wpAny_rule (wpAny_pure ?_))
  have I9 := I0.turnedL (h' := h') (fp := [J]) (t' := s.toks) (fun b o hb e => hk' b o (by simpa using hb) e) (fun b hb => by rw [List.mem_singleton.mp hb]; exact fI)
  exact hQ x0 v0 F H _ I9 r0 (Ext.refl sf) p0
 | cons d ds =>
  obtain ⟨x, hx, px⟩ := rs.get (i := 0) (d := d) rfl
  obtain ⟨v, hv, rx⟩ := vr'.get hx
  refine wpAny_bind (wpAny_tryCatch (wpAny_pyNext_list_item hit pl'.isList (by simpa using hv) fun h1 hit1 s1 => ?_))
  have I1 := I0.turnedL (h' := h1) (t' := s.toks) (fp := [J]) (fun b o hb e => s1.extBut b o (by simpa using hb) e) (fun b hb => by rw [List.mem_singleton.mp hb]; exact fI)
  have hS1 : h1.get? S = some (seqObj "list" #[] 0) := s1.extBut _ _ (Ne.symm hIS) gS
  refine wpAny_bind (wpAny_pure ?_)
  have s3 := Heap.SameBut.update h1 S (Obj.mapSeq fun _ => #[v, v])
  obtain ⟨c2, hc2⟩ : ∃ c2, (h1.update S (Obj.mapSeq fun _ => #[v, v])).get? S = some (seqObj "list" #[v, v] c2) := ⟨_, get?_update_seq hS1 fun _ => #[v, v]⟩
  show wpAny _ X.A.in1 (updateSeq S (fun _ => #[v, v]) >>= _) _ _ _
  refine wpAny_bind (wpAny_updateSeq hS1 rfl ?_)
  rw [hname]
  have I3 := I1.turnedL (h' := h1.update S (Obj.mapSeq fun _ => #[v, v])) (t' := s.toks) (fp := [S]) (fun b o hb e => (s3.2 b (by simpa using hb)).trans e) (fun b hb => by rw [List.mem_singleton.mp hb]; exact fS)
  exact wpAny_pure ⟨plainId_quiet PySem.F.plain_max_loop _, max_loop0 hc hu (ds := d :: ds) (dm := dm) hIS hlI hlS _ 0 H F H F _ x v d c2 _ rfl (by simp) I3 (.refl sf) sq rs (hit1.at fun o e => (s3.2 J hIS).trans e) hc2 fI fS rx px hm fun x v F' H' s' a b c d => hQ x v F' H' s' a b c d⟩
@[irreducible] noncomputable def mmaxE (m : ML) (md : ME) : ME := fun ρ => (m ρ).bind fun ds => (md ρ).bind fun d0 => maxE ds d0
theorem mmaxE_some {m : ML} {md : ME} {ρ : Ro} {g : D} (h : mmaxE m md ρ = some g) : ∃ ds d0, m ρ = some ds /\ md ρ = some d0 /\ maxE ds d0 = some g := by
 unfold mmaxE at h
 cases h1 : m ρ with
 | none => rw [h1] at h; cases h
 | some d =>
  cases h2 : md ρ with
  | none => rw [h1, h2] at h; cases h
  | some e => rw [h1, h2] at h; exact ⟨d, e, rfl, rfl, h⟩
theorem mmaxE_ev {m : ML} {md : ME} {ρ : Ro} {ds : List D} {d0 : D} (h1 : m ρ = some ds) (h2 : md ρ = some d0) : mmaxE m md ρ = maxE ds d0 := by
 unfold mmaxE
 rw [h1, h2]; rfl
theorem pd_maxE {p kp2 pos : Pos} {e ed : Expr} {m : ML} {md : ME} (hc : X.calm = true) (hu : X.A.units + 64 < cLine) (hg : Gl X "max") (hm : X.mg "max" = none) (ha : PB X e m) (hd : PD X ed md)
  (hs : starEach (e :: []) X.env = (false, eval e X.env) :: starEach [] X.env := by rfl) :
  PD X (.Call (.Name "max" p) [e] [⟨some "default", ed, kp2⟩] pos) (mmaxE m md) := by
 intro pins s σ H Q I h
 obtain ⟨F0, H0, F, ρ, g, rl, em, q0⟩ := h
 obtain ⟨ds, d0, h1, h2, h3⟩ := mmaxE_some em
 refine wpAny_Call_Name_kw (ld_blt I hg hm PyProof.Rows.boot_max ?_ (by decide) (by decide))
 have A := pa_cons ha pa_nil hs pos pins s σ H (fun vs H1 => ∃ p xs F1, vs = [.ref p] /\ Ext F H F1 H1 /\ SqL X.K H1 p xs /\ Reps X.K F1 xs ds) I ⟨F0, H0, F, ρ, ds, rl, h1, fun p xs F1 H1 x1 s1 r1 => ⟨p, xs, F1, rfl, x1, s1, r1⟩⟩
 refine callWith_kw (thn A fun us s1 hpat => ?_) (by rw [hs]; rfl) (by rw [hs]; rfl)
 obtain ⟨vs, H1, I1, r1, p, xs, F1, ev, x1, sq, rs⟩ := hpat
 subst ev
 obtain ⟨u, rfl, ru⟩ := vals1 r1
 cases ru
 have B := pk_cons (nm := some "default") (kpos := kp2) hd pk_nil pos pins s1 σ H1 (fun vs H2 => ∃ y F2, vs = [y] /\ Ext F1 H1 F2 H2 /\ Rep X.K F2 y d0) I1 ⟨F0, H0, F1, ρ, d0, rl.go x1, h2, fun y F2 H2 x2 r2 => ⟨y, F2, rfl, x2, r2⟩⟩
 refine thn B fun us s2 hpat => ?_
 obtain ⟨vs, H2, I2, r2, y, F2, ev, x2, p0⟩ := hpat
 subst ev
 obtain ⟨u2, rfl, ru2⟩ := vals1 r2
 exact max_topD hc hu I2 x2.fh (x2.hh.seq sq) (rs.mono x2.ff) ru2 p0 h3 fun x v F' H' s' I' rx x3 px => ⟨x, H', I', rx, q0 x F' H' ((x1.trans x2).trans x3) px⟩
end
end L2
namespace L2
open PySem PySem.Spec PyProof.Rows PySem.Builtin PySem.Builtin.Str
section
variable {X : Cx} {a b c e o : Expr} {ma mb mo : ME} {pos : Pos}
end
end L2
namespace L2
open PySem PySem.Spec PyProof.Rows PySem.Builtin PySem.Builtin.Str
section
variable {X : Cx} {a b c e o : Expr} {ma mb mo : ME} {pos : Pos}
end
end L2
namespace L2
open PySem PySem.Spec PyProof.Rows
noncomputable def blkRoO (src : List (Option Nat)) (ρ : Ro) : Ro := src.map fun o => o.bind fun i => match ρ[i]? with | some (some (.sh d)) => some (.sh d) | some (some (.own ds)) => some (.own ds) | _ => none
@[irreducible] noncomputable def mcompO (src : List (Option Nat)) (mi : ML) (g : Tg) (c : MB) (elt : ME) : ML := fun ρ => (mi ρ).bind fun its => compD g c elt its (blkRoO src ρ) []
noncomputable def srcOk (src : List (Option Nat)) : Prop := ∀ i j k : Nat, src[i]? = some (some k) -> src[j]? = some (some k) -> i = j
theorem srcOk_of {src : List (Option Nat)} (h : ∀ i, i < src.length -> ∀ j, j < src.length -> src[i]? = src[j]? -> src[i]? = some none \/ i = j) : srcOk src := fun i j k hi hj => by
 have li := (List.getElem?_eq_some_iff.mp hi).1
 have lj := (List.getElem?_eq_some_iff.mp hj).1
 rcases h i li j lj (by rw [hi, hj]) with e | e
 ·rw [hi] at e; cases e
 ·exact e
theorem blkO_at {src : List (Option Nat)} {ρ : Ro} {i : Nat} {x : S} (e : (blkRoO src ρ)[i]? = some (some x)) : ∃ k, src[i]? = some (some k) /\ ρ[k]? = some (some x) /\ nob (some x) := by
 unfold blkRoO at e
 rw [List.getElem?_map] at e
 cases h : src[i]? with
 | none => rw [h] at e; cases e
 | some o =>
  rw [h] at e
  cases o with
  | none => cases e
  | some k =>
   simp only [Option.map_some, Option.bind_some] at e
   split at e
   ·rename_i d h'; cases e; exact ⟨k, rfl, h', True.intro⟩
   ·rename_i ds h'; cases e; exact ⟨k, rfl, h', True.intro⟩
   ·cases e
theorem blk0_at {src : List (Option Nat)} {σ : St} {i k : Nat} {v : V} (h : src[i]? = some (some k)) (hv : σ[k]? = some (some v)) : (blk0 src σ)[i]? = some (some v) := by
 unfold blk0
 rw [List.getElem?_map, h]
 simp only [Option.map_some, Option.bind_some, hv]; rfl
theorem blk0_back {src : List (Option Nat)} {σ : St} {i k : Nat} {v : V} (h : src[i]? = some (some k)) (hv : (blk0 src σ)[i]? = some (some v)) : σ[k]? = some (some v) := by
 unfold blk0 at hv
 rw [List.getElem?_map, h] at hv
 simp only [Option.map_some, Option.bind_some] at hv
 cases hk : σ[k]? with
 | none => rw [hk] at hv; cases hv
 | some o => rw [hk] at hv; simpa using hv
theorem Rl.blkO {K : PySem.W.Frag} {F0 H0 F H : Hp} {σ : St} {ρ : Ro} (r : Rl K F0 H0 F H σ ρ) {src : List (Option Nat)} (ok : srcOk src) {p : Addr} (hp : H p = none) : Rl K F (upd F p (.lst [])) F (upd H p (.lst [])) (blk0 src σ) (blkRoO src ρ) := by
 have hF : F p = none := r.fh.free hp
 refine ⟨⟨Same.refl F, r.fh.put2, r.fh.put hF, fun b e n => absurd e n, fun _ _ _ z => z⟩, by unfold blk0 blkRoO; simp, fun i d e => ?_, fun i ds e => ?_, fun i j q ds es hij e1 e2 s1 s2 => ?_, fun i q ds e => ?_, fun i j q ds es e => ?_, fun i j q q' ds es e => ?_⟩
 ·obtain ⟨k, h1, h2, _⟩ := blkO_at e
  obtain ⟨v, a, b⟩ := r.sh k d h2
  exact ⟨v, blk0_at h1 a, b⟩
 ·obtain ⟨k, h1, h2, _⟩ := blkO_at e
  obtain ⟨q, xs, a, b, c, d, z⟩ := r.own k ds h2
  have hq : q ≠ p := fun w => by rw [w, hp] at c; cases c
  exact ⟨q, xs, blk0_at h1 a, b, by rw [upd_ne hq]; exact c, d, by rw [upd_ne hq]; exact b⟩
 ·obtain ⟨k, h1, h2, _⟩ := blkO_at e1
  obtain ⟨l, h3, h4, _⟩ := blkO_at e2
  refine r.inj k l q ds es (fun w => ?_) h2 h4 (blk0_back h1 s1) (blk0_back h3 s2)
  subst w
  exact hij (ok i j k h1 h3)
 ·obtain ⟨k, h1, h2, n⟩ := blkO_at e; exact n.elim
 ·obtain ⟨k, h1, h2, n⟩ := blkO_at e; exact n.elim
 ·obtain ⟨k, h1, h2, n⟩ := blkO_at e; exact n.elim
theorem Rl.rebase {K : PySem.W.Frag} {F1 F H : Hp} {σ : St} {ρ : Ro} {p : Addr} {xs ys : List V} (r : Rl K F1 (upd F1 p (.lst xs)) F H σ ρ) (hF : F p = none) (hF1 : F1 p = none) : Rl K F1 (upd F1 p (.lst ys)) F (upd H p (.lst ys)) σ ρ := by
 have ne : ∀ q, upd F1 p (.lst xs) q = none -> q ≠ p := fun q z w => by rw [w, upd_same] at z; cases z
 refine ⟨⟨r.ext.ff, fun b u e => ?_, r.fh.put hF, fun b e n => ?_, r.ext.nf⟩, r.len, r.sh, fun i ds e => ?_, r.inj, fun i q ds e => ?_, r.obn, r.ob1⟩
 ·by_cases hb : b = p
  ·subst hb; rw [upd_same] at e ⊢; exact e
  ·rw [upd_ne hb] at e ⊢
   exact r.ext.hh b u (by rw [upd_ne hb]; exact e)
 ·have hb : b ≠ p := fun w => by rw [w, hF] at n; exact n rfl
  rw [upd_ne hb]; exact e
 ·obtain ⟨q, zs, a, b, c, d, z⟩ := r.own i ds e
  have hq := ne q z
  rw [upd_ne hq] at z
  exact ⟨q, zs, a, b, by rw [upd_ne hq]; exact c, d, by rw [upd_ne hq]; exact z⟩
 ·obtain ⟨a, b, z, zs, c, d⟩ := r.ob i q ds e
  have hq := ne q z
  rw [upd_ne hq] at z
  exact ⟨a, b, by rw [upd_ne hq]; exact z, zs, by rw [upd_ne hq]; exact c, d⟩
theorem Ext.acc {F H F' H' : Hp} {p : Addr} {o : HO} (x : Ext F H F' H') (hp : H p = none) (hF : F' p = none) : Ext F H F' (upd H' p o) := ⟨x.ff, x.hh.put hp, x.fh.put hF, x.new, x.nf⟩
theorem comp_tfO {K : PySem.W.Frag} {src : List (Option Nat)} {mi : ML} {g : Tg} {c : MB} {elt : ME} (so : srcOk src) {σ : St} {H : Hp} {Q : VK} (h : TF K (mcompO src mi g c elt) σ H Q) : tComp src (TId K mi) (TGd K g) (TC K c) (TD K elt) σ H Q := by
 obtain ⟨F0, H0, F, ρ, out, rl, e, q⟩ := h
 unfold mcompO at e
 cases h1 : mi ρ with
 | none => rw [h1] at e; cases e
 | some its =>
  rw [h1] at e
  have e : compD g c elt its (blkRoO src ρ) [] = some out := e
  refine ⟨F0, H0, F, ρ, its, rl, h1, fun J F1 H1 x1 I => ?_⟩
  intro p hp
  have rb := (rl.go x1).blkO so hp
  have hF1 : F1 p = none := x1.fh.free hp
  refine ⟨fun i m σ' H' => ∃ F' ρ' acc xs, Rl K F1 (upd F1 p (.lst xs)) F' H' σ' ρ' /\ Ext F1 H1 F' H' /\ H' p = some (.lst xs) /\ F' p = none /\ Reps K F' xs acc /\ i <= its.length /\ m = its.length - i /\ compD g c elt (its.drop i) ρ' acc = some out,
   ⟨_, F1, blkRoO src ρ, [], [], rb, (Ext.refl x1.fh).acc hp hF1, upd_same, hF1, .nil, Nat.zero_le _, rfl, e⟩, ?_⟩
  rintro i m σ' H' ⟨F', ρ', acc, xs, rl', xe, hH', hF', ra, hi', rfl, e'⟩
  by_cases hlt : i < its.length
  ·right
   have hd := List.getElem?_eq_getElem hlt
   refine ⟨I.go i F' H' xe.ff rl'.fh hlt, fun σ2 H2 => ∃ F2 ρ2 acc2 xs2, Rl K F1 (upd F1 p (.lst xs2)) F2 H2 σ2 ρ2 /\ Ext F1 H1 F2 H2 /\ H2 p = some (.lst xs2) /\ F2 p = none /\ Reps K F2 xs2 acc2 /\ compD g c elt (its.drop (i + 1)) ρ2 acc2 = some out, ?_, fun x H2 y => ?_⟩
   ·rintro σ2 H2 ⟨F2, ρ2, acc2, xs2, b1, b2, b3, b4, b5, b6⟩
    exact ⟨its.length - (i + 1), by omega, F2, ρ2, acc2, xs2, b1, b2, b3, b4, b5, hlt, rfl, b6⟩
   ·obtain ⟨F2, x2, r2⟩ := I.yld i F' H' x H2 _ xe.ff rl'.fh hd y
    rw [drop_get hd] at e'
    unfold compD at e'
    have pn : ∀ {F3 H3 : Hp}, Ext F' H' F3 H3 -> F3 p = none := fun {F3 H3} x3 => by
     cases qq : F3 p with
     | none => rfl
     | some o => have := x3.new p hF' (by rw [qq]; simp); rw [this] at hH'; cases hH'
    cases h2 : tgD g its[i] ρ' with
    | none => simp only [h2] at e'; cases e'
    | some ρ1 =>
     simp only [h2] at e'
     refine ⟨F1, _, F2, ρ', _, ρ1, rl'.go x2, r2, h2, fun F3 H3 σ3 rl3 x3 => ?_⟩
     have x23 := x2.trans x3
     cases h3 : c ρ1 with
     | none => simp only [h3] at e'; cases e'
     | some k =>
      refine ⟨F1, _, F3, ρ1, k, rl3, h3, fun F4 H4 x4 => ?_⟩
      have x24 := x23.trans x4
      cases k with
      | false =>
       simp only [h3] at e'
       exact iteF ⟨F4, ρ1, acc, xs, rl3.go x4, xe.trans x24, x24.hh _ _ hH', pn x24, ra.mono x24.ff, e'⟩
      | true =>
       simp only [h3] at e'
       refine iteT ?_
       cases h4 : elt ρ1 with
       | none => simp only [h4] at e'; cases e'
       | some d =>
        simp only [h4] at e'
        split at e'
        ·rename_i hz
         refine ⟨F1, _, F4, ρ1, d, rl3.go x4, h4, fun v F5 H5 x5 r5 => ?_⟩
         have x25 := x24.trans x5
         refine ⟨xs, x25.hh _ _ hH', by rw [ra.length]; exact hz, F5, ρ1, acc ++ [d], xs ++ [v], ((rl3.go x4).go x5).rebase (pn x25) hF1, (xe.trans x25).acc hp (pn x25), upd_same, pn x25, (ra.mono x25.ff).append (.cons r5 .nil), e'⟩
        ·cases e'
  ·left
   have hieq : i = its.length := by omega
   subst hieq
   rw [List.drop_length] at e'
   have e' : some acc = some out := e'
   cases e'
   exact ⟨I.stop F' H' xe.ff rl'.fh, q p xs F' H' (x1.trans xe) (x1.hh.free hp) hF' hH' ra⟩
section
variable {X : Cx} {a b c e o : Expr} {ma mb mo : ME} {pos : Pos} {st : Stmt}
theorem pf_compO {sc : Scope} {N : List Str} {src : List (Option Nat)} {tg elt iter : Expr} {ifs : List Expr} {mi : ML} {g : Tg} {cc : MB} {me : ME} (so : srcOk src) (B : Blk X sc N src) (hc : X.calm = true)
  (hi : PId X tg iter mi) (hg : ∀ C fp s H, PGd (blkCx X sc C N fp s H) tg g) (ht : ∀ C fp s H, PTsd (blkCx X sc C N fp s H) ifs cc) (he : ∀ C fp s H, PD (blkCx X sc C N fp s H) elt me)
  (hs : ∀ x, foldedSetIterable iter X.env x = pure x := by intro _; rfl) :
  PF X (.ListComp elt [⟨tg, iter, ifs, 0⟩] sc pos) (mcompO src mi g cc me) := (pe_comp (g := TGd X.K g) (tc := TC X.K cc) (te := TD X.K me) B hc hi (fun C fp s H => hg C fp s H) (fun C fp s H => ht C fp s H) (fun C fp s H => he C fp s H) hs).imp fun _ _ _ h => comp_tfO so h
end
end L2
namespace L2
open PySem PySem.Spec PyProof.Rows
section
variable {prog : Program} {w : World} {A : Around} {E : Value -> Shared -> Prop} {s : Shared} {l : Addr} {xs : Array (Int × Tok)}
end
section
variable {X : Cx} {a b c e o : Expr} {ma mb mo : ME} {pos : Pos} {st : Stmt}
end
section
variable {X : Cx} {a b c e : Expr} {na nb : MEm} {pos : Pos} {st : Stmt} {es : List Expr} {E : XK} {mf : MF} {m : MLm}
noncomputable abbrev MBm := Ro -> Option (Bool × Ro)
end
end L2
namespace L2
open PySem PySem.Spec PyProof.Rows
section
variable {X : Cx} {a b c e : Expr} {na nb : MEm} {pos : Pos} {st : Stmt} {es : List Expr} {m : MLm}
end
noncomputable def compDm (elt : MEm) : List D -> Ro -> List D -> Option (List D × Ro)
 | [], ρ, acc => some (acc, ρ)
 | d :: ds, ρ, acc => match elt (ρ.set 0 (some (.sh d))) with
  | some (x, ρ1) => if acc.length < sizeLine then compDm elt ds ρ1 (acc ++ [x]) else none
  | none => none
theorem Rl.rebaseB {K : PySem.W.Frag} {F1 F H B : Hp} {σ : St} {ρ : Ro} {p : Addr} {xs ys : List V} (r : Rl K F1 (upd B p (.lst xs)) F H σ ρ) (hF : F p = none) : Rl K F1 (upd B p (.lst ys)) F (upd H p (.lst ys)) σ ρ := by
 have ne : ∀ q, upd B p (.lst xs) q = none -> q ≠ p := fun q z w => by rw [w, upd_same] at z; cases z
 refine ⟨⟨r.ext.ff, fun b u e => ?_, r.fh.put hF, fun b e n => ?_, r.ext.nf⟩, r.len, r.sh, fun i ds e => ?_, r.inj, fun i q ds e => ?_, r.obn, r.ob1⟩
 ·by_cases hb : b = p
  ·subst hb; rw [upd_same] at e ⊢; exact e
  ·rw [upd_ne hb] at e ⊢
   exact r.ext.hh b u (by rw [upd_ne hb]; exact e)
 ·have hb : b ≠ p := fun w => by rw [w, hF] at n; exact n rfl
  have := r.ext.new b e n
  rw [upd_ne hb] at this ⊢; exact this
 ·obtain ⟨q, zs, a, b, c, d, z⟩ := r.own i ds e
  have hq := ne q z
  rw [upd_ne hq] at z
  exact ⟨q, zs, a, b, by rw [upd_ne hq]; exact c, d, by rw [upd_ne hq]; exact z⟩
 ·obtain ⟨a, b, z, zs, c, d⟩ := r.ob i q ds e
  have hq := ne q z
  rw [upd_ne hq] at z
  exact ⟨a, b, by rw [upd_ne hq]; exact z, zs, by rw [upd_ne hq]; exact c, d⟩
section
variable {X : Cx} {pos : Pos}
end
end L2
namespace L2
open PySem PySem.Spec PyProof.Rows
section
variable {X : Cx} {e : Expr} {na : MEm} {pos : Pos} {st : Stmt} {es : List Expr} {m : ML} {mf : MG} {E : XK}
noncomputable def numsD : List D -> Bool
 | [] => true
 | .int _ :: r => numsD r
 | _ => false
theorem reps_nums {K : PySem.W.Frag} {F F' : Hp} : ∀ {vs : List V} {ds : List D}, numsD ds = true -> Reps K F vs ds -> Reps K F' vs ds
 | _, [], _, .nil => .nil
 | _, d :: ds, h, .cons r rr => by
  cases r with
  | int k => exact .cons (.int k) (reps_nums h rr)
  | _ => cases h
noncomputable def NoL (K : PySem.W.Frag) : Prop := ∀ p o, List.lookup p K = some o -> o.cls ≠ .type "list"
noncomputable def noLb : PySem.W.Frag -> Bool
 | [] => true
 | (_, o) :: r => (match o.cls with | .type c => c != "list" | _ => true) && noLb r
theorem NoL.of : ∀ {K : PySem.W.Frag}, noLb K = true -> NoL K
 | [], _ => fun p o e => by cases e
 | (a, o') :: r, h => fun p o e z => by
  have h : ((match o'.cls with | .type c => c != "list" | _ => true) && noLb r) = true := h
  rw [Bool.and_eq_true] at h
  rw [List.lookup_cons] at e
  split at e
  ·cases e
   rw [z] at h
   exact absurd h.1 (by decide)
  ·exact NoL.of h.2 p o e z
open Classical in
end
end L2
namespace L2
open PySem PySem.Spec PyProof.Rows
section
variable {X : Cx}
end
end L2
namespace L2
open PySem PySem.Spec PyProof.Rows
section
variable {X : Cx} {e : Expr} {pos : Pos}
@[irreducible] noncomputable def many (m : ML) : ME := fun ρ => match m ρ with | some ds => (match intsD ds with | some ns => some (.bl (ns.any fun i => i != 0)) | none => none) | none => none
end
end L2
namespace L2
open PySem PySem.Spec PyProof.Rows
section
variable {X : Cx} {e : Expr} {ma : ME} {pos : Pos}
end
end L2
namespace L2
open PySem PySem.Spec PyProof.Rows
section
variable {X : Cx} {e : Expr} {ma : ME} {pos : Pos}
end
end L2
namespace L2
open PySem PySem.Spec PyProof.Rows
noncomputable def IsRev (h : Heap) (a l : Addr) (k : Int) : Prop := ∃ o, h.get? a = some o /\ o.cls = .type "list_reverseiterator" /\ o.data = .fields #[.ref l, rawInt k]
section
variable {prog : Program} {w : World} {A : Around} {E : Value -> Shared -> Prop} {s : Shared}
theorem IsRev.ty {a l : Addr} {k : Int} (h : IsRev s.heap a l k) : s.TypeIs (.ref a) "list_reverseiterator" := by
 obtain ⟨o, e, c, d⟩ := h
 exact ⟨o, e, c⟩
end
section
variable {X : Cx}
end
end L2
namespace L2
open PySem PySem.Spec PyProof.Rows
section
variable {X : Cx} {a : Expr} {na : MEm} {pos : Pos} {ca : MBm}
end
end L2
namespace L2
open PySem PySem.Spec PyProof.Rows
section
variable {X : Cx} {a b : Expr} {m : ML} {pos : Pos}
end
end L2
namespace L2
open PySem PySem.Spec PyProof.Rows PySem.W PySem.Builtin PySem.Builtin.ObjectAttr PySem.Builtin.Getset_descriptor
structure XCls (K : PySem.W.Frag) (C : Addr) : Prop where
 ga : findIn K (.ref C) "__getattribute__" = some (some (.builtin "BaseException.__getattribute__"))
 nog : findIn K (.ref C) "__getattr__" = some none
 cl : findIn K (.ref C) "__class__" = some (some (.builtin "object.__class__"))
 ob : mroIn K C (.type "object") = some true
 be : mroIn K C (.type "BaseException") = some true
section
variable {prog : Program} {w : World} {A : Around} {E : Value -> Shared -> Prop} {K : PySem.W.Frag} {x C : Addr} {ox : Obj} {h : Heap} {g : Array GenState} {d : Drawn} {t : Nat} {os : OsState}
theorem xc_get {tp : Value} {R : Result -> Shared -> Prop} (X : K.In h) (LT : ∀ M : Model, Looks M h (typeOf (.ref x)) (.ref C)) (hm : mroIn K C (.type "object") = some true)
  (hq : R (.ok (.ret (.ref C))) ⟨h, g, d, t, os⟩) : codeAny (model prog w) A (.call (.builtin "getset_descriptor.__get__") ⟨[.builtin "object.__class__", .ref x, tp], []⟩) R ⟨h, g, d, t, os⟩ := by
 have L0 := LT (model prog w)
 have L1 := looks_mroIn (M := model prog w) X hm
 refine codeAny_call_builtin F.slot_gs_get.plain F.entry_gs_get (F.slot_gs_get.check _ _ _ _ _ _ _ _ F.typeOf_object_class (F.args_gs_get _ _ tp) ?_)
 unfold Builtin.«getset_descriptor.__get__» descrGet
 rw [dga_obj]
 refine wpAny_bind (wpAny_pure ?_)
 unfold descrGetter; unfold descrCheckInstance; unfold descrNameAndClass isInstance
 simp only [KF.owner_class]
 repeat lk
 refine And.intro (Code.quiet_builtin _ (by decide +kernel)) (codeAny_builtin F.entry_object_class ?_)
 unfold Builtin.«object.__class__»; unfold shownTypeOf
 repeat lk
 exact hq
theorem xc_entry {tk : Tok} {Q : PySem.Fin -> Shared -> Prop} (Z : XCls K C) (X : K.In h) (LT : ∀ M : Model, Looks M h (typeOf (.ref x)) (.ref C)) (hq : Q (.done (.ret (.ref C))) ⟨h, g, d, t, os⟩) :
  wpAny (model prog w) A (Builtin.«object.__getattribute__» ⟨[.ref x, .str "__class__" tk], []⟩) Q E ⟨h, g, d, t, os⟩ := by
 have L0 := LT (model prog w)
 have L1 := looks_findIn (M := model prog w) X Z.cl
 have L2 : Looks (model prog w) h (typeOf (.builtin "object.__class__")) (.type "getset_descriptor") := Looks.of_pure F.typeOf_object_class
 have L3 : Looks (model prog w) h (typeLookup (.type "getset_descriptor") "__get__") (some (.builtin "getset_descriptor.__get__")) := Looks.of_pure F.slot_gs_get.lookup
 have L4 : Looks (model prog w) h (typeLookup (.type "getset_descriptor") "__set__") (some (.builtin "getset_descriptor.__set__")) := Looks.of_pure F.slot_gs_set.lookup
 repeat (first | with_reducible refine wpAny_call (xc_get X LT Z.ob ?_) | lk)
 exact hq
theorem xc_call {tk : Tok} {R : Result -> Shared -> Prop} (Z : XCls K C) (X : K.In h) (LT : ∀ M : Model, Looks M h (typeOf (.ref x)) (.ref C)) (hq : R (.ok (.ret (.ref C))) ⟨h, g, d, t, os⟩) :
  codeAny (model prog w) A (.call (.builtin "BaseException.__getattribute__") ⟨[.ref x, .str "__class__" tk], []⟩) R ⟨h, g, d, t, os⟩ := by
 have k1 : builtinKind "BaseException.__getattribute__" = some .slot := by decide +kernel
 have k2 : splitId "BaseException.__getattribute__" = some ("BaseException", "__getattribute__") := by decide +kernel
 have k3 := F.args_bexc_ga (.ref x) (.str "__class__" tk)
 have L0 := LT (model prog w)
 have L1 := looks_mroIn (M := model prog w) X Z.be
 refine codeAny_call_builtin (by decide +kernel) F.entry_bexc_ga ?_
 simp only [checkBuiltinCall, k1, k2]
 refine wpAny_bind ?_
 unfold isInstance
 refine wpAny_bind (L0.at (L1.at ?_))
 rw [if_neg (by decide)]
 exact wpAny_of_eq (a := ()) k3 (xc_entry Z X LT hq)
theorem xc_class {Q : Option Value -> Shared -> Prop} (Z : XCls K C) (X : K.In h) (LT : ∀ M : Model, Looks M h (typeOf (.ref x)) (.ref C)) (hq : Q (some (.ref C)) ⟨h, g, d, t + 1, os⟩) :
  wpAny (model prog w) A (getAttr? (.ref x) "__class__") Q E ⟨h, g, d, t, os⟩ := by
 have L0 := LT (model prog w)
 have L1 := looks_findIn (M := model prog w) X Z.ga
 have L2 := looks_findIn (M := model prog w) X Z.nog
 unfold getAttr? getAttrBy? getAttrBy
 refine wpAny_bind (wpAny_mkText (wpAny_bind (wpAny_attempt (wpAny_holding (wpAny_bind (L0.at (wpAny_bind (L1.at ?_))))))))
 dsimp only
 rw [if_neg (by intro z; rw [Bool.and_eq_true] at z; exact absurd z.2 (by decide))]
 unfold getAttrByItsOwn hookBefore
 rw [if_pos (by rfl)]
 refine wpAny_bind (L2.at (wpAny_bind (wpAny_attempt (wpAny_holding ?_))))
 unfold callGetattribute
 rw [if_neg (by decide)]
 unfold boundAndCalled
 have b1 : bindSpecial (.builtin "BaseException.__getattribute__") (.ref x) = pure (.builtin "BaseException.__getattribute__", [.ref x]) := F.attr_ValueError.ga.bind _
 refine wpAny_bind (wpAny_of_eq b1 (wpAny_call (xc_call Z X LT ?_)))
 exact handed_on rfl (wpAny_pure hq)
theorem XAt.looks {a C : Addr} (p : XAt a C h) (M : Model) : Looks M h (typeOf (.ref a)) (.ref C) := by
 obtain ⟨o, vs, h1, h2, _⟩ := p
 exact h2 ▸ (Looks.ld h1).andThen .now
theorem kitx_exc {a C : Addr} (Z : XCls K C) : KitX K (.ref a) (.ref C) (XAt a C) where
 ty := fun M h _ p => p.looks M
 it := fun M h X _ => by
  have q := Z.ob
  unfold mroIn at q
  cases hc : clsIn K C with
  | none => rw [hc] at q; cases q
  | some cd =>
   unfold clsIn at hc
   split at hc
   ·rename_i c' d' cd' sl' ho
    intro A1 Q1 E1 s1 kk qq
    unfold isType loadHead
    exact wpAny_bind (wpAny_loadPart (kk _ _ (X C _ ho)) (wpAny_pure qq))
   ·cases hc
 ne := fun h tp dd its n sl X htp => by
  refine Bool.eq_false_iff.mpr fun z => ?_
  have e : C = tp := Value.ref.inj (beq_iff_eq.mp z)
  subst e
  have q := Z.ob
  unfold mroIn at q
  cases hc : clsIn K C with
  | none => rw [hc] at q; cases q
  | some cd =>
   unfold clsIn at hc
   split at hc
   ·rename_i c' d' cd' sl' ho
    cases (X _ _ ho).symm.trans htp
   ·cases hc
 ca := fun {prog w A E Q s} X p hq => by
  obtain ⟨hh, g, d, t, os⟩ := s
  exact xc_class Z X p.looks hq
end
end L2
namespace L2
open PySem PySem.Spec PyProof.Rows
structure Flown (P : Program) (w : World) (outer : List Env) (H : Hp) (s : Shared) (H' : Hp) (B h' : Heap) : Prop where
 un : Un (frs outer) [] H H' s.heap h'
 ok : HOk P w H' h'
 st : B.StaysIn h'
 trk : ∀ b o, H' b = some o -> ∃ ob, B.get? b = some ob
 old : ∀ b o, s.heap.get? b = some o -> b ∉ frs outer -> ∃ ob, B.get? b = some ob
noncomputable def CXx (P : Program) (w : World) : CXT := fun outer H s E ev s' => ∃ (e C : Addr) (a0 : Value) (H' : Hp) (B : Heap), ev = .ref e /\ s'.os = s.os /\ AllBare s'.gens /\ Flown P w outer H s H' B s'.heap /\
 Heap.FlyingW B outer e (.ref C) a0 s'.heap /\ E (.ref C) none H'
section
variable {P : Program} {w : World} {outer : List Env} {H H' : Hp} {s : Shared} {B h1 h2 base : Heap}
theorem Flown.on (f : Flown P w outer H s H' B h1) (fr : h1.FunFrames base outer) (st : B.StaysIn h2) (up : h1.UpToSlots h2) : Flown P w outer H s H' B h2 := by
 have same : ∀ b o, h1.get? b = some o -> (∃ ob, B.get? b = some ob) -> h2.get? b = some o := fun b o e hpat => by
  obtain ⟨ob, eb⟩ := hpat
  have := f.st b ob eb
  rw [e] at this; cases this
  exact st b o eb
 have fslot : ∀ b o, b ∈ frs outer -> h1.get? b = some o -> ∃ sl, h2.get? b = some { o with slots := sl } := fun b o hb e => by
  obtain ⟨_, o', e', hd⟩ := fr.mem hb
  rw [e] at e'; cases e'
  exact up b o e hd
 refine ⟨⟨fun b o e n hb hx => same b o (f.un.keep b o e n hb hx) (f.old b o e hb), fun b o e n hb hx => ?_, f.un.free, fun b o e hx => ?_, f.un.tups, f.un.frzs, f.un.tbls⟩, fun b u e => ?_, st, f.trk, f.old⟩
 ·obtain ⟨sl, e1⟩ := f.un.slot b o e n hb hx
  obtain ⟨sl2, e2⟩ := fslot b _ hb e1
  exact ⟨sl2, e2⟩
 ·by_cases hb : b ∈ frs outer
  ·obtain ⟨o1, e1⟩ := f.un.there b o e hx
   obtain ⟨sl2, e2⟩ := fslot b _ hb e1
   exact ⟨_, e2⟩
  ·obtain ⟨ob, eb⟩ := f.old b o e hb
   exact ⟨ob, st b ob eb⟩
 ·refine (f.ok b u e).stay (fun c v hc q => same c v q ?_) (fun _ q => q) fun _ _ q => q
  rcases hc with z | z
  ·rw [z]; exact f.trk b u e
  ·exact f.trk c _ z
end
structure Top (X : Cx) : Prop where
 stk : X.stack = X.env :: X.outer
 frm : X.env.frame = some X.env.locals
 ex : X.ex = []
section
variable {X : Cx} {pins : List (Addr × Obj)} {σ : St} {H H' : Hp} {s : Shared} {B h1 : Heap}
theorem Flown.inv {s' : Shared} (I : Inv X pins σ H s) (f : Flown X.prog X.w X.stack H s H' B s'.heap) (os : s'.os = s.os) (bare : AllBare s'.gens) : Inv X pins σ H' s' :=
 I.call' (ch := []) os f.un f.ok bare fun b z => absurd z (by simp)
theorem Flown.out {s' : Shared} (T : Top X) (I : Inv X pins σ H s) (f : Flown X.prog X.w X.stack H s H' B s'.heap) (os : s'.os = s.os) (bare : AllBare s'.gens) : Flown X.prog X.w X.outer X.H₀ X.s₀ H' B s'.heap := by
 have I' := f.inv I os bare
 refine ⟨by have := I'.base; rw [T.ex] at this; exact this, f.ok, f.st, f.trk, fun b o e hb => ?_⟩
 obtain ⟨o1, e1⟩ := I.base.there b o e (by rw [T.ex]; simp)
 refine f.old b o1 e1 fun z => ?_
 rcases List.mem_cons.mp (I.stkSub b z) with z | z
 ·exact absurd (Nat.lt_of_lt_of_le (Heap.lt_size e) I.ok.above) (by rw [z]; exact Nat.lt_irrefl _)
 ·exact hb z
end
theorem ObjOk.there {P : Program} {w : World} {H : Hp} {h : Heap} {a : Addr} {o : HO} (x : ObjOk P w H h a o) : ∃ ob, h.get? a = some ob := by
 cases o with
 | lst xs => obtain ⟨_, _, _, _, e⟩ := x; exact ⟨_, e⟩
 | tup xs => obtain ⟨_, _, _, ⟨_, e, _⟩⟩ := x; exact ⟨_, e⟩
 | dK kvs => obtain ⟨_, _, _, _, o, _, _, e, _⟩ := x; exact ⟨_, e⟩
 | dT kvs => obtain ⟨_, _, _, _, o, _, _, e, _⟩ := x; exact ⟨_, e⟩
 | set S n => obtain ⟨o, _, _, _, e, _⟩ := x; exact ⟨_, e⟩
 | ins C dx fs => obtain ⟨_, _, _, e, _⟩ := x; exact ⟨_, e⟩
 | own y => exact x
 | xd fs => obtain ⟨_, ⟨_, _, _, e, _⟩, _⟩ := x; exact ⟨_, e⟩
 | rng lo hi => obtain ⟨_, _, _, e⟩ := x; exact ⟨_, e⟩
 | frz ob u => exact ⟨_, x.1⟩
 | tbl ps => exact ⟨_, show h.get? a = some _ from x⟩
 | met f y => exact ⟨_, show h.get? a = some _ from x⟩
 | ext φ => exact x.2.1
noncomputable abbrev bmV : List Value := [.type "ValueError", .type "Exception", .type "BaseException", .type "object"]
theorem xobj {K : PySem.W.Frag} {h : Heap} {C : Addr} {bmB : List Value} {newId : String} (X : K.In h) (q : PySem.W.excIn K C bmB newId = true) :
  ∃ bm N nm qn bs hdct sn sub ab col dd k0 k1 k2 k3 k5 mN, h.get? C = some (excClassObj nm qn C N bs bm hdct sn sub ab col dd k0 k1 k2 k3 k5 newId) /\ h.Ns N mN /\ mN "__init__" = none /\ OwnTail h bmB bm := by
 unfold PySem.W.excIn at q
 split at q
 ·rename_i d1 cd sl ho
  split at q
  ·rename_i C1 bm k0 k1 k2 k3 n1 k5 hm hs
   simp only [beq_iff_eq, Bool.not_eq_true', Bool.and_eq_true] at q
   obtain ⟨⟨⟨⟨⟨y1, y2⟩, y3⟩, y4⟩, y5⟩, y6⟩ := q
   subst y1 y2
   obtain ⟨a1, a2, a3, a4, a5, a6, a7, a8, a9, a10, a11⟩ := cd
   dsimp only at hm y3 y5 y6
   subst hm y3
   obtain ⟨l⟩ := sl
   have hl : l = [k0, k1, k2, k3, some (.builtin n1), k5] := hs
   subst hl
   exact ⟨bm, _, _, _, _, _, _, _, _, _, _, k0, k1, k2, k3, k5, _, X _ _ ho, .of_isNs (PySem.W.isNs_of_in X y5), PySem.W.nsMap_none_of_in X y5 y6, PySem.W.tail_of_in X y4⟩
  ·cases q
 ·cases q
noncomputable def XC (K : PySem.W.Frag) (c : Str) (C : Addr) : Prop := PySem.W.nsIn K mainGlobals c = some (some (.ref C)) /\ xName K C = some c
noncomputable def RXp (X : Cx) (pins : List (Addr × Obj)) (W : Str -> St -> Hp -> Prop) (ev : Value) (s3 : Shared) : Prop :=
 ∃ (e C : Addr) (a0 : Value) (σ' : St) (H1 : Hp) (s1 : Shared) (H' : Hp) (B : Heap) (c : Str), ev = .ref e /\ Inv X pins σ' H1 s1 /\ s3.os = s1.os /\ AllBare s3.gens /\ Flown X.prog X.w X.stack H1 s1 H' B s3.heap /\
  Heap.FlyingW B X.stack e (.ref C) a0 s3.heap /\ XC X.K c C /\ W c σ' H'
noncomputable def RX (X : Cx) (pins : List (Addr × Obj)) (W : Str -> St -> Hp -> Prop) (ev : Value) (s' : Shared) : Prop :=
 wpAny (model X.prog X.w) X.A (noteFrame ev X.env) (fun _ s2 => wpAny (model X.prog X.w) X.A (setFlight ev none) (fun _ s3 => RXp X pins W ev s3) noE s2) noE s'
theorem passesOwn_RX {X : Cx} {pins : List (Addr × Obj)} {W : Str -> St -> Hp -> Prop} : PassesOwn (model X.prog X.w) X.A X.env (RX X pins W) := PassesOwn.looking
section
variable {X : Cx} {pins : List (Addr × Obj)} {σ : St} {H : Hp} {s : Shared} {W : Str -> St -> Hp -> Prop}
theorem rx_call {E : XK} {ev : Value} {s' : Shared} (T : Top X) (I : Inv X pins σ H s) (h : CXx X.prog X.w X.stack H s E ev s') (hE : ∀ v o H', E v o H' -> ∃ c C, v = .ref C /\ XC X.K c C /\ W c σ H') : RX X pins W ev s' := by
 obtain ⟨e, C, a0, H', B, rfl, os, bare, f, fl, q⟩ := h
 obtain ⟨c, C', z, xc, w⟩ := hE _ _ _ q
 cases z
 have fr : X.A.frames = some (X.env :: X.outer) := by rw [<- T.stk]; exact I.ok.frames
 have fl0 := fl
 rw [T.stk] at fl
 refine wpAny_looks_onW fr T.frm fl fun h1 hh up => ?_
 have f1 := f.on fl0.2.2.1 hh.1 up
 refine wpAny_landsW hh fun h2 fl2 up2 => ?_
 rw [<- T.stk] at fl2 hh
 exact ⟨e, C, a0, σ, H, s, H', B, c, rfl, I, os, bare, f1.on hh.2.2.1 fl2.1 up2, fl2, xc, w⟩
theorem rx_made {e C : Addr} {c : Str} {us : List Value} {h1 : Heap} (T : Top X) (I : Inv X pins σ H s) (hm : Heap.MadeExcOf s.heap h1 e (.ref C) us) (xc : XC X.K c C) (q : W c σ H) : RX X pins W (.ref e) { s with heap := h1 } := by
 have fr : X.A.frames = some (X.env :: X.outer) := by rw [<- T.stk]; exact I.ok.frames
 have hin : ∀ env ∈ X.stack, ∀ a, env.frame = some a -> a ∈ frs X.stack := fun env he a ha => List.mem_filterMap.mpr ⟨env, he, ha⟩
 have ff := PySem.W.funFrames_hide I.stack hin
 have st0 : (PySem.W.hideAll s.heap (frs X.stack)).StaysIn s.heap := fun b o z => PySem.W.of_hideAll _ z
 have f0 : Flown X.prog X.w X.stack H s H (PySem.W.hideAll s.heap (frs X.stack)) s.heap :=
  ⟨Un.refl, I.hok, st0, fun b o z => (by
   obtain ⟨ob, eb⟩ := (I.hok b o z).there
   exact ⟨ob, PySem.W.hideAll_get _ eb fun y => by rw [I.stkFree b y] at z; cases z⟩), fun b o z hb => ⟨o, PySem.W.hideAll_get _ z hb⟩⟩
 obtain ⟨t, he, htn, ht⟩ := hm.there
 have ff' : s.heap.FunFrames (PySem.W.hideAll s.heap (frs X.stack)) (X.env :: X.outer) := by rw [<- T.stk]; exact ff
 have en : (PySem.W.hideAll s.heap (frs X.stack)).get? e = none := by
  cases z : (PySem.W.hideAll s.heap (frs X.stack)).get? e with
  | none => rfl
  | some o => have := st0 e o z; rw [hm.new] at this; cases this
 have key : wpAny (model X.prog X.w) X.A (noteFrame (.ref e) X.env) (fun _ s2 => wpAny (model X.prog X.w) X.A (setFlight (.ref e) none) (fun _ s3 => RXp X pins W (.ref e) s3) noE s2) noE { s with heap := h1 } := by
  unfold noteFrame
  simp only [T.frm]
  refine wpAny_bind (wpAny_field (s := { s with heap := h1 }) (x := Value.none) he rfl (by rfl) ?_)
  rw [if_neg (by decide)]
  refine wpAny_newEntryW (s := { s with heap := h1 }) (a0 := .ref t) fr (ff'.of_keeps fun b o z _ => ⟨o, hm.keeps b o z, rfl⟩) T.frm he (fun b o z => hm.keeps b o (st0 b o z)) en rfl (by simp) (by rfl) fun h2 hL => ?_
  obtain ⟨k1, k2, k3, k4⟩ := hL
  rw [<- T.stk] at k2
  exact ⟨e, C, .ref t, σ, H, s, H, _, c, rfl, I, rfl, I.bare, f0.on I.stack k1 ((Heap.UpToSlots.of_keeps hm.keeps).trans k4), ⟨k1, en, k2, k3⟩, xc, q⟩
 exact key
theorem rx_leaves {E : XK} {ev : Value} {s' : Shared} (T : Top X) (h : RX X pins (fun c _ H' => ∀ C, XC X.K c C -> E (.ref C) none H') ev s') :
  wpAny (model X.prog X.w) X.A (leaving X.env ev) (fun _ s'' => CXx X.prog X.w X.outer X.H₀ X.s₀ E ev s'') (fun e' s'' => CXx X.prog X.w X.outer X.H₀ X.s₀ E e' s'') s' := by
 unfold leaving
 refine wpAny_bind (wpAny_mono h (fun _ s2 h2 => wpAny_mono h2 (fun _ s3 h3 => ?_) fun _ _ z => z.elim) fun _ _ z => z.elim)
 obtain ⟨e, C, a0, σ', H1, s1, H', B, c, rfl, I, os, bare, f, fl, xc, q⟩ := h3
 obtain ⟨l1, l2, l3, l4⟩ := fl
 rw [T.stk] at l3
 exact ⟨e, C, a0, H', B, rfl, by rw [os]; exact I.os, bare, f.out T I os bare, ⟨l1, l2, l3.2.2, l4⟩, q C xc⟩
end
noncomputable abbrev Cx.bear (X : Cx) (pins : List (Addr × Obj)) (E : Value -> Shared -> Prop) : Cx := { X with pn := X.pn ++ pins, xe := E }
section
variable {X : Cx} {pins pins' : List (Addr × Obj)} {σ : St} {H : Hp} {s : Shared} {E : Value -> Shared -> Prop}
theorem Cx.Ok.bear (ok : X.Ok) : (X.bear pins E).Ok := ⟨ok.mod, ok.kind, ok.glob, ok.blt, ok.above, ok.inj, ok.has, ok.cab, ok.hd, ok.frames, ok.stk, ok.exf, ok.bs, ok.bsz, ok.noex, ok.exfs, ok.funs, ok.frf⟩
theorem Cx.Ok.unbear (ok : (X.bear pins E).Ok) : X.Ok := ⟨ok.mod, ok.kind, ok.glob, ok.blt, ok.above, ok.inj, ok.has, ok.cab, ok.hd, ok.frames, ok.stk, ok.exf, ok.bs, ok.bsz, ok.noex, ok.exfs, ok.funs, ok.frf⟩
theorem Inv.bear (I : Inv X (pins ++ pins') σ H s) : Inv (X.bear pins E) pins' σ H s := ⟨I.ok.bear, I.os, I.bare, I.base, I.loc, I.cell, I.free, I.freeC, fun p hp => I.pin p (by rw [<- List.append_assoc]; exact hp), I.hok, I.len⟩
theorem Inv.unbear (I : Inv (X.bear pins E) pins' σ H s) : Inv X (pins ++ pins') σ H s := ⟨I.ok.unbear, I.os, I.bare, I.base, I.loc, I.cell, I.free, I.freeC, fun p hp => I.pin p (by rw [<- List.append_assoc] at hp; exact hp), I.hok, I.len⟩
theorem Inv.fewer (I : Inv X (pins ++ pins') σ H s) : Inv X pins σ H s := ⟨I.ok, I.os, I.bare, I.base, I.loc, I.cell, I.free, I.freeC, fun p hp => I.pin p (by rw [<- List.append_assoc]; exact List.mem_append_left _ hp), I.hok, I.len⟩
theorem SP.bear {D : Ends} {f : Flow} {s' : Shared} (h : SP X (pins ++ pins') D f s') : SP (X.bear pins E) pins' D f s' := by
 cases f with
 | next => obtain ⟨σ', H', I, q⟩ := h; exact ⟨σ', H', I.bear, q⟩
 | brk => obtain ⟨σ', H', I, q⟩ := h; exact ⟨σ', H', I.bear, q⟩
 | cont => obtain ⟨σ', H', I, q⟩ := h; exact ⟨σ', H', I.bear, q⟩
 | ret u => obtain ⟨v, σ', H', I, r, q⟩ := h; exact ⟨v, σ', H', I.bear, r, q⟩
theorem SP.unbear {D : Ends} {f : Flow} {s' : Shared} (h : SP (X.bear pins E) pins' D f s') : SP X (pins ++ pins') D f s' := by
 cases f with
 | next => obtain ⟨σ', H', I, q⟩ := h; exact ⟨σ', H', I.unbear, q⟩
 | brk => obtain ⟨σ', H', I, q⟩ := h; exact ⟨σ', H', I.unbear, q⟩
 | cont => obtain ⟨σ', H', I, q⟩ := h; exact ⟨σ', H', I.unbear, q⟩
 | ret u => obtain ⟨v, σ', H', I, r, q⟩ := h; exact ⟨v, σ', H', I.unbear, r, q⟩
variable (nx : X.xe = noE)
include nx
theorem PE.bear {e : Expr} {t : TE} (h : PE X e t) : PE (X.bear pins E) e t := fun pins' s σ H Q I hw =>
 wpAny_mono (h _ s σ H Q I.unbear hw) (fun _ _ ⟨v, H', I', r, q⟩ => ⟨v, H', I'.bear, r, q⟩) fun _ _ z => by rw [nx] at z; exact z.elim
theorem PT.bear {e : Expr} {t : TT} (h : PT X e t) : PT (X.bear pins E) e t := fun pins' s σ H Q I hw =>
 wpAny_mono (h _ s σ H Q I.unbear hw) (fun _ _ ⟨H', I', q⟩ => ⟨H', I'.bear, q⟩) fun _ _ z => by rw [nx] at z; exact z.elim
theorem PA.bear {es : List Expr} {t : TA} (h : PA X es t) : PA (X.bear pins E) es t := fun pos pins' s σ H Q I hw =>
 wpAny_mono (h pos _ s σ H Q I.unbear hw) (fun _ _ ⟨v, H', I', r, q⟩ => ⟨v, H', I'.bear, r, q⟩) fun _ _ z => by rw [nx] at z; exact z.elim
theorem PS.bear {st : Stmt} {t : TS} (h : PS X st t) : PS (X.bear pins E) st t := fun pins' s σ H D I hw =>
 wpAny_mono (h _ s σ H D I.unbear hw) (fun _ _ q => q.bear) fun _ _ z => by rw [nx] at z; exact z.elim
theorem PSs.bear {st : List Stmt} {t : TS} (h : PSs X st t) : PSs (X.bear pins E) st t := fun pins' s σ H D I hw =>
 wpAny_mono (h _ s σ H D I.unbear hw) (fun _ _ q => q.bear) fun _ _ z => by rw [nx] at z; exact z.elim
end
end L2
namespace L2
open PySem PySem.Spec PyProof.Rows
noncomputable abbrev MXe := Ro -> Option Str
noncomputable abbrev MXs := Ro -> Option (Str × Ro)
noncomputable abbrev WX := Str -> St -> Hp -> Prop
noncomputable def TXe (K : PySem.W.Frag) (x : MXe) (W : WX) : St -> Hp -> Prop := fun σ H => ∃ F0 H0 F ρ c, Rl K F0 H0 F H σ ρ /\ x ρ = some c /\ ∀ F' H', Ext F H F' H' -> W c σ H'
noncomputable def TXs (K : PySem.W.Frag) (x : MXs) (W : WX) : St -> Hp -> Prop := fun σ H => ∃ F0 H0 F ρ c ρ', Rl K F0 H0 F H σ ρ /\ x ρ = some (c, ρ') /\ ∀ F' H' σ', Rl K F0 H0 F' H' σ' ρ' -> Same F F' -> W c σ' H'
noncomputable abbrev Cx.rx (X : Cx) (pins : List (Addr × Obj)) (W : WX) : Cx := X.bear pins (RX X pins W)
noncomputable def PEX (X : Cx) (e : Expr) (x : MXe) : Prop := ∀ pins W, PE (X.rx pins W) e fun σ H _ => TXe X.K x W σ H
noncomputable def PSX (X : Cx) (st : Stmt) (x : MXs) : Prop := ∀ pins W, PS (X.rx pins W) st fun _ σ H => TXs X.K x W σ H
noncomputable def PSsX (X : Cx) (st : List Stmt) (x : MXs) : Prop := ∀ pins W, PSs (X.rx pins W) st fun _ σ H => TXs X.K x W σ H
noncomputable def xE (x : MXe) : MXs := fun ρ => (x ρ).map fun c => (c, ρ)
theorem xE_e {K : PySem.W.Frag} {x : MXe} {W : WX} {σ : St} {H : Hp} (h : TXs K (xE x) W σ H) : TXe K x W σ H := by
 obtain ⟨F0, H0, F, ρ, c, ρ', rl, e, w⟩ := h
 unfold xE at e
 cases h1 : x ρ with
 | none => rw [h1] at e; cases e
 | some c' =>
  rw [h1] at e; cases e
  exact ⟨F0, H0, F, ρ, c, rl, h1, fun F' H' x1 => w F' H' σ (rl.go x1) x1.ff⟩
section
variable {X : Cx} {st : Stmt} {rest : List Stmt} {e c : Expr} {pos : Pos}
noncomputable def xnone : MXs := fun _ => none
theorem pssx_none : PSsX X rest xnone := fun _ _ _ _ _ _ _ _ hpat => by obtain ⟨_, _, _, _, _, _, _, z, _⟩ := hpat; cases z
theorem PS.or {t u : TS} (h : PS X st t) (k : PS X st u) : PS X st fun D σ H => t D σ H \/ u D σ H := fun pins s σ H D I q => q.elim (fun z => h pins s σ H D I z) fun z => k pins s σ H D I z
theorem PSs.or {t u : TS} (h : PSs X rest t) (k : PSs X rest u) : PSs X rest fun D σ H => t D σ H \/ u D σ H := fun pins s σ H D I q => q.elim (fun z => h pins s σ H D I z) fun z => k pins s σ H D I z
noncomputable def xseq (m : MS) (x1 x2 : MXs) : MXs := fun ρ => match m ρ with | some (.nx ρ') => x2 ρ' | some _ => none | none => x1 ρ
theorem pssx_cons {m : MS} {x1 x2 : MXs} (nx : X.xe = noE) (h : PSd X st m) (h1 : PSX X st x1) (h2 : PSsX X rest x2) : PSsX X (st :: rest) (xseq m x1 x2) := fun pins W =>
 (pss_cons (((PS.bear nx h).or (h1 pins W))) (h2 pins W)).imp fun D σ H hpat => by
  obtain ⟨F0, H0, F, ρ, c, ρ', rl, e, w⟩ := hpat
  unfold xseq at e
  cases h : m ρ with
  | none => rw [h] at e; exact .inr ⟨F0, H0, F, ρ, c, ρ', rl, e, w⟩
  | some o =>
   rw [h] at e
   cases o with
   | nx ρ1 => exact .inl ⟨F0, H0, F, ρ, _, rl, h, fun F1 H1 σ1 rl1 sf => ⟨F0, H0, F1, ρ1, c, ρ', rl1, e, fun F' H' σ' rl' sf' => w F' H' σ' rl' (sf.trans sf')⟩⟩
   | _ => cases e
theorem pssx_head {x : MXs} (h : PSX X st x) : PSsX X (st :: rest) x := fun pins W => (pss_cons (h pins W) (pssx_none pins W)).imp fun _ _ _ q => q
theorem pssx_one {x : MXs} (h : PSX X st x) : PSsX X [st] x := fun pins W => pss_one (h pins W)
noncomputable def xif (c : MB) (x y : MXs) : MXs := fun ρ => match c ρ with | some true => x ρ | some false => y ρ | none => none
theorem psx_if {ca : MB} {a b : List Stmt} {xa xb : MXs} (nx : X.xe = noE) (hc : PC' X c ca) (ha : PSsX X a xa) (hb : PSsX X b xb) : PSX X (.If c a b pos) (xif ca xa xb) := fun pins W =>
 (ps_if (PT.bear nx hc) (ha pins W) (hb pins W)).imp fun D σ H hpat => by
  obtain ⟨F0, H0, F, ρ, c, ρ', rl, e, w⟩ := hpat
  unfold xif at e
  split at e
  ·rename_i h1
   exact ⟨F0, H0, F, ρ, _, rl, h1, fun F1 H1 x1 => iteT ⟨F0, H0, F1, ρ, c, ρ', rl.go x1, e, fun F' H' σ' rl' sf => w F' H' σ' rl' (x1.ff.trans sf)⟩⟩
  ·rename_i h1
   exact ⟨F0, H0, F, ρ, _, rl, h1, fun F1 H1 x1 => iteF ⟨F0, H0, F1, ρ, c, ρ', rl.go x1, e, fun F' H' σ' rl' sf => w F' H' σ' rl' (x1.ff.trans sf)⟩⟩
  ·cases e
theorem psx_expr {x : MXe} (h : PEX X e x) (hs : swapsWith e none pos.line X.env = pure false := by rfl) : PSX X (.Expr e pos) (xE x) := fun pins W => (ps_expr (h pins W) hs).imp fun _ _ _ q => xE_e q
noncomputable abbrev MFX := List D -> Option Str
noncomputable def spX (K : PySem.W.Frag) (n : Nat) (x : MFX) : Sp := fun vs H _ E => vs.length = n /\ ∃ F ds c, Same F H /\ Reps K F vs ds /\ x ds = some c /\ ∀ C F' H', XC K c C -> Ext F H F' H' -> E (.ref C) none H'
@[irreducible] noncomputable def xcall (x : MFX) (m : ML) : MXe := fun ρ => (m ρ).bind x
theorem pex_call {k n : Nat} {f : Addr} {fd : FuncData} {ps : List Str} {xf : MFX} {m : ML} {x : Str} {p : Pos} {es : List Expr} (nx : X.xe = noE) (T : Top X) (F : FnOk X.prog X.w X.K X.mg X.base (CXx X.prog X.w) k f fd ps (spX X.K n xf)) (hr : Room k X.A) (hg : Gl X x) (hm : X.mg x = some (.ref f))
  (hk : PySem.W.keepIn X.K (.ref f) = true) (hb : Binds X.K fd ps []) (hl : (e :: es).length = n) (ha : PAs X (e :: es) m) (hm2 : ∀ ρ ds, m ρ = some ds -> ds.length = (e :: es).length)
  (hdb : (x == ("__debug__" : Str)) = false := by decide) (he : starEach (e :: es) X.env = (false, eval e X.env) :: starEach es X.env := by rfl) (hpl : (backTo pos (starEach es X.env)).any (·.1) = false := by rfl) :
  PEX X (.Call (.Name x p) (e :: es) [] pos) (xcall xf m) := by
 intro pins W pins' s σ H Q I h
 obtain ⟨F0, H0, F1, ρ, c, rl, e1, w⟩ := h
 unfold xcall at e1
 cases h1 : m ρ with
 | none => rw [h1] at e1; cases e1
 | some ds =>
  rw [h1] at e1
  have e1 : xf ds = some c := e1
  have ha' : PA (X.rx pins W) (e :: es) (TAs X.K m) := PA.bear nx ha
  refine wpAny_Call_Name_kw (ld_glob I hg hm ?_ hdb)
  refine PySem.W.callWith_K (h₀ := X.base) I.ok.mod.kin hk (thn (ha' pos pins' s σ H (fun vs H1 => vs.length = n /\ ∃ F2, Ext F1 H F2 H1 /\ Reps X.K F2 vs ds) I ⟨F0, H0, F1, ρ, ds, rl, h1, fun vs F2 H2 x2 r2 => ⟨by rw [r2.length, hm2 ρ ds h1, hl], F2, x2, r2⟩⟩) fun us s1 ⟨vs, H1, I1, r, hn, F2, x2, r2⟩ => ⟨I1.kIn, ?_⟩) he hpl
  have sp0 : spX X.K n xf vs H1 (fun _ _ => False) (fun v _ H' => ∃ c C, v = .ref C /\ XC X.K c C /\ W c σ H') := ⟨hn, F2, ds, c, x2.fh, r2, e1, fun C F' H' xc x3 => ⟨c, C, rfl, xc, w F' H' (x2.trans x3)⟩⟩
  have hlu : us.length = ps.length := by rw [<- r.length]; exact F.len _ _ _ _ sp0
  have hbd := hb s1 us I1.kIn (by rw [List.append_nil]; exact hlu)
  rw [List.append_nil] at hbd
  refine wpAny_call (codeAny_mono (F.run X.A X.stack s1 H1 ⟨us, []⟩ us vs _ _ hr I1.env0 hbd r sp0) fun r' s' hq => ?_)
  cases r' with
  | error ev => exact rx_call (E := fun v _ H' => ∃ c C, v = .ref C /\ XC X.K c C /\ W c σ H') T I1.unbear.fewer hq fun v o H' z => z
  | ok fl =>
   cases fl with
   | ret u => obtain ⟨_, _, _, _, _, _, _, z⟩ := hq; exact z.elim
   | next => exact False.elim hq
   | brk => exact False.elim hq
   | cont => exact False.elim hq
noncomputable def xraise (c : Str) (m : ML) : MXs := fun ρ => (m ρ).map fun _ => (c, ρ)
theorem psx_raise {C : Addr} {x : Str} {es : List Expr} {m : ML} {n : Nat} {np cpos : Pos} (nx : X.xe = noE) (T : Top X) (hc : X.calm = true) (hg : Gl X x) (hm : X.mg x = some (.ref C)) (xc : XC X.K x C) (q : PySem.W.excIn X.K C bmV "ValueError.__new__" = true)
  (ha : PAs X (e :: es) m) (hl : ∀ ρ ds, m ρ = some ds -> ds.length = n) (hn : n <= sizeLine) (hdb : (x == ("__debug__" : Str)) = false := by decide)
  (he : starEach (e :: es) X.env = (false, eval e X.env) :: starEach es X.env := by rfl) (hpl : (backTo cpos (starEach es X.env)).any (·.1) = false := by rfl) :
  PSX X (.Raise (some (.Call (.Name x np) (e :: es) [] cpos)) none pos) (xraise x m) := by
 intro pins W pins' s σ H D I h
 obtain ⟨F0, H0, F1, ρ, c, ρ', rl, e1, w⟩ := h
 unfold xraise at e1
 cases h1 : m ρ with
 | none => rw [h1] at e1; cases e1
 | some ds =>
  rw [h1] at e1; cases e1
  obtain ⟨bm, N, nm, qn, bs, hdct, sn, sub, ab, col, dd, k0, k1, k2, k3, k5, mN, hC, hN, hni, TL⟩ := xobj I.mod.kin q
  have ha' : PA (X.rx pins W) (e :: es) (TAs X.K m) := PA.bear nx ha
  have h2 := ha' cpos pins' s σ H (fun vs H1 => vs.length = n /\ W x σ H1) I ⟨F0, H0, F1, ρ, ds, rl, h1, fun vs F2 H2 x2 r2 => ⟨by rw [r2.length]; exact hl ρ ds h1, w F2 H2 σ (rl.go x2) x2.ff⟩⟩
  refine wpAny_Raise_call_subT (C := C) (N := N) (bm := bm) (nm := nm) (q := qn) (bs := bs) (sub := sub) (sn := sn) (hdct := hdct) (col := col) (ab := ab) (dd := dd) (k0 := k0) (k1 := k1) (k2 := k2) (k3 := k3) (k5 := k5) PySem.F.excBase_ValueError (TL.hasType PySem.F.excBase_ValueError.hasBase) (I.ok.hd hc) ?_ hni (ld_glob I hg hm ⟨rfl, ?_⟩ hdb)
  ·rw [he]
   show (false || (backTo cpos (starEach es X.env)).any (·.1)) = false
   rw [hpl]; rfl
  ·rw [he] at h2 ⊢
   refine Calls.evalArgs_plain (wpAny_mono h2 (fun us s2 ⟨vs, H1, I1, r1, hl1, q1⟩ => ⟨rfl, by rw [<- r1.length, hl1]; exact hn, I1.bk _ _ hC, hN.keeps I1.bk, TL.keeps I1.bk, fun h3 a hm3 => ?_⟩) fun _ _ y => y)
   exact rx_made T I1.unbear.fewer hm3 xc q1
noncomputable def runX (n : Nat) (x : MXs) : MFX := fun ds => (x (startS n ds)).map (·.1)
theorem Fun.okX {P : Program} {w : World} {K : PySem.W.Frag} {mg : Str -> Option Value} {base : Heap} {x qual : Str} {st : Stmt} {f : Addr} {fd : FuncData} {N ps : List Str} {k : Nat} {m : MXs} (Fn : Fun K x qual st f fd) (Sc : FnScope N ps (defScope st))
  (hbody : ∀ (cdv : Value) (A : Around) (outer : List Env) (s : Shared) (H : Hp) (E : XK), Room k (A.deeper (envOfC qual (defScope st) s.heap.objs.size f cdv)) -> PSsX (cxOf (CXx P w) P w K mg base N qual (defScope st) f cdv A outer s H E).nox (defBody st) m) :
  FnOk P w K mg base (CXx P w) (k + 1) f fd ps (spX K ps.length (runX N.length m)) := by
 obtain ⟨oc, od, kV, doc, pm, an, cdv, ct, osl, rfl, lk, hcd⟩ := Fn.ex
 refine fn_of lk hcd Sc (fun vs H Q E h => h.1) fun A outer s H vs Q E hr h => ?_
 obtain ⟨hl, F, ds, c, sf, rs, e, w0⟩ := h
 unfold runX at e
 cases h1 : m (startS N.length ds) with
 | none => rw [h1] at e; cases e
 | some o =>
  obtain ⟨c', ρ'⟩ := o
  rw [h1] at e; cases e
  have hb := hbody cdv A outer s H E hr
  let W : WX := fun c _ H' => ∀ C, XC K c C -> E (.ref C) none H'
  refine ⟨fun _ σ H => TXs K m W σ H, fun pins s1 σ H1 D I q => ?_, F, H, F, startS N.length ds, c', ρ', rl_start sf rs, h1, fun F' H' σ' rl _ C xc => w0 C F' H' xc rl.ext⟩
  have I1 : Inv (cxOf (CXx P w) P w K mg base N qual (defScope st) f cdv A outer s H E).nox (pins ++ []) σ H1 s1 := by rw [List.append_nil]; exact I.wish _
  refine wpAny_mono (hb pins W [] s1 σ H1 D I1.bear q) (fun fl s' z => ?_) fun ev s' z => ?_
  ·have := z.unbear
   rw [List.append_nil] at this
   exact this.unwish
  ·exact rx_leaves (X := (cxOf (CXx P w) P w K mg base N qual (defScope st) f cdv A outer s H E).nox) ⟨rfl, rfl, rfl⟩ z
end
end L2
namespace L2
open PySem PySem.Spec PyProof.Rows
section
variable {X : Cx} {pins : List (Addr × Obj)} {E : Value -> Shared -> Prop} (nx : X.xe = noE)
include nx
theorem PG.bear {tg : Expr} {t : TG} (h : PG X tg t) : PG (X.bear pins E) tg t := fun pins' s σ H v u Q I r hw =>
 wpAny_mono (h _ s σ H v u Q I.unbear r hw) (fun _ _ ⟨σ', H', I', q⟩ => ⟨σ', H', I'.bear, q⟩) fun _ _ z => by rw [nx] at z; exact z.elim
theorem PI.bear {tg it : Expr} {t : TI} (h : PI X tg it t) : PI (X.bear pins E) tg it t := fun pins' s σ H R I hw =>
 wpAny_mono (h _ s σ H R I.unbear hw) (fun v s1 h1 => wpAny_mono h1 (fun itv s2 ⟨it, fp, tn, J, H', e, I', T, st, f, q⟩ => ⟨it, fp, tn, J, H', e, I'.bear, T, st, fun b hb => by
  obtain ⟨f0, f1, f2, f3, f4, f5⟩ := f b hb
  exact ⟨f0, f1, f2, f3, f4, fun p hp => f5 p (by rw [<- List.append_assoc]; exact hp)⟩, q⟩) fun _ _ z => by rw [nx] at z; exact z.elim) fun _ _ z => by rw [nx] at z; exact z.elim
end
noncomputable def xforD (g : Tg) (body : MS) (xb : MXs) : List D -> MXs
 | [], _ => none
 | d :: ds, ρ => match tgD g d ρ with
  | some ρ1 => match body ρ1 with
   | some (.nx ρ2) => xforD g body xb ds ρ2
   | some (.ct ρ2) => xforD g body xb ds ρ2
   | some _ => none
   | none => xb ρ1
  | none => none
noncomputable def xfor (mi : ML) (g : Tg) (body : MS) (xb : MXs) : MXs := fun ρ => (mi ρ).bind fun its => xforD g body xb its ρ
section
variable {X : Cx} {e c : Expr} {pos : Pos} {st : Stmt} {rest : List Stmt}
theorem psx_for {tg iter : Expr} {body : List Stmt} {mi : ML} {g : Tg} {mb : MS} {xb : MXs} (nx : X.xe = noE) (hc : X.calm = true) (hi : PId X tg iter mi) (hg : PGd X tg g) (hb : PSsd X body mb) (hx : PSsX X body xb)
  (hs : ∀ x, foldedSetIterable iter X.env x = pure x := by intro _; rfl) : PSX X (.For tg iter body [] pos) (xfor mi g mb xb) := fun pins W =>
 (ps_for (X := X.rx pins W) passesOwn_RX hc (PI.bear nx hi) (PG.bear nx hg) ((PSs.bear nx hb).or (hx pins W)) hs).imp fun Dn σ H hpat => by
  obtain ⟨F0, H0, F, ρ, c, ρo, rl, e, ok⟩ := hpat
  unfold xfor at e
  cases h1 : mi ρ with
  | none => rw [h1] at e; cases e
  | some its =>
   rw [h1] at e
   have e : xforD g mb xb its ρ = some (c, ρo) := e
   refine ⟨F0, H0, F, ρ, its, rl, h1, fun J F1 H1 x1 I => ?_⟩
   refine ⟨fun i m σ' H' => ∃ F' ρ', Rl X.K F0 H0 F' H' σ' ρ' /\ Same F1 F' /\ i <= its.length /\ m = its.length - i /\ xforD g mb xb (its.drop i) ρ' = some (c, ρo), ⟨_, F1, ρ, rl.go x1, Same.refl _, Nat.zero_le _, rfl, e⟩, ?_⟩
   rintro i m σ' H' ⟨F', ρ', rl', sf, hi', rfl, e'⟩
   by_cases hlt : i < its.length
   ·right
    have hd := List.getElem?_eq_getElem hlt
    refine ⟨I.go i F' H' sf rl'.fh hlt, fun σ2 H2 => ∃ F2 ρ2, Rl X.K F0 H0 F2 H2 σ2 ρ2 /\ Same F1 F2 /\ xforD g mb xb (its.drop (i + 1)) ρ2 = some (c, ρo), ?_, fun x H2 y => ?_⟩
    ·rintro σ2 H2 ⟨F2, ρ2, rl2, sf2, e2⟩
     exact ⟨its.length - (i + 1), by omega, F2, ρ2, rl2, sf2, hlt, rfl, e2⟩
    ·obtain ⟨F2, x2, r2⟩ := I.yld i F' H' x H2 _ sf rl'.fh hd y
     rw [drop_get hd] at e'
     unfold xforD at e'
     cases h2 : tgD g its[i] ρ' with
     | none => simp only [h2] at e'; cases e'
     | some ρ1 =>
      simp only [h2] at e'
      refine ⟨F0, H0, F2, ρ', _, ρ1, rl'.go x2, r2, h2, fun F3 H3 σ3 rl3 x3 => ?_⟩
      have s3 : Same F1 F3 := (sf.trans x2.ff).trans x3.ff
      cases h3 : mb ρ1 with
      | none =>
       simp only [h3] at e'
       exact .inr ⟨F0, H0, F3, ρ1, c, ρo, rl3, e', fun F4 H4 σ4 rl4 s4 => ok F4 H4 σ4 rl4 ((x1.ff.trans s3).trans s4)⟩
      | some o1 =>
       simp only [h3] at e'
       cases o1 with
       | nx ρ2 => exact .inl ⟨F0, H0, F3, ρ1, _, rl3, h3, fun F4 H4 σ4 rl4 s4 => ⟨F4, ρ2, rl4, s3.trans s4, e'⟩⟩
       | ct ρ2 => exact .inl ⟨F0, H0, F3, ρ1, _, rl3, h3, fun F4 H4 σ4 rl4 s4 => ⟨F4, ρ2, rl4, s3.trans s4, e'⟩⟩
       | _ => cases e'
   ·have hieq : i = its.length := by omega
    subst hieq
    rw [List.drop_length] at e'
    cases e'
end
end L2
namespace L2
open PySem PySem.Spec PyProof.Rows
noncomputable abbrev Cx.inX (X : Cx) (a : Addr) : Cx := { X with A := X.A.mark (some (.ref a)), calm := false }
section
variable {X : Cx} {pins : List (Addr × Obj)} {σ : St} {H : Hp} {s : Shared} {a C : Addr}
theorem Cx.Ok.inX (ok : X.Ok) : (X.inX a).Ok := ⟨ok.mod, ok.kind, ok.glob, ok.blt, ok.above, ok.inj, ok.has, ok.cab, (fun z => by cases z), ok.frames, ok.stk, ok.exf, ok.bs, ok.bsz, ok.noex, ok.exfs, ok.funs, ok.frf⟩
theorem Inv.inX (I : Inv X pins σ H s) : Inv (X.inX a) pins σ H s := ⟨I.ok.inX, I.os, I.bare, I.base, I.loc, I.cell, I.free, I.freeC, I.pin, I.hok, I.len⟩
theorem Inv.outX (ok : X.Ok) (I : Inv (X.inX a) pins σ H s) : Inv X pins σ H s := ⟨ok, I.os, I.bare, I.base, I.loc, I.cell, I.free, I.freeC, I.pin, I.hok, I.len⟩
theorem Inv.gone {i : Nat} {n : Str} {h' : Heap} {t' : Nat} {v : Option Value} {m : Str -> Option Value} (I : Inv X pins σ H s) (hN : X.N.Nodup) (hi : X.N[i]? = some n) (hm : s.heap.Ns X.env.locals m) (hn : h'.Ns X.env.locals (fun x => if x = n then v else m x)) (hs : Heap.SameBut X.env.locals s.heap h') :
  Inv X pins (σ.set i none) H { s with heap := h', toks := t' } := by
 have old : ∀ b o, X.s₀.heap.get? b = some o -> b ≠ X.env.locals := fun b o e => Nat.ne_of_lt (Nat.lt_of_lt_of_le (Heap.lt_size e) I.ok.above)
 refine ⟨I.ok, I.os, I.bare, ⟨fun b o e n hb hx => (hs.2 b (old b o e)).trans (I.base.keep b o e n hb hx), fun b o e n hb hx => ?_, I.base.free, fun b o e hx => ?_, I.base.tups, I.base.frzs, I.base.tbls⟩, ⟨_, hn, fun j y u e1 e2 e3 => ?_⟩, fun y c e => ?_, I.free, I.freeC, fun p hp => ?_, fun b ob e => ?_, by rw [List.length_set]; exact I.len⟩
 ·obtain ⟨sl, e1⟩ := I.base.slot b o e n hb hx
  exact ⟨sl, (hs.2 b (old b o e)).trans e1⟩
 ·obtain ⟨o1, e1⟩ := I.base.there b o e hx
  exact ⟨o1, (hs.2 b (old b o e)).trans e1⟩
 ·have hj : j ≠ i := fun z => by
   subst z
   have hl : j < σ.length := by
    rcases Nat.lt_or_ge j σ.length with z | z
    ·exact z
    ·rw [List.getElem?_eq_none (by simpa using z)] at e2; cases e2
   rw [List.getElem?_set_self hl] at e2; cases e2
  rw [List.getElem?_set_ne (Ne.symm hj)] at e2
  obtain ⟨m0, hm0, hl0⟩ := I.loc
  have hmm : ∀ z, m0 z = m z := fun z => by
   obtain ⟨oo, es, ep, ho, hd, _, hf⟩ := hm0
   obtain ⟨oo', es', ep', ho', hd', _, hf'⟩ := hm
   rw [ho] at ho'; cases ho'
   rw [hd] at hd'; cases hd'
   rw [<- hf, <- hf']
  obtain ⟨w, r, l⟩ := hl0 j y u e1 e2 e3
  refine ⟨w, r, ?_⟩
  have hy : y ≠ n := fun z => hj (nodup_ix hN e1 (z ▸ hi))
  rcases l with ⟨k, q⟩ | ⟨k, c, e, z⟩
  ·exact .inl ⟨k, by show (if y = n then v else m y) = some w; rw [if_neg hy, <- hmm]; exact q⟩
  ·exact .inr ⟨k, c, e, z.sameBut hs (I.cne y c e)⟩
 ·obtain ⟨w, z⟩ := I.cell y c e
  exact ⟨w, z.sameBut hs (I.cne y c e)⟩
 ·obtain ⟨e, n, ne, nf, d⟩ := I.pin p hp
  exact ⟨(hs.2 p.1 ne).trans e, n, ne, nf, d⟩
 ·refine (I.hok b ob e).stay (fun c u hc q => (hs.2 c ?_).trans q) (fun _ q => q) fun _ _ q => q
  rintro rfl
  rcases hc with z | z
  ·rw [<- z, I.free] at e; cases e
  ·rw [I.free] at z; cases z
theorem Inv.track {o : HO} (I : Inv X pins σ H s) (h0 : X.s₀.heap.get? a = none) (hL : a ≠ X.env.locals) (hc : ∀ x c, X.env.cells.lookup x = some c -> c ≠ a) (hp : ∀ p ∈ X.pn ++ pins, p.1 ≠ a) (hn : H a = none) (new : ObjOk X.prog X.w (upd H a o) s.heap a o) :
  Inv X pins σ (upd H a o) s := by
 have nb : ∀ b o, X.s₀.heap.get? b = some o -> b ≠ a := fun b o e z => by rw [z, h0] at e; cases e
 refine ⟨I.ok, I.os, I.bare, ⟨I.base.keep, I.base.slot, fun b o e n hx => ?_, I.base.there, fun b xs e => ?_, fun b o u e => ?_, fun b ps e => ?_⟩, I.loc, I.cell, ?_, fun x c e => ?_, fun p hp' => ?_, fun b u e => ?_, I.len⟩
 ·rw [upd_ne (nb b o e)]; exact I.base.free b o e n hx
 ·have := I.base.tups b xs e
  rw [upd_ne (ne_of_none this hn)]; exact this
 ·have := I.base.frzs b o u e
  rw [upd_ne (ne_of_none this hn)]; exact this
 ·obtain ⟨more, this⟩ := I.base.tbls b ps e
  exact ⟨more, by rw [upd_ne (ne_of_none this hn)]; exact this⟩
 ·rw [upd_ne (Ne.symm hL)]; exact I.free
 ·rw [upd_ne (hc x c e)]; exact I.freeC x c e
 ·obtain ⟨e, n, r⟩ := I.pin p hp'
  exact ⟨e, by rw [upd_ne (hp p hp')]; exact n, r⟩
 ·by_cases hb : b = a
  ·subst hb; rw [upd_same] at e; cases e; exact new
  ·rw [upd_ne hb] at e
   exact (I.hok b u e).stay (fun c v _ q => q) (fun c q => by rw [upd_ne (ne_of_none q hn)]; exact q) fun c xs q => by rw [upd_ne (ne_of_none q hn)]; exact q
end
theorem Rl.drop {K : PySem.W.Frag} {F0 H0 F H : Hp} {σ : St} {ρ : Ro} (r : Rl K F0 H0 F H σ ρ) (i : Nat) : Rl K F0 H0 F H (σ.set i none) (ρ.set i none) := by
 have get : ∀ (j : Nat) x, (ρ.set i none)[j]? = some (some x) -> i ≠ j /\ ρ[j]? = some (some x) := fun j x e => by
  by_cases hj : i = j
  ·subst hj
   have hl : i < ρ.length := by
    rcases Nat.lt_or_ge i ρ.length with z | z
    ·exact z
    ·rw [List.getElem?_eq_none (by simpa using z)] at e; cases e
   rw [List.getElem?_set_self hl] at e; cases e
  ·rw [List.getElem?_set_ne hj] at e; exact ⟨hj, e⟩
 have gs : ∀ (j : Nat) x, (σ.set i none)[j]? = some (some x) -> σ[j]? = some (some x) := fun j x e => by
  by_cases hj : i = j
  ·subst hj
   have hl : i < σ.length := by
    rcases Nat.lt_or_ge i σ.length with z | z
    ·exact z
    ·rw [List.getElem?_eq_none (by simpa using z)] at e; cases e
   rw [List.getElem?_set_self hl] at e; cases e
  ·rw [List.getElem?_set_ne hj] at e; exact e
 refine ⟨r.ext, by simp [r.len], fun j d e => ?_, fun j ds e => ?_, fun j k p ds es hjk e1 e2 e3 e4 => r.inj j k p ds es hjk (get j _ e1).2 (get k _ e2).2 (gs j _ e3) (gs k _ e4), fun j p ds e => ?_, fun j k p ds es e1 e2 e3 => r.obn j k p ds es (get j _ e1).2 (get k _ e2).2 (gs k _ e3), fun j k p q ds es e1 e2 => r.ob1 j k p q ds es (get j _ e1).2 (get k _ e2).2⟩
 ·obtain ⟨n, e⟩ := get j _ e
  rw [List.getElem?_set_ne n]; exact r.sh j d e
 ·obtain ⟨n, e⟩ := get j _ e
  rw [List.getElem?_set_ne n]; exact r.own j ds e
 ·obtain ⟨n, e⟩ := get j _ e
  rw [List.getElem?_set_ne n]; exact r.ob j p ds e
@[irreducible] noncomputable def mtry (names : List Str) (mb : MS) (xb : MXs) (i : Nat) (ms : MS) : MS := fun ρ => match mb ρ with
 | some o => some o
 | none => match xb ρ with
  | some (c, ρ1) => if c ∈ names then (match ms (ρ1.set i (some (.sh (.exc c)))) with | some (.nx ρ2) => some (.nx (ρ2.set i none)) | _ => none) else none
  | none => none
section
variable {X : Cx} {pos np hpos : Pos}
theorem psd_try {body suite : List Stmt} {b0 : Stmt} {mb ms : MS} {xb : MXs} {names : List Str} {x n : Str} {Wa : Addr} {i : Nat} (nx : X.xe = noE) (T : Top X) (hg : Gl X x) (hm : X.mg x = some (.ref Wa))
  (hcl : ∀ c ∈ names, ∀ C, XC X.K c C -> PySem.W.exmOne X.K (.ref C) (.ref Wa) = some true) (hN : X.N.Nodup) (hi : X.N[i]? = some n) (hl : X.env.scope.names.lookup n = some .local)
  (hb : PSsd X body mb) (hx : PSsX X body xb) (hs : ∀ a, PSsd (X.inX a) (b0 :: suite) ms) (hdb : (x == ("__debug__" : Str)) = false := by decide) :
  PSd X (.Try body [.ExceptHandler (some (.Name x np)) (some n) (b0 :: suite) hpos] [] [] pos) (mtry names mb xb i ms) := by
 intro pins s σ H D I ⟨F0, H0, F, ρ, o, rl, e, ok⟩
 unfold mtry at e
 refine wpAny_Try_except ?_
 cases h1 : mb ρ with
 | some o1 =>
  rw [h1] at e; cases e
  refine wpAny_mono (hb pins s σ H D I ⟨F0, H0, F, ρ, o, rl, h1, ok⟩) (fun f s1 h => ?_) fun _ _ z => by rw [nx] at z; exact z.elim
  cases f with
  | next =>
   obtain ⟨σ1, H1, I1, q⟩ := h
   exact pss_nil pins s1 σ1 H1 D I1 q
  | brk => exact h
  | cont => exact h
  | ret u => exact h
 | none =>
  rw [h1] at e
  cases h2 : xb ρ with
  | none => rw [h2] at e; cases e
  | some cr =>
   obtain ⟨c, ρ1⟩ := cr
   rw [h2] at e
   dsimp only at e
   split at e
   ·rename_i hc
    cases h3 : ms (ρ1.set i (some (.sh (.exc c)))) with
    | none => rw [h3] at e; cases e
    | some o3 =>
     rw [h3] at e
     cases o3 with
     | nx ρ2 =>
      cases e
      let W : WX := fun c' σ' H' => c' = c /\ ∃ F', Rl X.K F0 H0 F' H' σ' ρ1 /\ Same F F'
      have I0 : Inv X (pins ++ []) σ H s := by rw [List.append_nil]; exact I
      refine wpAny_mono (hx pins W [] s σ H { nx := fun _ _ => False, rt := fun _ _ => False } I0.bear ⟨F0, H0, F, ρ, c, ρ1, rl, h2, fun F' H' σ' rl' sf => ⟨rfl, F', rl', sf⟩⟩) (fun f s1 h => ?_) fun ev s1 h => ?_
      ·cases f with
       | next => obtain ⟨_, _, _, z⟩ := h; exact z.elim
       | brk => obtain ⟨_, _, _, z⟩ := h; exact z.elim
       | cont => obtain ⟨_, _, _, z⟩ := h; exact z.elim
       | ret u => obtain ⟨_, _, _, _, _, z⟩ := h; exact z.elim
      refine wpAny_mono h (fun _ s2 h2 => wpAny_mono h2 (fun _ s3 h3 => ?_) fun _ _ z => z.elim) fun _ _ z => z.elim
      obtain ⟨a, C, a0, σ1, H1, sa, H', B, c', rfl, Ia, os, bare, f, fl, xc, rfl, F1, rl1, sf1⟩ := h3
      have I3 : Inv X pins σ1 H' s3 := f.inv Ia os bare
      have LT : ∀ M : Model, PySem.W.Looks M s3.heap (typeOf (.ref a)) (.ref C) := fun M => by
       obtain ⟨ob, e1, e2⟩ := fl.there
       exact e2 ▸ (PySem.W.Looks.ld e1).andThen .now
      refine wpAny_handleBy_cons (codeAny_handlers_test (ld_glob (X := X.inX a) I3.inX hg hm ((PySem.W.exm_one I3.kIn (LT _) (hcl _ hc C xc)).here ?_) hdb)) (by intro z; cases z)
      refine codeAny_handlers_suite_as ?_
      refine lands_againW fl fun h4 fl4 up4 => ?_
      have f4 := f.on fl.2.2.1 fl4.1 up4
      have I4 : Inv X pins σ1 H' { s3 with heap := h4 } := f4.inv Ia os bare
      obtain ⟨oe, vs, he, hec, hed, _⟩ := fl4.first
      have nfr : a ∉ frs X.stack := fun z => by
       obtain ⟨_, o', e', hd'⟩ := fl4.2.2.1.mem z
       rw [he] at e'; cases e'
       exact hd' vs hed
      have young : sa.heap.get? a = none := by
       cases z : sa.heap.get? a with
       | none => rfl
       | some o' =>
        obtain ⟨ob, eb⟩ := f4.old a o' z nfr
        have := fl4.2.1
        rw [eb] at this; cases this
      have Ha : H' a = none := by
       cases z : H' a with
       | none => rfl
       | some o' =>
        obtain ⟨ob, eb⟩ := f4.trk a o' z
        have := fl4.2.1
        rw [eb] at this; cases this
      have y0 : X.s₀.heap.get? a = none := by
       cases z : X.s₀.heap.get? a with
       | none => rfl
       | some o' =>
        obtain ⟨o2, e2⟩ := Ia.base.there a o' z (by rw [T.ex]; simp)
        rw [young] at e2; cases e2
      have yL : a ≠ X.env.locals := fun z => by
       obtain ⟨m, ⟨o', _, _, ho', _⟩, _⟩ := Ia.loc
       rw [<- z, young] at ho'; cases ho'
      have yC : ∀ y c, X.env.cells.lookup y = some c -> c ≠ a := fun y c e z => by
       obtain ⟨v, o', ho', _⟩ := Ia.cell y c e
       rw [z, young] at ho'; cases ho'
      have yP : ∀ p ∈ X.pn ++ pins, p.1 ≠ a := fun p hp z => by
       have := (Ia.pin p hp).1
       rw [z, young] at this; cases this
      have xat : XAt a C h4 := ⟨oe, vs, he, hec, hed⟩
      have I5 : Inv X pins σ1 (upd H' a (.ext (XAt a C))) { s3 with heap := h4 } := I4.track y0 yL yC yP Ha ⟨xat, ⟨oe, he⟩, fun g1 g2 z k => by
       obtain ⟨o', vs', z1, z2, z3⟩ := z
       exact ⟨o', vs', k o' z1, z2, z3⟩⟩
      have x5 : Ext F1 H' (upd F1 a (.ext (XAt a C))) (upd H' a (.ext (XAt a C))) := Ext.laid rl1.fh Ha
      have rl5 := (rl1.go x5).set (i := i) (v := .ref a) (d := .exc c') (.exc xc upd_same)
      refine store_ok (X := X.inX a) I5.inX hN hi (.inl hl) (v := .ref a) rfl (fun s5 I6 => ?_) (.inr hl)
      let D2 : Ends := { nx := fun σ2 H2 => ∃ F2, Rl X.K F0 H0 F2 H2 σ2 ρ2 /\ Same F F2, rt := fun _ _ => False }
      refine wpAny_mono (hs a pins s5 _ _ D2 I6 ⟨F0, H0, _, _, _, rl5, h3, fun F2 H2 σ2 rl2 sf2 => ⟨F2, rl2, (sf1.trans x5.ff).trans sf2⟩⟩) (fun fl6 s6 h6 => ?_) fun _ _ z => by rw [show (X.inX a).xe = X.xe from rfl, nx] at z; exact z.elim
      cases fl6 with
      | next =>
       obtain ⟨σ6, H6, I7, F6, rl6, sf6⟩ := h6
       have I8 : Inv X pins σ6 H6 s6 := I7.outX I.ok
       obtain ⟨m, hn, hl0⟩ := id I8.loc
       refine wpAny_nameGoes_keeps hl hn (by rw [I.ok.kind]; rfl) fun h7 v hn7 hs7 => ?_
       exact ⟨_, H6, I8.gone hN hi hn hn7 hs7, ok F6 H6 _ (rl6.drop i) sf6⟩
      | brk => obtain ⟨_, _, _, z⟩ := h6; exact z.elim
      | cont => obtain ⟨_, _, _, z⟩ := h6; exact z.elim
      | ret u => obtain ⟨_, _, _, _, _, z⟩ := h6; exact z.elim
     | _ => cases e
   ·cases e
end
end L2
namespace L2
open PySem PySem.Spec PyProof.Rows
structure RoomN (k : Nat) (A : Around) : Prop where
 dp : A.depth + 3 * k + 5 < recursionLimit
 un : A.units + 16 * k + 200 < cLine
theorem Room.n {k : Nat} {A : Around} (r : Room k A) : RoomN k A := ⟨r.dp, r.un⟩
theorem RoomN.mono {j k : Nat} {A : Around} (r : RoomN k A) (h : j <= k) : RoomN j A := ⟨by have := r.dp; omega, by have := r.un; omega⟩
theorem RoomN.deeper {k : Nat} {A : Around} (r : RoomN (k + 1) A) (env : Env) : RoomN k (A.deeper env) :=
 ⟨by have := r.dp; show A.depth + 1 + 3 * k + 5 < _; omega, by have := r.un; show A.units + 3 + 16 * k + 200 < _; omega⟩
theorem RoomN.units {k : Nat} {A : Around} (r : RoomN k A) : A.units + 64 < cLine := by have := r.un; omega
theorem Room.mark {k : Nat} {A : Around} (r : Room k A) (v : Option Value) : RoomN k (A.mark v) := ⟨r.dp, r.un⟩
structure FnOkN (P : Program) (w : World) (K : PySem.W.Frag) (mg : Str -> Option Value) (base : Heap) (CX : CXT) (k : Nat) (f : Addr) (fd : FuncData) (ps : List Str) (sp : Sp) : Prop where
 len : ∀ vs H Q E, sp vs H Q E -> vs.length = ps.length
 run : ∀ (A : Around) (outer : List Env) (s : Shared) (H : Hp) (args : Args) (us : List Value) (vs : List V) (Q : VK) (E : XK), RoomN k A -> Env0 P w K mg base A outer s H -> BindsTo s fd args (ps.zip us) -> Vals vs us -> sp vs H Q E ->
  codeAny (model P w) A (.call (.ref f) args) (CR CX outer P w H s Q E) s
theorem FnOkN.mono {P : Program} {w : World} {K : PySem.W.Frag} {mg : Str -> Option Value} {base : Heap} {CX : CXT} {j k : Nat} {f : Addr} {fd : FuncData} {ps : List Str} {sp : Sp} (F : FnOkN P w K mg base CX j f fd ps sp) (h : j <= k) : FnOkN P w K mg base CX k f fd ps sp :=
 ⟨F.len, fun A outer s H args us vs Q E hr => F.run A outer s H args us vs Q E (hr.mono h)⟩
noncomputable abbrev cxOfN (CX : CXT) (P : Program) (w : World) (K : PySem.W.Frag) (mg : Str -> Option Value) (base : Heap) (N : List Str) (qual : Str) (scope : Scope) (f : Addr) (cd : Value) (A : Around) (outer : List Env) (s : Shared) (H : Hp) (E : XK) : Cx :=
 { cxOf CX P w K mg base N qual scope f cd A outer s H E with calm := false }
theorem inv_startN {CX : CXT} {P : Program} {w : World} {K : PySem.W.Frag} {mg : Str -> Option Value} {base : Heap} {N ps : List Str} {qual : Str} {scope : Scope} {f : Addr} {cd : Value} {A : Around} {outer : List Env} {s s1 : Shared} {H : Hp} {E : XK} {us : List Value} {vs : List V}
  (S : FnScope N ps scope) (e0 : Env0 P w K mg base A outer s H) (hl : vs.length = ps.length) (r : Vals vs us)
  (x : InCallC s s.heap.objs.size (bindL (envOfC qual scope s.heap.objs.size f cd).kindOf (ps.zip us) fun _ => none) (cellsFrom (s.heap.objs.size + 1) scope.names []) (bindC (envOfC qual scope s.heap.objs.size f cd).kindOf (ps.zip us) fun _ => none) s1) :
  Inv (cxOfN CX P w K mg base N qual scope f cd A outer s H E) [] (start N vs) H s1 := by
 have e1 : Env0 P w K mg base { A with handled := none } outer s H := ⟨e0.frames, e0.mod, e0.bs, e0.bsz, e0.funs, e0.frf, e0.hok, e0.bare⟩
 have I := inv_start (CX := CX) (E := E) (A := { A with handled := none }) (qual := qual) (f := f) (cd := cd) S rfl e1 hl r x
 exact ⟨⟨I.ok.mod, I.ok.kind, I.ok.glob, I.ok.blt, I.ok.above, I.ok.inj, I.ok.has, I.ok.cab, (fun z => by cases z), Around.frames_deeper e0.frames, I.ok.stk, I.ok.exf, I.ok.bs, I.ok.bsz, I.ok.noex, I.ok.exfs, I.ok.funs, I.ok.frf⟩, I.os, I.bare, I.base, I.loc, I.cell, I.free, I.freeC, I.pin, I.hok, I.len⟩
theorem fn_ofN {CX : CXT} {P : Program} {w : World} {K : PySem.W.Frag} {mg : Str -> Option Value} {base : Heap} {k : Nat} {f : Addr} {name qual : Str} {params : Arguments} {body : List Stmt} {scope : Scope} {dV kV doc pm cdv ct oc : Value} {an od : Option Addr}
  {osl : Array (Option Value)} {N ps : List Str} {sp : Sp} (lk : K.lookup f = some ⟨oc, od, .func (PySem.W.fnOf name qual params body scope dV kV doc pm an cdv ct), osl⟩) (hcd : PySem.W.codeIn K cdv qual = true) (S : FnScope N ps scope)
  (len : ∀ vs H Q E, sp vs H Q E -> vs.length = ps.length)
  (hbody : ∀ (A : Around) (outer : List Env) (s : Shared) (H : Hp) (vs : List V) (Q : VK) (E : XK), RoomN k (A.deeper (envOfC qual scope s.heap.objs.size f cdv)) -> sp vs H Q E ->
   ∃ t, PSs (cxOfN CX P w K mg base N qual scope f cdv A outer s H E) body t /\ t { nx := fun _ H' => Q .non H', rt := Q } (start N vs) H) :
  FnOkN P w K mg base CX (k + 1) f (PySem.W.fnOf name qual params body scope dV kV doc pm an cdv ct) ps sp := by
 refine ⟨len, fun A outer s H args us vs Q E hr e0 hb r hsp => ?_⟩
 have hl := len _ _ _ _ hsp
 have KX : K.In s.heap := e0.mod.kin.keeps fun b o e => (e0.bs b o e).1
 have lim : s.heap.NoLimit := e0.mod.nolimit.keeps fun b o e => (e0.bs b o e).1
 have hkind : ∀ y ∈ ps.zip us, scope.names.lookup y.1 = some .local \/ (scope.names.lookup y.1 = some .cell /\ ((cellsFrom (s.heap.objs.size + 1) scope.names []).lookup y.1).isSome = true) := fun ⟨n, v⟩ hy => by
  rcases S.par n (List.of_mem_zip hy).1 with q | q
  ·exact .inl q
  ·exact .inr ⟨q, PySem.W.cellsFrom_some _ _ _ (.inl q)⟩
 refine codeAny_call_function (by have := hr.dp; omega) (KX _ _ lk) rfl S.co S.gen rfl (PySem.W.codeRec_of KX hcd) (hb _ _ _ _ ?_)
 refine wpAny_newFunctionEnv_cells S.kind hkind fun env he s1 x => ?_
 subst he
 refine ⟨lim.keeps x.toInCall.keep, codeAny_func ?_⟩
 obtain ⟨t, ht, hq⟩ := hbody A outer s H vs Q E (hr.deeper _) hsp
 have I : Inv (cxOfN CX P w K mg base N qual scope f cdv A outer s H E) [] (start N vs) H s1 := inv_startN S e0 hl r x
 refine wpAny_mono (ht [] s1 (start N vs) H _ I hq) (fun fl s' hs => ?_) fun e s' hs => hs
 have fin : ∀ {σ' : St} {H' : Hp} {v : V} {u : Value}, Inv (cxOfN CX P w K mg base N qual scope f cdv A outer s H E) [] σ' H' s' -> RelV v u -> Q v H' -> CE outer P w H s Q u s' :=
  fun {σ' H' v u} J rv q => ⟨v, H', J.os, J.bare, J.base, J.hok, rv, q⟩
 cases fl with
 | ret u =>
  obtain ⟨v, σ', H', J, rv, q⟩ := hs
  exact fin J rv q
 | next =>
  obtain ⟨σ', H', J, q⟩ := hs
  exact fin (v := V.non) (u := Value.none) J rfl q
 | brk =>
  obtain ⟨_, _, _, q⟩ := hs
  exact False.elim q
 | cont =>
  obtain ⟨_, _, _, q⟩ := hs
  exact False.elim q
theorem Fun.okN {P : Program} {w : World} {K : PySem.W.Frag} {mg : Str -> Option Value} {base : Heap} {x qual : Str} {st : Stmt} {f : Addr} {fd : FuncData} {N ps : List Str} {k : Nat} {m : MS} (Fn : Fun K x qual st f fd) (Sc : FnScope N ps (defScope st))
  (hbody : ∀ (cdv : Value) (A : Around) (outer : List Env) (s : Shared) (H : Hp) (E : XK), RoomN k (A.deeper (envOfC qual (defScope st) s.heap.objs.size f cdv)) -> PSsd (cxOfN CX0 P w K mg base N qual (defScope st) f cdv A outer s H E).nox (defBody st) m) :
  FnOkN P w K mg base CX0 (k + 1) f fd ps (spR K ps.length (runB N.length m)) := by
 obtain ⟨oc, od, kV, doc, pm, an, cdv, ct, osl, rfl, lk, hcd⟩ := Fn.ex
 refine fn_ofN lk hcd Sc (fun vs H Q E h => h.1) fun A outer s H vs Q E hr h => ?_
 obtain ⟨hl, F, ds, r, sf, rs, e, ok⟩ := h
 unfold runB at e
 cases h1 : m (startS N.length ds) with
 | none => rw [h1] at e; cases e
 | some o =>
  rw [h1] at e
  refine ⟨_, (hbody cdv A outer s H E hr).nox, F, H, F, startS N.length ds, o, rl_start sf rs, h1, ?_⟩
  cases o with
  | nx ρ => cases e; exact fun F' H' σ' rl _ => ok .non F' H' rl.ext .non
  | rt d => cases e; exact ok
  | rf es => cases e; exact ok
  | rp d es => cases e; exact ok
  | rg d p r => cases e
  | rgf d p r => cases e
  | bk ρ => cases e
  | ct ρ => cases e
section
variable {X : Cx} {CX : CXT} {k : Nat} {f : Addr} {fd : FuncData} {ps : List Str} {sp : Sp} {dvs : List V} {ds : List Value} {E : XK} {x : Str} {p pos : Pos} {e : Expr} {es : List Expr} {t : TA}
theorem pe_callN (F : FnOkN X.prog X.w X.K X.mg X.base CX k f fd ps sp) (hr : RoomN k X.A) (hg : Gl X x) (hm : X.mg x = some (.ref f)) (hk : PySem.W.keepIn X.K (.ref f) = true) (hb : Binds X.K fd ps ds) (hd : Vals dvs ds) (hx : Passes CX X E)
  (ha : PA X (e :: es) t) (hdb : (x == ("__debug__" : Str)) = false := by decide) (he : starEach (e :: es) X.env = (false, eval e X.env) :: starEach es X.env := by rfl) (hpl : (backTo pos (starEach es X.env)).any (·.1) = false := by rfl) :
  PE X (.Call (.Name x p) (e :: es) [] pos) (tCall sp dvs E t) := by
 intro pins s σ H Q I h
 refine wpAny_Call_Name_kw (ld_glob I hg hm ?_ hdb)
 refine PySem.W.callWith_K (h₀ := X.base) I.ok.mod.kin hk (thn (ha pos pins s σ H _ I h) fun us s1 ⟨vs, H1, I1, r, q⟩ => ⟨I1.kIn, ?_⟩) he hpl
 have r2 : Vals (vs ++ dvs) (us ++ ds) := r.append hd
 have hl : (us ++ ds).length = ps.length := by rw [<- r2.length]; exact F.len _ _ _ _ q
 refine wpAny_call (codeAny_mono (F.run X.A X.stack s1 H1 ⟨us, []⟩ (us ++ ds) (vs ++ dvs) Q E hr I1.env0 (hb s1 us I1.kIn hl) r2 q) fun r s' hq => ?_)
 cases r with
 | error e => exact hx pins σ H1 s1 e s' I1 hq
 | ok fl =>
  cases fl with
  | ret u => exact I1.after hq
  | next => exact False.elim hq
  | brk => exact False.elim hq
  | cont => exact False.elim hq
end
@[irreducible] noncomputable def misX (tab : List (Str × Bool)) (m : ME) : ME := fun ρ => match m ρ with | some (.exc c) => (tab.lookup c).map .bl | _ => none
section
variable {X : Cx} {a : Expr} {ma : ME} {pos : Pos}
noncomputable def rIsX (K : PySem.W.Frag) (cv : Value) (tab : List (Str × Bool)) (y : V) : List V -> Hp -> VK -> Prop := fun vs H Q => ∃ b c k, vs = [.ref b, y] /\ (∃ C, XC K c C /\ H b = some (.ext (XAt b C))) /\ tab.lookup c = some k /\ Q (.bl k) H
theorem call_isX {cv : Value} {y : V} {tab : List (Str × Bool)} (ry : ∀ u, RelV y u -> u = cv) (hk : ∀ c k, tab.lookup c = some k -> ∀ C, XC X.K c C -> XCls X.K C /\ PySem.W.kitOne X.K (.ref C) cv = some k) : CallR X (.builtin "isinstance") (rIsX X.K cv tab y) := by
 intro pins s σ H xs us Q I r h
 obtain ⟨b, c, k, rfl, ⟨C, xc, hb⟩, e, q⟩ := h
 obtain ⟨u, w, rfl, rx, r2⟩ := vals2 r
 cases rx
 cases ry w r2
 obtain ⟨z, kk⟩ := hk c k e C xc
 exact PySem.W.kia_one (kitx_exc z) I.kIn (I.xat hb) kk (fun z => nomatch z) fun tk => ⟨.bl k, H, I.tok _, rfl, q⟩
theorem isX_imp {cv : Value} {y : V} {tab : List (Str × Bool)} {ty : TE} (hy : ∀ σ H Q, Q y H -> ty σ H Q) {σ : St} {H : Hp} {Q : VK} (h : TD X.K (misX tab ma) σ H Q) : tCB (rIsX X.K cv tab y) (tCons (TD X.K ma) (tCons ty tNil)) σ H Q := by
 obtain ⟨F0, H0, F, ρ, g, rl, e, q⟩ := h
 unfold misX at e
 split at e
 ·rename_i c h1
  cases h2 : tab.lookup c with
  | none => rw [h2] at e; cases e
  | some k =>
   rw [h2] at e; cases e
   refine ⟨F0, H0, F, ρ, _, rl, h1, fun v F1 H1 x1 r1 => ?_⟩
   cases r1 with
   | exc xc hb => exact hy _ _ _ ⟨_, c, k, rfl, ⟨_, xc, x1.fh _ _ hb⟩, h2, q _ F1 H1 x1 (.bl _)⟩
 ·cases e
theorem pd_isX {c : Str} {Ca : Addr} {p p2 : Pos} {tab : List (Str × Bool)} (hg : Gl X "isinstance") (hm : X.mg "isinstance" = none) (hgc : Gl X c) (hmc : X.mg c = some (.ref Ca)) (ha : PD X a ma)
  (hk : ∀ c k, tab.lookup c = some k -> ∀ C, XC X.K c C -> XCls X.K C /\ PySem.W.kitOne X.K (.ref C) (.ref Ca) = some k) (hd : (c == ("__debug__" : Str)) = false := by decide)
  (hs : starEach (a :: [.Name c p2]) X.env = (false, eval a X.env) :: starEach [.Name c p2] X.env := by rfl) (hs2 : starEach [.Name c p2] X.env = (false, eval (.Name c p2) X.env) :: starEach [] X.env := by rfl)
  (hpl : (backTo pos (starEach [.Name c p2] X.env)).any (·.1) = false := by rfl) : PD X (.Call (.Name "isinstance" p) [a, .Name c p2] [] pos) (misX tab ma) :=
 (pe_callB (call_isX (y := .ref Ca) (cv := .ref Ca) (fun u z => z) hk) hg hm PyProof.Rows.boot_isinstance (pa_cons ha (pa_cons (pe_glob (v := .ref Ca) hgc hmc rfl hd) pa_nil hs2) hs) (by decide) (by decide) hs hpl).imp fun σ H Q h => isX_imp (fun _ _ _ z => z) h
theorem pd_isXB {c : Str} {T : String} {p p2 : Pos} {tab : List (Str × Bool)} (hg : Gl X "isinstance") (hm : X.mg "isinstance" = none) (hgc : Gl X c) (hmc : X.mg c = none) (hv : bootBuiltins c = some (.type T)) (ha : PD X a ma)
  (hk : ∀ c k, tab.lookup c = some k -> ∀ C, XC X.K c C -> XCls X.K C /\ PySem.W.kitOne X.K (.ref C) (.type T) = some k) (hn : c ≠ "__name__" := by decide) (hd : (c == ("__debug__" : Str)) = false := by decide)
  (hs : starEach (a :: [.Name c p2]) X.env = (false, eval a X.env) :: starEach [.Name c p2] X.env := by rfl) (hs2 : starEach [.Name c p2] X.env = (false, eval (.Name c p2) X.env) :: starEach [] X.env := by rfl)
  (hpl : (backTo pos (starEach [.Name c p2] X.env)).any (·.1) = false := by rfl) : PD X (.Call (.Name "isinstance" p) [a, .Name c p2] [] pos) (misX tab ma) :=
 (pe_callB (call_isX (y := .ty T) (cv := .type T) (fun u z => z) hk) hg hm PyProof.Rows.boot_isinstance (pa_cons ha (pa_cons (pe_bltn (v := .ty T) hgc hmc hv rfl hn hd) pa_nil hs2) hs) (by decide) (by decide) hs hpl).imp fun σ H Q h => isX_imp (fun _ _ _ z => z) h
end
noncomputable def xclsB (K : PySem.W.Frag) (C : Addr) : Bool :=
 (PySem.W.findIn K (.ref C) "__getattribute__" == some (some (.builtin "BaseException.__getattribute__"))) && (PySem.W.findIn K (.ref C) "__getattr__" == some none) && (PySem.W.findIn K (.ref C) "__class__" == some (some (.builtin "object.__class__"))) &&
  (PySem.W.mroIn K C (.type "object") == some true) && (PySem.W.mroIn K C (.type "BaseException") == some true)
theorem xcls_of {K : PySem.W.Frag} {C : Addr} (h : xclsB K C = true) : XCls K C := by
 unfold xclsB at h
 simp only [Bool.and_eq_true, beq_iff_eq] at h
 exact ⟨h.1.1.1.1, h.1.1.1.2, h.1.1.2, h.1.2, h.2⟩
theorem XC.eq {K : PySem.W.Frag} {c : Str} {C x : Addr} (h : XC K c C) (e : PySem.W.nsIn K mainGlobals c = some (some (.ref x))) : C = x := by
 have := h.1.symm.trans e
 cases this; rfl
theorem lookup_all {P : Str -> Bool -> Prop} : ∀ {tab : List (Str × Bool)}, (∀ p ∈ tab, P p.1 p.2) -> ∀ c k, tab.lookup c = some k -> P c k := fun h c k e => h (c, k) (PySem.mem_of_lookup e)
end L2
namespace L2
open PySem PySem.Spec PyProof.Rows
section
variable {X : Cx} {a : Expr} {ma : ME} {pos : Pos}
open PySem.SeqAt in
end
end L2
namespace L2
open PySem PySem.Spec PyProof.Rows
@[irreducible] noncomputable def mcompmB (src : List (Option Nat)) (mi : ML) (i j : Nat) (elt : MEm) : MEm := fun ρ => match ρ[i]? with
 | some (some (.ob rr r0)) => (match mi ρ with
  | some its => (match compDm elt its ((blkRo src ρ).set j (some (.own r0))) [] with
   | some (out, ρb) => (match ρb[j]? with | some (some (.own r1)) => some (.lst out, ρ.set i (some (.ob rr r1))) | _ => none)
   | none => none)
  | none => none)
 | _ => none
theorem Rl.blkJB {K : PySem.W.Frag} {F0 H0 F H : Hp} {σ : St} {ρ : Ro} (r : Rl K F0 H0 F H σ ρ) {src : List (Option Nat)} {i j : Nat} {r0 : List D} {rr p : Addr} (hs : src[j]? = some (some i)) (hi : ρ[i]? = some (some (.ob rr r0))) (hp : H p = none) :
  Rl K F (upd (del H rr) p (.lst [])) F (upd H p (.lst [])) (blk0 src σ) ((blkRo src ρ).set j (some (.own r0))) := by
 obtain ⟨rb, no⟩ := r.blk src
 obtain ⟨ha, b, z, xs, c, d⟩ := r.ob i rr r0 hi
 have hrp : rr ≠ p := fun w => by rw [w, hp] at c; cases c
 have hF : F p = none := r.fh.free hp
 have only : ∀ k ds, ((blkRo src ρ).set j (some (S.own r0)))[k]? = some (some (.own ds)) -> k = j /\ ds = r0 := fun k ds e => by
  by_cases hk : j = k
  ·subst hk
   have hl : j < (blkRo src ρ).length := by
    rcases Nat.lt_or_ge j (blkRo src ρ).length with w | w
    ·exact w
    ·rw [List.getElem?_eq_none (by simpa using w)] at e; cases e
   rw [List.getElem?_set_self hl] at e; cases e; exact ⟨rfl, rfl⟩
  ·rw [List.getElem?_set_ne hk] at e; exact absurd e (no k ds).1
 have nob' : ∀ (k : Nat) (q : Addr) (ds : List D), ((blkRo src ρ).set j (some (S.own r0)))[k]? ≠ some (some (S.ob q ds)) := fun k q ds e => (no k ds).2 q (set_ob e).2
 refine ⟨⟨Same.refl F, fun b u e => ?_, r.fh.put hF, fun b e n => absurd e n, fun _ _ _ z => z⟩, by simp [rb.len], fun k d' e => ?_, fun k ds e => ?_, fun k l q ds es hkl e1 e2 => ?_, fun k q ds e => absurd e (nob' k q ds), fun k l q ds es e => absurd e (nob' k q ds), fun k l q q' ds es e => absurd e (nob' k q ds)⟩
 ·by_cases hb : b = p
  ·subst hb; rw [upd_same] at e ⊢; exact e
  ·rw [upd_ne hb] at e ⊢
   by_cases hr : b = rr
   ·rw [hr, del_self] at e; cases e
   ·rw [del_ne hr] at e; exact e
 ·by_cases hk : j = k
  ·subst hk
   have hl : j < (blkRo src ρ).length := by
    rcases Nat.lt_or_ge j (blkRo src ρ).length with w | w
    ·exact w
    ·rw [List.getElem?_eq_none (by simpa using w)] at e; cases e
   rw [List.getElem?_set_self hl] at e; cases e
  ·rw [List.getElem?_set_ne hk] at e
   exact rb.sh k d' e
 ·obtain ⟨rfl, rfl⟩ := only k ds e
  exact ⟨rr, xs, blk0_at hs ha, b, by rw [upd_ne hrp]; exact c, d, by rw [upd_ne hrp, del_self]⟩
 ·exact absurd ((only k ds e1).1.trans (only l es e2).1.symm) hkl
theorem comp_tdmB {K : PySem.W.Frag} {src : List (Option Nat)} {mi : ML} {i j : Nat} {elt : MEm} (hs : src[j]? = some (some i)) (hj : j ≠ 0) {σ : St} {H : Hp} {Q : VK} (h : TDm K (mcompmB src mi i j elt) σ H Q) : tComp src (TId K mi) (gName 0) tYes (TDm K elt) σ H Q := by
 obtain ⟨F0, H0, F, ρ, g, ρ', rl, e, q⟩ := h
 unfold mcompmB at e
 split at e
 ·rename_i rr r0 hi
  split at e
  ·rename_i its h1
   split at e
   ·rename_i out ρb h2
    split at e
    ·rename_i r1 h3
     cases e
     refine ⟨F0, H0, F, ρ, its, rl, h1, fun J F1 H1 x1 I => ?_⟩
     intro p hp
     have rl1 := rl.go x1
     obtain ⟨a1, a2, a5, ys, a3, a4⟩ := rl1.ob i rr r0 hi
     have hrp : rr ≠ p := fun w => by rw [w, hp] at a3; cases a3
     have hF1 : F1 p = none := x1.fh.free hp
     have rb := rl1.blkJB hs hi hp
     have hdp : del H1 rr p = none := by rw [del_ne (Ne.symm hrp)]; exact hp
     refine ⟨fun k m σ' H' => ∃ F' ρ' acc xs, Rl K F1 (upd (del H1 rr) p (.lst xs)) F' H' σ' ρ' /\ Reps K F' xs acc /\ σ'[j]? = some (some (.ref rr)) /\ k <= its.length /\ m = its.length - k /\ compDm elt (its.drop k) ρ' acc = some (out, ρb),
      ⟨_, F1, _, [], [], rb, .nil, blk0_at hs a1, Nat.zero_le _, rfl, h2⟩, ?_⟩
     rintro k m σ' H' ⟨F', ρ', acc, xs, rl', ra, hσ, hk', rfl, e'⟩
     have hF' : F' p = none := by
      cases w : F' p with
      | none => rfl
      | some o => have := rl'.ext.new p hF1 (by rw [w]; simp); rw [upd_same] at this; cases this
     have hH' : H' p = some (.lst xs) := rl'.ext.hh p _ upd_same
     by_cases hlt : k < its.length
     ·right
      have hd := List.getElem?_eq_getElem hlt
      refine ⟨I.go k F' H' rl'.ext.ff rl'.fh hlt, fun σ2 H2 => ∃ F2 ρ2 acc2 xs2, Rl K F1 (upd (del H1 rr) p (.lst xs2)) F2 H2 σ2 ρ2 /\ Reps K F2 xs2 acc2 /\ σ2[j]? = some (some (.ref rr)) /\ compDm elt (its.drop (k + 1)) ρ2 acc2 = some (out, ρb), ?_, fun x H2 y => ?_⟩
      ·rintro σ2 H2 ⟨F2, ρ2, acc2, xs2, b1, b2, b3, b4⟩
       exact ⟨its.length - (k + 1), by omega, F2, ρ2, acc2, xs2, b1, b2, b3, hlt, rfl, b4⟩
      ·obtain ⟨F2, x2, r2⟩ := I.yld k F' H' x H2 _ rl'.ext.ff rl'.fh hd y
       rw [drop_get hd] at e'
       unfold compDm at e'
       unfold gName tYes
       refine iteT ?_
       split at e'
       ·rename_i d ρ1 h4
        split at e'
        ·rename_i hz
         refine ⟨F1, _, F2, _, d, ρ1, (rl'.go x2).set r2, h4, fun v F5 H5 rl5 s5 r5 => ?_⟩
         have hF5 : F5 p = none := by
          cases w : F5 p with
          | none => rfl
          | some o => have := rl5.ext.new p hF1 (by rw [w]; simp); rw [upd_same] at this; cases this
         refine ⟨xs, rl5.ext.hh p _ upd_same, by rw [ra.length]; exact hz, F5, ρ1, acc ++ [d], xs ++ [v], rl5.rebaseB hF5, (ra.mono (x2.ff.trans s5)).append (.cons r5 .nil), by rw [List.getElem?_set_ne (Ne.symm hj)]; exact hσ, e'⟩
        ·cases e'
       ·cases e'
     ·left
      have hieq : k = its.length := by omega
      subst hieq
      rw [List.drop_length] at e'
      have e' : some (acc, ρ') = some (out, ρb) := e'
      cases e'
      refine ⟨I.stop F' H' rl'.ext.ff rl'.fh, ?_⟩
      obtain ⟨q', zs, f1, f2, f3, f4, f5⟩ := rl'.own j r1 h3
      rw [hσ] at f1; cases f1
      have x : Ext F1 (del H1 rr) F' H' := ⟨rl'.ext.ff, fun b u hb => rl'.ext.hh b u (by
        have : b ≠ p := fun w => by rw [w, hdp] at hb; cases hb
        rw [upd_ne this]; exact hb), rl'.fh, fun b hb n => by
        have nb : b ≠ p := fun w => by rw [w, hF'] at n; exact n rfl
        have := rl'.ext.new b hb n
        rwa [upd_ne nb] at this, rl'.ext.nf⟩
      have xf := x.freeze hF' hdp hH'
      have s2 : Same F' (upd F' p (.lst xs)) := (Same.refl F').put hF'
      exact q _ _ _ (rl1.lentB hi xf (by rw [upd_ne hrp]; exact f2) f3 (f4.mono s2)) (x1.ff.trans xf.ff) (.lst (SqL.of upd_same) (ra.mono s2))
    ·cases e
   ·cases e
  ·cases e
 ·cases e
section
variable {X : Cx} {pos : Pos}
end
end L2
namespace L2
open PySem PySem.Spec PyProof.Rows
section
variable {X : Cx} {v : Expr} {mv : ME} {pos : Pos}
end
theorem us1 {P : List Value -> Prop} (h : ∀ a, P [a]) : ∀ us : List Value, us.length = 1 -> P us
 | [a], _ => h a
theorem us2 {P : List Value -> Prop} (h : ∀ a b, P [a, b]) : ∀ us : List Value, us.length = 2 -> P us
 | [a, b], _ => h a b
theorem us3 {P : List Value -> Prop} (h : ∀ a b c, P [a, b, c]) : ∀ us : List Value, us.length = 3 -> P us
 | [a, b, c], _ => h a b c
theorem us4 {P : List Value -> Prop} (h : ∀ a b c d, P [a, b, c, d]) : ∀ us : List Value, us.length = 4 -> P us
 | [a, b, c, d], _ => h a b c d
end L2
namespace L2
open PySem PySem.Spec PyProof.Rows
noncomputable def insI (a : Int) : List Int -> List Int
 | [] => [a]
 | b :: r => if a <= b then a :: b :: r else b :: insI a r
noncomputable def isort : List Int -> List Int
 | [] => []
 | a :: r => insI a (isort r)
theorem insI_perm (a : Int) : ∀ r, (insI a r).Perm (a :: r)
 | [] => .refl _
 | b :: r => by
  unfold insI
  split
  ·exact .refl _
  ·exact ((insI_perm a r).cons b).trans (.swap a b r)
theorem isort_perm : ∀ ns, (isort ns).Perm ns
 | [] => .refl _
 | a :: r => (insI_perm a _).trans ((isort_perm r).cons a)
theorem insI_sorted (a : Int) : ∀ r, r.Pairwise (· <= ·) -> (insI a r).Pairwise (· <= ·)
 | [], _ => List.pairwise_singleton ..
 | b :: r, h => by
  have h' := List.pairwise_cons.mp h
  unfold insI
  split
  ·rename_i hab
   refine List.pairwise_cons.mpr ⟨fun x hx => ?_, h⟩
   rcases List.mem_cons.mp hx with e | hx
   ·rw [e]; exact hab
   ·exact Int.le_trans hab (h'.1 x hx)
  ·rename_i hab
   refine List.pairwise_cons.mpr ⟨fun x hx => ?_, insI_sorted a r h'.2⟩
   rcases List.mem_cons.mp ((insI_perm a r).mem_iff.mp hx) with e | hx
   ·rw [e]; omega
   ·exact h'.1 x hx
theorem isort_sorted : ∀ ns, (isort ns).Pairwise (· <= ·)
 | [] => .nil
 | a :: r => insI_sorted a _ (isort_sorted r)
theorem sorted_uniq : ∀ {a b : List Int}, a.Perm b -> a.Pairwise (· <= ·) -> b.Pairwise (· <= ·) -> a = b
 | [], b, p, _, _ => (List.Perm.nil_eq p)
 | x :: a, [], p, _, _ => absurd p.length_eq (by simp)
 | x :: a, y :: b, p, ha, hb => by
  have h1 := List.pairwise_cons.mp ha
  have h2 := List.pairwise_cons.mp hb
  have e : x = y := by
   have m1 : x ∈ y :: b := p.mem_iff.mp List.mem_cons_self
   have m2 : y ∈ x :: a := p.mem_iff.mpr List.mem_cons_self
   rcases List.mem_cons.mp m1 with e | m1
   ·exact e
   ·rcases List.mem_cons.mp m2 with e | m2
    ·exact e.symm
    ·have := h2.1 x m1
     have := h1.1 y m2
     omega
  subst e
  rw [sorted_uniq ((List.perm_cons x).mp p) h1.2 h2.2]
theorem isort_length (ns : List Int) : (isort ns).length = ns.length := (isort_perm ns).length_eq
theorem ints_vals : ∀ {ns : List Int} {its : List Value}, Vals (ns.map V.int) its -> IntsAre its ns
 | [], _, .nil => .nil
 | n :: ns, _, .cons r t => by
  obtain ⟨k, rfl⟩ := r
  exact .cons n k (ints_vals t)
theorem vals_intsA : ∀ {ns : List Int} {its : List Value}, IntsAre its ns -> Vals (ns.map V.int) its
 | [], _, .nil => .nil
 | n :: ns, _, .cons _ k t => .cons ⟨k, rfl⟩ (vals_intsA t)
section
variable {X : Cx} {e : Expr} {pos : Pos}
noncomputable def rSorted (K : PySem.W.Frag) : List V -> Hp -> VK -> Prop := fun vs H Q => ∃ (p : Addr) (ns : List Int), vs = [.ref p] /\ SqL K H p (ns.map V.int) /\ ns.length < 64 /\ ∀ q, H q = none -> Q (.ref q) (upd H q (.lst ((isort ns).map V.int)))
theorem call_sorted : CallR X (.builtin "sorted") (rSorted X.K) := by
 intro pins s σ H xs us Q I r h
 obtain ⟨p, ns, rfl, sq, h64, q⟩ := h
 obtain ⟨u, rfl, rx⟩ := vals1 r
 cases rx
 obtain ⟨its, vr, pl, hz⟩ := I.list sq
 have hl : its.length = ns.length := by rw [<- vr.length, List.length_map]
 refine sorted_ints pl.isList (ints_vals vr) (by rw [hl]; exact h64) fun out ns' a1 a2 a3 => ?_
 have e : ns' = isort ns := sorted_uniq (a2.trans (isort_perm ns).symm) a3 (isort_sorted ns)
 subst e
 obtain ⟨c, hc⟩ := sortedAll_at s.heap its out
 refine ⟨.ref (s.heap.objs.size + 1), _, I.laid (t' := s.toks) (o := .lst ((isort ns).map V.int)) (fun b o z => sortedAll_old z) (Nat.le_succ _) ⟨?_, out.toList, c, vals_intsA a1, by simpa using hc⟩, rfl, q _ (I.hok.fresh (Nat.le_succ _))⟩
 rw [List.length_map, isort_length, sizeLine_eq]; omega
@[irreducible] noncomputable def msorted (m : ML) : ML := fun ρ => match m ρ with | some ds => (match intsD ds with | some ns => if ns.length < 64 then some ((isort ns).map .int) else none | none => none) | none => none
theorem pf_sorted {p : Pos} {m : ML} (hg : Gl X "sorted") (hm : X.mg "sorted" = none) (ha : PB X e m) (hv : bootBuiltins "sorted" = some (.builtin "sorted")) (hs : starEach (e :: []) X.env = (false, eval e X.env) :: starEach [] X.env := by rfl) (he : starEach [e] X.env = (false, eval e X.env) :: starEach [] X.env := by rfl) (hpl : (backTo pos (starEach [] X.env)).any (·.1) = false := by rfl) : PF X (.Call (.Name "sorted" p) [e] [] pos) (msorted m) :=
 (pe_callB call_sorted hg hm hv (pa_cons ha pa_nil hs) (by decide) (by decide) he hpl).imp fun σ H Q hpat => by
  obtain ⟨F0, H0, F, ρ, g, rl, e, q⟩ := hpat
  unfold msorted at e
  cases h1 : m ρ with
  | none => simp only [h1] at e; cases e
  | some ds =>
   simp only [h1] at e
   cases h2 : intsD ds with
   | none => simp only [h2] at e; cases e
   | some ns =>
    simp only [h2] at e
    split at e
    ·rename_i h64
     cases e
     refine ⟨F0, H0, F, ρ, ds, rl, h1, fun p xs F1 H1 x1 s1 r1 => ⟨p, ns, rfl, ?_, h64, fun w hw => ?_⟩⟩
     ·rw [<- intsD_reps r1 h2]; exact s1
     ·exact q w _ F1 _ (x1.trans (Ext.own x1.fh hw)) (x1.hh.free hw) (x1.fh.free hw) upd_same (reps_ints _)
    ·cases e
end
end L2
namespace L2
open PySem PySem.Spec PyProof.Rows
section
variable {X : Cx} {pins : List (Addr × Obj)} {σ : St}
set_option maxHeartbeats 8000000 in
theorem min_loopT {q : Addr} {mk : D -> Option D} (hk : KeyAt X (.ref q) mk) (hc : X.calm = true) (hu : X.A.units + 64 < cLine) {l I S : Addr} {xs : List V} {ds : List D} {kw : List (Str × Value)} {dm : D} (hIS : I ≠ S) (hlI : l ≠ I) (hlS : l ≠ S) :
  ∀ (r j : Nat) (H F H0 F0 : Hp) (s : Shared) (xb yb : V) (vb kb : Value) (db kdb : D) (c : Nat) (R : Result -> Shared -> Prop),
   ds.length - (j + 1) = r -> j + 1 <= ds.length -> Inv X pins σ H s -> Ext F0 H0 F H -> SqT X.K H l xs -> Reps X.K F xs ds -> s.heap.IsTupleIter I l (j + 1) -> s.heap.get? S = some (seqObj "list" #[vb, kb] c) -> FpOk X pins H I -> FpOk X pins H S ->
   RelV xb vb -> Rep X.K F xb db -> RelV yb kb -> Rep X.K F yb kdb -> minF mk (ds.drop (j + 1)) db kdb = some dm ->
   (∀ x v F' H' s', Inv X pins σ H' s' -> RelV x v -> Ext F0 H0 F' H' -> Rep X.K F' x dm -> R (.ok (.ret v)) s') ->
   codeAny (model X.prog X.w) X.A (.builtin "min.loop" ⟨[.ref I, .ref q, .ref S], kw⟩) R s := by
 have hname : (toString "min" ++ toString ".loop" : String) = "min.loop" := by decide
 intro r
 induction r with
 | zero =>
  intro j H F H0 F0 s xb yb vb kb db kdb c R hr hj I' ext sq rs hit hS fI fS rb pb ry py hm hR
  have hin : j + 1 = ds.length := by omega
  obtain ⟨its, vr, pl, _⟩ := I'.tuple sq
  have zl : its.length = ds.length := by rw [<- vr.length, rs.length]
  rw [hin, List.drop_length] at hm
  have hm : some db = some dm := hm
  cases hm
  refine codeAny_builtin PySem.F.entry_min_loop ?_
  rw [Around.under_plainId PySem.F.plain_min_loop _]
  show wpAny _ X.A.in1 (seqItems? (.ref S) >>= _) _ _ _
  refine wpAny_bind (wpAny_seqItems hS rfl ?_)
  show wpAny _ X.A.in1 (tryCatch (pyNext (.ref I)) _ >>= _) _ _ _
  refine wpAny_bind (wpAny_tryCatch (wpAny_pyNext_tuple_end (I'.ok.hd hc) hit pl (by simp; omega) fun h' hk' => ?_))
  have hS' : h'.get? S = some (seqObj "list" #[vb, kb] c) := hk' S _ (Ne.symm hIS) hS
  have s1 := Heap.SameBut.update h' S (Obj.mapSeq fun _ => (#[] : Array Value))
  show wpAny _ X.A.in1 (updateSeq S (fun _ => #[]) >>= _) _ _ _
  refine wpAny_bind ?_
  refine wpAny_updateSeq hS' rfl (wpAny_bind (wpAny_letGo (wpAny_pure ?_)))
  have I9 : Inv X pins σ H { s with heap := h'.update S (Obj.mapSeq fun _ => (#[] : Array Value)), toks := s.toks } := I'.turnedL (fp := [I, S]) (t' := s.toks) (fun b o hb e => by
   simp only [List.mem_cons, List.not_mem_nil, or_false, not_or] at hb
   exact (s1.2 b hb.2).trans (hk' b o hb.1 e)) (fun b hb => by
   simp only [List.mem_cons, List.not_mem_nil, or_false] at hb
   rcases hb with rfl | rfl <;> assumption)
  exact hR xb vb F H _ I9 rb ext pb
 | succ r ih =>
  intro j H F H0 F0 s xb yb vb kb db kdb c R hr hj I' ext sq rs hit hS fI fS rb pb ry py hm hR
  have hlt : j + 1 < ds.length := by omega
  obtain ⟨its, vr, pl, _⟩ := I'.tuple sq
  have zl : its.length = ds.length := by rw [<- vr.length, rs.length]
  obtain ⟨d, hd⟩ : ∃ d, ds[j + 1]? = some d := ⟨_, List.getElem?_eq_getElem hlt⟩
  obtain ⟨x, hx, px⟩ := rs.get hd
  obtain ⟨v, hv, rx⟩ := vr.get hx
  rw [drop_get hd] at hm
  unfold minF at hm
  cases hkd : mk d with
  | none => rw [hkd] at hm; cases hm
  | some kd =>
   rw [hkd] at hm
   dsimp only at hm
   refine codeAny_builtin PySem.F.entry_min_loop ?_
   rw [Around.under_plainId PySem.F.plain_min_loop _]
   show wpAny _ X.A.in1 (seqItems? (.ref S) >>= _) _ _ _
   refine wpAny_bind (wpAny_seqItems hS rfl ?_)
   show wpAny _ X.A.in1 (tryCatch (pyNext (.ref I)) _ >>= _) _ _ _
   refine wpAny_bind (wpAny_tryCatch (wpAny_pyNext_tuple_item hit pl (by simpa using hv) fun h1 hit1 s1 => ?_))
   have I1 : Inv X pins σ H { s with heap := h1, toks := s.toks } := I'.turnedL (fp := [I]) (fun b o hb e => s1.extBut b o (by simpa using hb) e) (fun b hb => by rw [List.mem_singleton.mp hb]; exact fI)
   have hS1 : h1.get? S = some (seqObj "list" #[vb, kb] c) := s1.extBut _ _ (Ne.symm hIS) hS
   obtain ⟨oI, eI, cI, dI⟩ := id hit1
   have Ip := I1.pin2 fI fS eI hS1 (fun v z => by rw [dI] at z; cases z) (fun v z => by cases z)
   show wpAny _ X.A.in1 (tryCatch (holding [v] (call (.ref q) [v])) _ >>= _) _ _ _
   refine wpAny_bind (wpAny_tryCatch (wpAny_holding (wpAny_mono (hk (pins ++ [(I, oI), (S, seqObj "list" #[vb, kb] c)]) σ H F _ x v d kd Ip ext.fh px rx hkd) (fun w s2 hw => ?_) fun _ _ z => z.elim)))
   obtain ⟨y, F2, H2, I2, rw2, x2, py2⟩ := hw
   have pI := I2.pin (I, oI) (by simp)
   have pS := I2.pin (S, seqObj "list" #[vb, kb] c) (by simp)
   have I2' : Inv X pins σ H2 s2 := I2.unpinned
   have fI2 : FpOk X pins H2 I := fI.now pI.2.1
   have fS2 : FpOk X pins H2 S := fS.now pS.2.1
   have hit2 : s2.heap.IsTupleIter I l (j + 1 + 1) := ⟨oI, pI.1, cI, dI⟩
   cases hlt8 : ltF 8 kd kdb with
   | none => rw [hlt8] at hm; cases hm
   | some bt =>
    rw [hlt8] at hm
    have hcmp := lt_at I2' 8 (A := X.A.in1) (by show X.A.units + 1 + 8 < cLine; omega) (py2.mono x2.fh) ((py.mono x2.ff).mono x2.fh) rw2 ry hlt8
    show wpAny _ X.A.in1 (tryCatch (holding [v, w] (richCompare .Lt w kb >>= _)) _ >>= _) _ _ _
    refine wpAny_bind (wpAny_tryCatch (wpAny_holding (wpAny_bind (hcmp X.prog X.w _ _ ?_))))
    refine wpAny_bind (wpAny_holding (wpAny_truthy_bool ?_))
    refine wpAny_bind (wpAny_letGo (wpAny_pure ?_))
    cases bt with
    | true =>
     have s3 := Heap.SameBut.update s2.heap S (Obj.mapSeq fun _ => #[v, w])
     obtain ⟨c2, hc2⟩ : ∃ c2, (s2.heap.update S (Obj.mapSeq fun _ => #[v, w])).get? S = some (seqObj "list" #[v, w] c2) := ⟨_, get?_update_seq pS.1 fun _ => #[v, w]⟩
     simp only [if_true]
     refine wpAny_bind ?_
     refine wpAny_updateSeq pS.1 rfl (wpAny_bind (wpAny_letGo ?_))
     rw [hname]
     have I3 : Inv X pins σ H2 { s2 with heap := s2.heap.update S (Obj.mapSeq fun _ => #[v, w]), toks := s2.toks } := I2'.turnedL (fp := [S]) (fun b o hb e => (s3.2 b (by simpa using hb)).trans e) (fun b hb => by rw [List.mem_singleton.mp hb]; exact fS2)
     refine wpAny_pure ⟨plainId_quiet PySem.F.plain_min_loop _, ih (j + 1) H2 F2 H0 F0 _ x y v w d kd c2 R (by omega) hlt I3 (ext.trans x2) (x2.hh.seqT sq) (rs.mono x2.ff) ⟨oI, (s3.2 I hIS).trans pI.1, cI, dI⟩ hc2 fI2 fS2 rx (px.mono x2.ff) rw2 py2 hm hR⟩
    | false =>
     simp only [Bool.false_eq_true, if_false]
     refine wpAny_bind (wpAny_letGo ?_)
     rw [hname]
     refine wpAny_pure ⟨plainId_quiet PySem.F.plain_min_loop _, ih (j + 1) H2 F2 H0 F0 _ xb yb vb kb db kdb c R (by omega) hlt I2' (ext.trans x2) (x2.hh.seqT sq) (rs.mono x2.ff) hit2 pS.1 fI2 fS2 rb (pb.mono x2.ff) ry (py.mono x2.ff) hm hR⟩
theorem args_min_2k (a b v : Value) : argsOk "min" ⟨[a, b], [(Str.ofString "key", v)]⟩ := by unfold argsOk; kernel_rfl
set_option maxHeartbeats 8000000 in
theorem min_topT {q : Addr} {mk : D -> Option D} (hk : KeyAt X (.ref q) mk) (hc : X.calm = true) (hu : X.A.units + 64 < cLine) {xs : List V} {ds : List D} {dm : D} {Hb Fb : Hp} {sb : Shared} {E : Value -> Shared -> Prop} {Q : Value -> Shared -> Prop}
  {u1 u2 : Value} (Ib : Inv X pins σ Hb sb) (sfb : Same Fb Hb) (vb : Vals xs [u1, u2]) (rsb : Reps X.K Fb xs ds) (hm : minN mk ds = some dm)
  (hQ : ∀ x v F' H' s', Inv X pins σ H' s' -> RelV x v -> Ext Fb Hb F' H' -> Rep X.K F' x dm -> Q v s') :
  wpAny (model X.prog X.w) X.A (call (.builtin "min") [u1, u2] [(Str.ofString "key", .ref q)]) Q E sb := by
 have hname : (toString "min" ++ toString ".loop" : String) = "min.loop" := by decide
 refine kmk_tree PySem.F.kind_min PySem.F.plain_min PySem.F.entry_min (args_min_2k _ _ _) ?_
 show wpAny _ X.A.in1 (Builtin.Builtins.bindParams "min" ["key", "default"] 0 ⟨[], [(Str.ofString "key", .ref q)]⟩ >>= _) _ _ sb
 refine wpAny_bind (wpAny_of_eq (show Builtin.Builtins.bindParams "min" ["key", "default"] 0 ⟨[], [(Str.ofString "key", .ref q)]⟩ = pure [some (.ref q), none] from rfl) ?_)
 have hzl : xs.length = 2 := vb.length
 have hfr : Hb sb.heap.objs.size = none := Ib.hok.fresh (Nat.le_refl _)
 show wpAny _ X.A.in1 (newTuple [u1, u2] >>= _) _ _ sb
 refine wpAny_bind (wpAny_newTuple ?_ (by show 2 <= sizeLine; rw [sizeLine_eq]; decide))
 have I : Inv X pins σ (upd Hb sb.heap.objs.size (.tup xs)) { sb with heap := sb.heap.push (seqObj "tuple" #[u1, u2] 0), toks := sb.toks } := Ib.laid (t' := sb.toks) (fun b u e => Heap.get?_push_of_some _ e) (Nat.le_refl _) ⟨by rw [hzl, sizeLine_eq]; decide, _, vb, ⟨_, Heap.get?_push_size _ rfl, rfl, _, rfl⟩⟩
 have xb : Ext Fb Hb (upd Fb sb.heap.objs.size (.tup xs)) (upd Hb sb.heap.objs.size (.tup xs)) := Ext.laid sfb hfr
 have sf : Same (upd Fb sb.heap.objs.size (.tup xs)) (upd Hb sb.heap.objs.size (.tup xs)) := xb.fh
 have sq : SqT X.K (upd Hb sb.heap.objs.size (.tup xs)) sb.heap.objs.size xs := SqT.of upd_same
 have rs : Reps X.K (upd Fb sb.heap.objs.size (.tup xs)) xs ds := rsb.mono xb.ff
 have hQ : ∀ x v F' H' s', Inv X pins σ H' s' -> RelV x v -> Ext (upd Fb sb.heap.objs.size (.tup xs)) (upd Hb sb.heap.objs.size (.tup xs)) F' H' -> Rep X.K F' x dm -> Q v s' := fun x v F' H' s' a b c d => hQ x v F' H' s' a b (xb.trans c) d
 generalize upd Fb sb.heap.objs.size (.tup xs) = F at *
 generalize upd Hb sb.heap.objs.size (.tup xs) = H at *
 show wpAny _ X.A.in1 (pyIter (.ref sb.heap.objs.size) >>= _) _ _ { sb with heap := sb.heap.push (seqObj "tuple" #[u1, u2] 0), toks := sb.toks }
 generalize sb.heap.objs.size = l at *
 generalize ({ sb with heap := sb.heap.push (seqObj "tuple" #[u1, u2] 0), toks := sb.toks } : Shared) = s at *
 obtain ⟨its, vr, pl, _⟩ := I.tuple sq
 have hls := pl
 obtain ⟨ol, hol, _⟩ := id hls
 have hll : l < s.heap.objs.size := Heap.lt_size hol
 refine wpAny_bind (wpAny_pyIter_tuple hls ?_)
 refine wpAny_bind (wpAny_newList ?_ (Nat.zero_le _))
 rw [hname]
 refine wpAny_pure ⟨plainId_quiet PySem.F.plain_min_loop _, ?_⟩
 generalize hIo : ({ cls := .type "tuple_iterator", data := .fields #[.ref l, .int 0 0] } : Obj) = oI0
 have hS : (s.heap.push oI0).objs.size = s.heap.objs.size + 1 := size_push' ..
 have hlI : l ≠ s.heap.objs.size := Nat.ne_of_lt hll
 have hlS : l ≠ (s.heap.push oI0).objs.size := by rw [hS]; exact Nat.ne_of_lt (Nat.lt_succ_of_lt hll)
 have hIS : s.heap.objs.size ≠ (s.heap.push oI0).objs.size := by rw [hS]; exact Nat.ne_of_lt (Nat.lt_succ_self _)
 have gI : ((s.heap.push oI0).push (seqObj "list" #[] 0)).get? s.heap.objs.size = some oI0 := Heap.get?_push_of_some _ (Heap.get?_push_size _ (by rw [<- hIo]; rfl))
 have gS : ((s.heap.push oI0).push (seqObj "list" #[] 0)).get? (s.heap.push oI0).objs.size = some (seqObj "list" #[] 0) := Heap.get?_push_size _ rfl
 have fI : FpOk X pins H s.heap.objs.size := I.fpOk (Nat.le_refl _) (I.hok.fresh (Nat.le_refl _))
 have fS : FpOk X pins H (s.heap.push oI0).objs.size := I.fpOk (by rw [hS]; exact Nat.le_succ _) (I.hok.fresh (by rw [hS]; exact Nat.le_succ _))
 have I0 : Inv X pins σ H { s with heap := (s.heap.push oI0).push (seqObj "list" #[] 0), toks := s.toks } := I.turnedL (fp := []) (fun b o _ e => Heap.get?_push_of_some _ (Heap.get?_push_of_some _ e)) (fun b hb => by cases hb)
 generalize (s.heap.push oI0).objs.size = S at *
 generalize hI : s.heap.objs.size = J at *
 generalize (s.heap.push oI0).push (seqObj "list" #[] 0) = h0 at *
 have hit : h0.IsTupleIter J l 0 := ⟨_, gI, by rw [<- hIo], by rw [<- hIo]; rfl⟩
 have zl : its.length = ds.length := by rw [<- vr.length, rs.length]
 obtain ⟨its', vr', pl', _⟩ := I0.tuple sq
 have zl' : its'.length = ds.length := by rw [<- vr'.length, rs.length]
 refine codeAny_builtin PySem.F.entry_min_loop ?_
 rw [Around.under_plainId PySem.F.plain_min_loop _]
 show wpAny _ X.A.in1 (seqItems? (.ref S) >>= _) _ _ _
 refine wpAny_bind (wpAny_seqItems gS rfl ?_)
 show wpAny _ X.A.in1 (tryCatch (pyNext (.ref J)) _ >>= _) _ _ _
 cases ds with
 | nil => cases hm
 | cons d ds =>
  obtain ⟨x, hx, px⟩ := rs.get (i := 0) (d := d) rfl
  obtain ⟨v, hv, rx⟩ := vr'.get hx
  unfold minN at hm
  dsimp only at hm
  cases hkd : mk d with
  | none => rw [hkd] at hm; cases hm
  | some kd =>
   rw [hkd] at hm
   dsimp only at hm
   refine wpAny_bind (wpAny_tryCatch (wpAny_pyNext_tuple_item hit pl' (by simpa using hv) fun h1 hit1 s1 => ?_))
   have I1 := I0.turnedL (h' := h1) (t' := s.toks) (fp := [J]) (fun b o hb e => s1.extBut b o (by simpa using hb) e) (fun b hb => by rw [List.mem_singleton.mp hb]; exact fI)
   have hS1 : h1.get? S = some (seqObj "list" #[] 0) := s1.extBut _ _ (Ne.symm hIS) gS
   obtain ⟨oI, eI, cI, dI⟩ := id hit1
   have Ip := I1.pin2 fI fS eI hS1 (fun v z => by rw [dI] at z; cases z) (fun v z => by cases z)
   show wpAny _ X.A.in1 (tryCatch (holding [v] (call (.ref q) [v])) _ >>= _) _ _ _
   refine wpAny_bind (wpAny_tryCatch (wpAny_holding (wpAny_mono (hk (pins ++ [(J, oI), (S, seqObj "list" #[] 0)]) σ H F _ x v d kd Ip sf px rx hkd) (fun w s2 hw => ?_) fun _ _ z => z.elim)))
   obtain ⟨y, F2, H2, I2, rw2, x2, py2⟩ := hw
   have pI := I2.pin (J, oI) (by simp)
   have pS := I2.pin (S, seqObj "list" #[] 0) (by simp)
   have I2' : Inv X pins σ H2 s2 := I2.unpinned
   have fI2 : FpOk X pins H2 J := fI.now pI.2.1
   have fS2 : FpOk X pins H2 S := fS.now pS.2.1
   have s3 := Heap.SameBut.update s2.heap S (Obj.mapSeq fun _ => #[v, w])
   obtain ⟨c2, hc2⟩ : ∃ c2, (s2.heap.update S (Obj.mapSeq fun _ => #[v, w])).get? S = some (seqObj "list" #[v, w] c2) := ⟨_, get?_update_seq pS.1 fun _ => #[v, w]⟩
   show wpAny _ X.A.in1 (updateSeq S (fun _ => #[v, w]) >>= _) _ _ _
   refine wpAny_bind (wpAny_updateSeq pS.1 rfl ?_)
   rw [hname]
   have I3 : Inv X pins σ H2 { s2 with heap := s2.heap.update S (Obj.mapSeq fun _ => #[v, w]), toks := s2.toks } := I2'.turnedL (fp := [S]) (fun b o hb e => (s3.2 b (by simpa using hb)).trans e) (fun b hb => by rw [List.mem_singleton.mp hb]; exact fS2)
   refine wpAny_pure ⟨plainId_quiet PySem.F.plain_min_loop _, min_loopT hk hc hu (ds := d :: ds) (dm := dm) hIS hlI hlS _ 0 H2 F2 H F _ x y v w d kd c2 _ rfl (by simp) I3 x2 (x2.hh.seqT sq) (rs.mono x2.ff) ⟨oI, (s3.2 J hIS).trans pI.1, cI, dI⟩ hc2 fI2 fS2 rx (px.mono x2.ff) rw2 py2 hm fun x v F' H' s' a b c d => hQ x v F' H' s' a b c d⟩
@[irreducible] noncomputable def mmin2K (mk : D -> Option D) (m : ML) : ME := fun ρ => (m ρ).bind fun ds => minN mk ds
theorem mmin2K_ev {mk : D -> Option D} {m : ML} {ρ : Ro} {ds : List D} (h1 : m ρ = some ds) : mmin2K mk m ρ = minN mk ds := by
 unfold mmin2K
 rw [h1]; rfl
theorem pd_min2K {q : Addr} {mk : D -> Option D} {x : Str} {p pf kp pos : Pos} {e1 e2 : Expr} {m : ML} (hk : KeyAt X (.ref q) mk) (hc : X.calm = true) (hu : X.A.units + 64 < cLine) (hg : Gl X "min") (hm : X.mg "min" = none) (hgf : Gl X x) (hmf : X.mg x = some (.ref q)) (ha : PAs X [e1, e2] m) (hl : ∀ ρ ds, m ρ = some ds -> ds.length = 2)
  (hdb : (x == ("__debug__" : Str)) = false := by decide) (hs : starEach [e1, e2] X.env = (false, eval e1 X.env) :: starEach [e2] X.env := by rfl) (hpl : (backTo pos (starEach [e2] X.env)).any (·.1) = false := by rfl) :
  PD X (.Call (.Name "min" p) [e1, e2] [⟨some "key", .Name x pf, kp⟩] pos) (mmin2K mk m) := by
 intro pins s σ H Q I h
 obtain ⟨F0, H0, F, ρ, g, rl, em, q0⟩ := h
 unfold mmin2K at em
 cases h1 : m ρ with
 | none => rw [h1] at em; cases em
 | some ds =>
  rw [h1, Option.bind_some] at em
  refine wpAny_Call_Name_kw (ld_blt I hg hm PyProof.Rows.boot_min ?_ (by decide) (by decide))
  have A := ha pos pins s σ H (fun vs H1 => ∃ F1, Ext F H F1 H1 /\ Reps X.K F1 vs ds) I ⟨F0, H0, F, ρ, ds, rl, h1, fun vs F1 H1 x1 r1 => ⟨F1, x1, r1⟩⟩
  refine callWith_kw (thn A fun us s1 hpat => ?_) (by rw [hs]; rfl) (by rw [hs]; show ((false, eval e1 X.env) :: backTo pos (starEach [e2] X.env)).any (·.1) = false; rw [List.any_cons, hpl]; rfl)
  obtain ⟨vs, H1, I1, r1, F1, x1, rs⟩ := hpat
  have B := pk_cons (nm := some "key") (kpos := kp) (pe_glob (v := .ref q) (pos := pf) hgf hmf rfl hdb) pk_nil pos pins s1 σ H1 (fun vs H2 => vs = [.ref q] /\ H2 = H1) I1 ⟨rfl, rfl⟩
  refine thn B fun us' s2 hpat => ?_
  obtain ⟨ws, H2, I2, r2, ev, eH⟩ := hpat
  subst ev eH
  obtain ⟨w1, rfl, ru1⟩ := vals1 r2
  cases ru1
  have hl2 : us.length = 2 := by rw [<- r1.length, rs.length, hl ρ ds h1]
  match us, hl2, r1 with
  | [u1, u2], _, r1 => exact min_topT hk hc hu I2 x1.fh r1 rs em fun x v F' H' s' I' rx x3 px => ⟨x, H', I', rx, q0 x F' H' (x1.trans x3) px⟩
end
end L2
namespace L2
open PySem PySem.Spec PyProof.Rows
inductive RPs (K : PySem.W.Frag) (F H : Hp) : List Addr -> List (List D) -> Prop
 | nil : RPs K F H [] []
 | cons {q : Addr} {xs : List V} {ds : List D} {qs : List Addr} {dss : List (List D)} : H q = some (.lst xs) -> Reps K F xs ds -> RPs K F H qs dss -> RPs K F H (q :: qs) (ds :: dss)
section
variable {K : PySem.W.Frag} {F H F' H' : Hp}
theorem RPs.mono (e : Same F F') (k : Same H H') : ∀ {qs : List Addr} {dss : List (List D)}, RPs K F H qs dss -> RPs K F' H' qs dss
 | _, _, .nil => .nil
 | _, _, .cons h r t => .cons (k _ _ h) (r.mono e) (RPs.mono e k t)
theorem RPs.keep (e : Same F F') : ∀ {qs : List Addr} {dss : List (List D)}, (∀ q ∈ qs, ∀ o, H q = some o -> H' q = some o) -> RPs K F H qs dss -> RPs K F' H' qs dss
 | _, _, _, .nil => .nil
 | _, _, k, .cons h r t => .cons (k _ List.mem_cons_self _ h) (r.mono e) (RPs.keep e (fun q hq => k q (List.mem_cons_of_mem _ hq)) t)
theorem RPs.snoc {q : Addr} {xs : List V} {ds : List D} (h : H q = some (.lst xs)) (r : Reps K F xs ds) : ∀ {qs : List Addr} {dss : List (List D)}, RPs K F H qs dss -> RPs K F H (qs ++ [q]) (dss ++ [ds])
 | _, _, .nil => .cons h r .nil
 | _, _, .cons a b t => .cons a b (RPs.snoc h r t)
theorem RPs.length : ∀ {qs : List Addr} {dss : List (List D)}, RPs K F H qs dss -> qs.length = dss.length
 | _, _, .nil => rfl
 | _, _, .cons _ _ t => congrArg (· + 1) (RPs.length t)
theorem RPs.get : ∀ {qs : List Addr} {dss : List (List D)} {i : Nat} {ds : List D}, RPs K F H qs dss -> dss[i]? = some ds -> ∃ q xs, qs[i]? = some q /\ H q = some (.lst xs) /\ Reps K F xs ds
 | _, _, _, _, .nil, e => by simp at e
 | _, _, 0, _, .cons a b _, e => by simp at e; subst e; exact ⟨_, _, rfl, a, b⟩
 | _, _, i + 1, ds, .cons _ _ t, e => by
  obtain ⟨q, xs, h1, h2⟩ := RPs.get (i := i) (ds := ds) t (by simpa using e)
  exact ⟨q, xs, by simpa using h1, h2⟩
theorem RPs.some : ∀ {qs : List Addr} {dss : List (List D)}, RPs K F H qs dss -> ∀ q ∈ qs, ∃ o, H q = some o
 | _, _, .cons a _ t, q, hq => by
  rcases List.mem_cons.mp hq with e | hq
  ·rw [e]; exact ⟨_, a⟩
  ·exact RPs.some t q hq
end
noncomputable abbrev MP := Ro -> Option (List (List D))
structure Pots (K : PySem.W.Frag) (H F' H' : Hp) (p : Addr) (qs : List Addr) (dss : List (List D)) : Prop where
 hp : H p = none
 fp : F' p = none
 at' : H' p = some (.lst (qs.map V.ref))
 new : ∀ q ∈ qs, H q = none /\ F' q = none
 nd : (p :: qs).Nodup
 rep : RPs K F' H' qs dss
noncomputable def TPt (K : PySem.W.Frag) (m : MP) : TE := fun σ H Q => ∃ F0 H0 F ρ dss, Rl K F0 H0 F H σ ρ /\ m ρ = some dss /\ ∀ p qs F' H', Ext F H F' H' -> Pots K H F' H' p qs dss -> Q (.ref p) H'
noncomputable def PP (X : Cx) (e : Expr) (m : MP) : Prop := PE X e (TPt X.K m)
theorem Ext.stays {F H F' H' : Hp} {p : Addr} {o : HO} (x : Ext F H F' H') (hF : F p = none) (hH : H p = some o) : F' p = none := by
 cases q : F' p with
 | none => rfl
 | some u => have := x.new p hF (by rw [q]; simp); rw [this] at hH; cases hH
section
variable {X : Cx} {a b c e : Expr} {pos : Pos}
noncomputable def mlst1 (m : ML) : MP := fun ρ => (m ρ).map fun ds => [ds]
theorem pp_lst1 {m : ML} (ha : PF X a m) (hs : starEach (a :: []) X.env = (false, eval a X.env) :: starEach [] X.env := by rfl) : PP X (.List [a] pos) (mlst1 m) := (pe_lst (pa_cons ha pa_nil hs)).imp fun σ H Q hpat => by
 obtain ⟨F0, H0, F, ρ, dss, rl, e, q⟩ := hpat
 unfold mlst1 at e
 cases h1 : m ρ with
 | none => rw [h1] at e; cases e
 | some ds =>
  rw [h1] at e; cases e
  refine ⟨F0, H0, F, ρ, ds, rl, h1, fun w xs F1 H1 x1 hw hF hH rs => ⟨by show 1 <= sizeLine; rw [sizeLine_eq]; decide, fun p hp => ?_⟩⟩
  have hne : w ≠ p := fun z => by rw [z, hp] at hH; cases hH
  refine q p [w] F1 _ (x1.trans (Ext.own x1.fh hp)) ⟨x1.hh.free hp, x1.fh.free hp, upd_same, fun z hz => ?_, ?_, .cons (by rw [upd_ne hne]; exact hH) rs .nil⟩
  ·rw [List.mem_singleton.mp hz]; exact ⟨hw, hF⟩
  ·simp only [List.nodup_cons, List.mem_singleton, List.not_mem_nil, not_false_eq_true, List.nodup_nil, and_true]
   exact fun z => hne z.symm
noncomputable def compP (g : Tg) (elt : ML) : List D -> Ro -> List (List D) -> Option (List (List D))
 | [], _, acc => some acc
 | it :: its, ρ, acc => match tgD g it ρ with
  | some ρ1 => (match elt ρ1 with
   | some ds => if acc.length < sizeLine then compP g elt its ρ1 (acc ++ [ds]) else none
   | none => none)
  | none => none
noncomputable def mcompP (src : List (Option Nat)) (mi : ML) (g : Tg) (elt : ML) : MP := fun ρ => (mi ρ).bind fun its => compP g elt its (blkRo src ρ) []
theorem comp_tp {K : PySem.W.Frag} {src : List (Option Nat)} {mi : ML} {g : Tg} {elt : ML} {σ : St} {H : Hp} {Q : VK} (h : TPt K (mcompP src mi g elt) σ H Q) : tComp src (TId K mi) (TGd K g) (TC K cyes) (TF K elt) σ H Q := by
 obtain ⟨F0, H0, F, ρ, out, rl, e, q⟩ := h
 unfold mcompP at e
 cases h1 : mi ρ with
 | none => rw [h1] at e; cases e
 | some its =>
  rw [h1] at e
  have e : compP g elt its (blkRo src ρ) [] = some out := e
  refine ⟨F0, H0, F, ρ, its, rl, h1, fun J F1 H1 x1 I => ?_⟩
  intro p hp
  obtain ⟨rb, no⟩ := (rl.go x1).blk src
  have hF1 : F1 p = none := x1.fh.free hp
  refine ⟨fun i m σ' H' => ∃ F' ρ' acc qs, Rl K F1 H1 F' H' σ' ρ' /\ NoOwn ρ' /\ H' p = some (.lst (qs.map V.ref)) /\ F' p = none /\ RPs K F' H' qs acc /\ (∀ w ∈ qs, H1 w = none /\ F' w = none) /\ (p :: qs).Nodup /\ i <= its.length /\ m = its.length - i /\ compP g elt (its.drop i) ρ' acc = some out,
   ⟨_, F1, blkRo src ρ, [], [], rb.other no hp hF1, no, upd_same, hF1, .nil, (fun w hw => by cases hw), by simp, Nat.zero_le _, rfl, e⟩, ?_⟩
  rintro i m σ' H' ⟨F', ρ', acc, qs, rl', no', hH', hF', ra, hnew, hnd, hi', rfl, e'⟩
  by_cases hlt : i < its.length
  ·right
   have hd := List.getElem?_eq_getElem hlt
   refine ⟨I.go i F' H' rl'.ext.ff rl'.fh hlt, fun σ2 H2 => ∃ F2 ρ2 acc2 qs2, Rl K F1 H1 F2 H2 σ2 ρ2 /\ NoOwn ρ2 /\ H2 p = some (.lst (qs2.map V.ref)) /\ F2 p = none /\ RPs K F2 H2 qs2 acc2 /\ (∀ w ∈ qs2, H1 w = none /\ F2 w = none) /\ (p :: qs2).Nodup /\ compP g elt (its.drop (i + 1)) ρ2 acc2 = some out, ?_, fun x H2 y => ?_⟩
   ·rintro σ2 H2 ⟨F2, ρ2, acc2, qs2, b1, b2, b3, b4, b5, b6, b7, b8⟩
    exact ⟨its.length - (i + 1), by omega, F2, ρ2, acc2, qs2, b1, b2, b3, b4, b5, b6, b7, hlt, rfl, b8⟩
   ·obtain ⟨F2, x2, r2⟩ := I.yld i F' H' x H2 _ rl'.ext.ff rl'.fh hd y
    rw [drop_get hd] at e'
    unfold compP at e'
    cases h2 : tgD g its[i] ρ' with
    | none => simp only [h2] at e'; cases e'
    | some ρ1 =>
     simp only [h2] at e'
     refine ⟨F1, H1, F2, ρ', _, ρ1, rl'.go x2, r2, h2, fun F3 H3 σ3 rl3 x3 => ?_⟩
     have no1 := no'.tg h2
     have x23 := x2.trans x3
     refine ⟨F1, H1, F3, ρ1, true, rl3, rfl, fun F4 H4 x4 => iteT ?_⟩
     have x24 := x23.trans x4
     cases h4 : elt ρ1 with
     | none => simp only [h4] at e'; cases e'
     | some ds =>
      simp only [h4] at e'
      split at e'
      ·rename_i hz
       refine ⟨F1, H1, F4, ρ1, ds, rl3.go x4, h4, fun w xs F5 H5 x5 hw hwF hwH r5 => ?_⟩
       have x25 := x24.trans x5
       have hp5 := x25.hh _ _ hH'
       have hwp : w ≠ p := fun z => by rw [z, x24.hh _ _ hH'] at hw; cases hw
       have ra5 : RPs K F5 H5 qs acc := ra.mono x25.ff x25.hh
       have hwq : w ∉ qs := fun z => by
        obtain ⟨o, ho⟩ := ra.some w z
        rw [x24.hh _ _ ho] at hw; cases hw
       refine ⟨qs.map V.ref, hp5, by rw [List.length_map, ra.length]; exact hz, F5, ρ1, acc ++ [ds], qs ++ [w], ((rl3.go x4).go x5).other no1 hp (x25.stays hF' hH'), no1, by rw [upd_same, List.map_append]; rfl, x25.stays hF' hH', ?_, fun z hz' => ?_, ?_, e'⟩
       ·refine ((ra5.snoc hwH r5)).keep (Same.refl _) fun z hz' o ho => ?_
        have : z ≠ p := by
         rcases List.mem_append.mp hz' with z1 | z1
         ·exact fun zz => (List.nodup_cons.mp hnd).1 (zz ▸ z1)
         ·rw [List.mem_singleton.mp z1]; exact hwp
        rw [upd_ne this]; exact ho
       ·rcases List.mem_append.mp hz' with z1 | z1
        ·obtain ⟨o, ho⟩ := ra.some z z1
         exact ⟨(hnew z z1).1, x25.stays (hnew z z1).2 ho⟩
        ·rw [List.mem_singleton.mp z1]
         exact ⟨(rl3.go x4).ext.hh.free hw, hwF⟩
       ·have hn := List.nodup_cons.mp hnd
        refine List.nodup_cons.mpr ⟨fun z => ?_, List.nodup_append.mpr ⟨hn.2, by simp, fun a ha b hb => ?_⟩⟩
        ·rcases List.mem_append.mp z with z1 | z1
         ·exact hn.1 z1
         ·exact hwp (List.mem_singleton.mp z1).symm
        ·rw [List.mem_singleton.mp hb]; exact fun zz => hwq (zz ▸ ha)
      ·cases e'
  ·left
   have hieq : i = its.length := by omega
   subst hieq
   rw [List.drop_length] at e'
   have e' : some acc = some out := e'
   cases e'
   exact ⟨I.stop F' H' rl'.ext.ff rl'.fh, q p qs F' H' (x1.trans rl'.ext) ⟨x1.hh.free hp, hF', hH', fun w hw => ⟨x1.hh.free (hnew w hw).1, (hnew w hw).2⟩, hnd, ra⟩⟩
theorem pp_comp {sc : Scope} {N : List Str} {src : List (Option Nat)} {tg elt iter : Expr} {mi : ML} {g : Tg} {me : ML} (B : Blk X sc N src) (hc : X.calm = true)
  (hi : PId X tg iter mi) (hg : ∀ C fp s H, PGd (blkCx X sc C N fp s H) tg g) (he : ∀ C fp s H, PF (blkCx X sc C N fp s H) elt me)
  (hs : ∀ x, foldedSetIterable iter X.env x = pure x := by intro _; rfl) :
  PP X (.ListComp elt [⟨tg, iter, [], 0⟩] sc pos) (mcompP src mi g me) := (pe_comp (g := TGd X.K g) (tc := TC X.K cyes) (te := TF X.K me) B hc hi (fun C fp s H => hg C fp s H) (fun C fp s H => ptsd_nil) (fun C fp s H => he C fp s H) hs).imp fun _ _ _ h => comp_tp h
end
noncomputable abbrev MFP := List D -> Option (List (List D))
noncomputable def spP (K : PySem.W.Frag) (n : Nat) (m : MFP) : Sp := fun vs H Q _ => vs.length = n /\ ∃ F ds dss, Same F H /\ Reps K F vs ds /\ m ds = some dss /\ ∀ p qs F' H', Ext F H F' H' -> Pots K H F' H' p qs dss -> Q (.ref p) H'
noncomputable def runP (n : Nat) (c : MB) (m1 m2 : MP) : MFP := fun ds => match c (startS n ds) with
 | some true => m1 (startS n ds)
 | some false => m2 (startS n ds)
 | none => none
theorem Fun.okP {P : Program} {w : World} {K : PySem.W.Frag} {mg : Str -> Option Value} {base : Heap} {x qual : Str} {st : Stmt} {f : Addr} {fd : FuncData} {N ps : List Str} {k : Nat} {c e1 e2 : Expr} {p1 p2 p3 : Pos} {cc : MB} {m1 m2 : MP} (Fn : Fun K x qual st f fd) (Sc : FnScope N ps (defScope st))
  (hst : defBody st = [.If c [.Return (some e1) p1] [] p2, .Return (some e2) p3])
  (hc : ∀ (cdv : Value) (A : Around) (outer : List Env) (s : Shared) (H : Hp) (E : XK), Room k (A.deeper (envOfC qual (defScope st) s.heap.objs.size f cdv)) -> PC' (cxOf CX0 P w K mg base N qual (defScope st) f cdv A outer s H E).nox c cc)
  (h1 : ∀ (cdv : Value) (A : Around) (outer : List Env) (s : Shared) (H : Hp) (E : XK), Room k (A.deeper (envOfC qual (defScope st) s.heap.objs.size f cdv)) -> PP (cxOf CX0 P w K mg base N qual (defScope st) f cdv A outer s H E).nox e1 m1)
  (h2 : ∀ (cdv : Value) (A : Around) (outer : List Env) (s : Shared) (H : Hp) (E : XK), Room k (A.deeper (envOfC qual (defScope st) s.heap.objs.size f cdv)) -> PP (cxOf CX0 P w K mg base N qual (defScope st) f cdv A outer s H E).nox e2 m2) :
  FnOk P w K mg base CX0 (k + 1) f fd ps (spP K ps.length (runP N.length cc m1 m2)) := by
 refine Fn.ok Sc (fun vs H Q E h => h.1) fun cdv A outer s H vs Q E hr h => ?_
 obtain ⟨hl, F, ds, dss, sf, rs, e, ok⟩ := h
 rw [hst]
 refine ⟨_, pss_cons (ps_if (hc cdv A outer s H E hr) (pss_one (ps_ret (h1 cdv A outer s H E hr))) pss_nil) (pss_one (ps_ret (h2 cdv A outer s H E hr))), ?_⟩
 have rl := rl_start (N := N) sf rs
 unfold runP at e
 cases q : cc (startS N.length ds) with
 | none => simp only [q] at e; cases e
 | some b =>
  simp only [q] at e
  refine ⟨F, H, F, startS N.length ds, b, rl, q, fun F1 H1 x1 => ?_⟩
  cases b with
  | true =>
   refine iteT ⟨F, H, F1, _, dss, rl.go x1, e, fun p qs F2 H2 x2 pt => ?_⟩
   exact ok p qs F2 H2 (x1.trans x2) ⟨x1.hh.free pt.hp, pt.fp, pt.at', fun z hz => ⟨x1.hh.free (pt.new z hz).1, (pt.new z hz).2⟩, pt.nd, pt.rep⟩
  | false =>
   refine iteF ⟨F, H, F1, _, dss, rl.go x1, e, fun p qs F2 H2 x2 pt => ?_⟩
   exact ok p qs F2 H2 (x1.trans x2) ⟨x1.hh.free pt.hp, pt.fp, pt.at', fun z hz => ⟨x1.hh.free (pt.new z hz).1, (pt.new z hz).2⟩, pt.nd, pt.rep⟩
end L2
namespace L2
open PySem PySem.Spec PyProof.Rows
noncomputable def Hx (H0 H1 : Hp) (A : List Addr) : Hp := fun b => if b ∈ A then H1 b else H0 b
theorem Hx_in {H0 H1 : Hp} {A : List Addr} {b : Addr} (h : b ∈ A) : Hx H0 H1 A b = H1 b := if_pos h
theorem Hx_out {H0 H1 : Hp} {A : List Addr} {b : Addr} (h : b ∉ A) : Hx H0 H1 A b = H0 b := if_neg h
theorem Ext.less {F0 H0 H0' F H : Hp} (s : Same H0 H0') (x : Ext F0 H0' F H) : Ext F0 H0 F H := ⟨x.ff, s.trans x.hh, x.fh, fun b e n => s.free (x.new b e n), x.nf⟩
section
variable {K : PySem.W.Frag} {F0 H0 H0' F H : Hp} {σ : St} {ρ : Ro}
theorem Rl.less (s : Same H0 H0') (r : Rl K F0 H0' F H σ ρ) : Rl K F0 H0 F H σ ρ where
 ext := r.ext.less s
 len := r.len
 sh := r.sh
 own := fun i ds h => let ⟨p, xs, a, b, c, d, z⟩ := r.own i ds h; ⟨p, xs, a, b, c, d, s.free z⟩
 inj := r.inj
 ob := fun i p ds h => let ⟨a, b, c, d⟩ := r.ob i p ds h; ⟨a, b, s.free c, d⟩
 obn := r.obn
 ob1 := r.ob1
theorem okO.less {Fb : Hp} {Dn : Ends} (s : Same H0 H0') : ∀ {o : Out}, okO K F0 H0 Fb Dn o -> okO K F0 H0' Fb Dn o
 | .nx _, h => fun F H σ rl q => h F H σ (rl.less s) q
 | .bk _, h => fun F H σ rl q => h F H σ (rl.less s) q
 | .ct _, h => fun F H σ rl q => h F H σ (rl.less s) q
 | .rt _, h => fun v F H x r => h v F H (x.less s) r
 | .rf _, h => fun p xs F H x a b c d => h p xs F H (x.less s) (s.free a) b c d
 | .rp _ _, h => fun t v p xs F H x a b c d e f g i j => h t v p xs F H (x.less s) (s.free a) (s.free b) c d e f g i j
 | .rg _ _ _, h => fun v F H xs x a b c d => h v F H xs (x.less s) a b c d
 | .rgf _ _ _, h => fun q ys F H xs x a b c d e f g i => h q ys F H xs (x.less s) (s.free a) b c d e f g i
end
noncomputable def forP (j : Nat) (body : MS) : List (List D) -> MS
 | [], ρ => some (.nx ρ)
 | ds :: dss, ρ => match body (ρ.set j (some (.own ds))) with
  | some (.nx ρ2) => forP j body dss ρ2
  | some (.ct ρ2) => forP j body dss ρ2
  | some (.bk ρ2) => some (.nx ρ2)
  | o => o
noncomputable def mforP (mi : MP) (j : Nat) (body : MS) : MS := fun ρ => (mi ρ).bind fun dss => forP j body dss ρ
section
variable {X : Cx} {a b c e : Expr} {pos : Pos} {st : Stmt}
theorem psd_forP {iter : Expr} {body : List Stmt} {mi : MP} {j : Nat} {x : Str} {pos' : Pos} {mb : MS} (hp : PassesOwn (model X.prog X.w) X.A X.env X.xe) (hc : X.calm = true) (hi : PP X iter mi) (hg : PG X (.Name x pos') (gName j)) (hb : PSsd X body mb)
  (hs : ∀ x, foldedSetIterable iter X.env x = pure x := by intro _; rfl) : PSd X (.For (.Name x pos') iter body [] pos) (mforP mi j mb) := (ps_for hp hc (pi_list hi) hg hb hs).imp fun Dn σ H hpat => by
 obtain ⟨F0, H0, F, ρ, o, rl, e, ok⟩ := hpat
 unfold mforP at e
 cases h1 : mi ρ with
 | none => rw [h1] at e; cases e
 | some dss =>
  rw [h1] at e
  have e : forP j mb dss ρ = some o := e
  refine ⟨F0, H0, F, ρ, dss, rl, h1, fun p qs F1 H1 x1 pt => ?_⟩
  have pn := List.nodup_cons.mp pt.nd
  have h0p : H0 p = none := rl.ext.hh.free pt.hp
  have h0q : ∀ q ∈ qs, H0 q = none := fun q hq => rl.ext.hh.free (pt.new q hq).1
  have f0q : ∀ q ∈ qs, F0 q = none := fun q hq => (rl.ext.ff.trans x1.ff).free (pt.new q hq).2
  have sm : ∀ A : List Addr, (∀ b ∈ A, b = p \/ b ∈ qs) -> Same H0 (Hx H0 H1 A) := fun A hA b u e => by
   by_cases hb : b ∈ A
   ·rcases hA b hb with z | z
    ·rw [z, h0p] at e; cases e
    ·rw [h0q b z] at e; cases e
   ·rw [Hx_out hb]; exact e
  have sub : ∀ i, ∀ b ∈ p :: qs.drop i, b = p \/ b ∈ qs := fun i b hb => by
   rcases List.mem_cons.mp hb with z | z
   ·exact .inl z
   ·exact .inr (List.mem_of_mem_drop z)
  have sl : ∃ xs, SqL X.K H1 p xs := ⟨_, SqL.of pt.at'⟩
  refine ⟨p, rfl, sl, ?_⟩
  have rl1 := rl.go x1
  have rl0 : Rl X.K F0 (Hx H0 H1 (p :: qs.drop 0)) F1 H1 σ ρ := by
   have fr : ∀ b ∈ p :: qs.drop 0, H b = none /\ F1 b = none := fun b hb => by
    rcases sub 0 b hb with z | z
    ·rw [z]; exact ⟨pt.hp, pt.fp⟩
    ·exact pt.new b z
   have nin : ∀ b u, H b = some u -> b ∉ p :: qs.drop 0 := fun b u e hb => by rw [(fr b hb).1] at e; cases e
   refine ⟨⟨rl1.ext.ff, fun b u e => ?_, rl1.ext.fh, fun b e n => ?_, rl1.ext.nf⟩, rl1.len, rl1.sh, fun i ds h => ?_, rl1.inj, fun i w ds h => ?_, rl1.obn, rl1.ob1⟩
   ·by_cases hb : b ∈ p :: qs.drop 0
    ·rw [Hx_in hb] at e; exact e
    ·rw [Hx_out hb] at e; exact rl1.ext.hh b u e
   ·have nb : b ∉ p :: qs.drop 0 := fun hb => n (fr b hb).2
    rw [Hx_out nb]; exact rl1.ext.new b e n
   ·obtain ⟨w, xs, a1, a2, a3, a4, a5⟩ := rl.own i ds h
    obtain ⟨w', xs', b1, b2, b3, b4, b5⟩ := rl1.own i ds h
    rw [a1] at b1; cases b1
    exact ⟨w, xs', a1, b2, b3, b4, by rw [Hx_out (nin _ _ a3)]; exact b5⟩
   ·obtain ⟨a1, a2, a3, xs, a4, a5⟩ := rl.ob i w ds h
    obtain ⟨b1, b2, b3, b4⟩ := rl1.ob i w ds h
    exact ⟨b1, b2, by rw [Hx_out (nin _ _ a4)]; exact b3, b4⟩
  have hn : qs.length = dss.length := pt.rep.length
  refine ⟨fun i m σ' H' => ∃ F' ρ', Rl X.K F0 (Hx H0 H1 (p :: qs.drop i)) F' H' σ' ρ' /\ Same F1 F' /\ i <= dss.length /\ m = dss.length - i /\ forP j mb (dss.drop i) ρ' = some o, ⟨_, F1, ρ, rl0, Same.refl _, Nat.zero_le _, rfl, e⟩, ?_⟩
  rintro i m σ' H' ⟨F', ρ', rl', sf, hi', rfl, e'⟩
  have hHp : H' p = some (.lst (qs.map V.ref)) := rl'.ext.hh p _ (by rw [Hx_in List.mem_cons_self]; exact pt.at')
  by_cases hlt : i < dss.length
  ·right
   have hd := List.getElem?_eq_getElem hlt
   obtain ⟨q, xs, hq, hqH, hqr⟩ := pt.rep.get hd
   have hqm : q ∈ qs := List.mem_of_getElem? hq
   have hdq : qs.drop i = q :: qs.drop (i + 1) := drop_get hq
   have hqH' : H' q = some (.lst xs) := rl'.ext.hh q _ (by rw [Hx_in (by rw [hdq]; simp)]; exact hqH)
   have hqF' : F' q = none := by
    cases z : F' q with
    | none => rfl
    | some u =>
     have := rl'.ext.new q (f0q q hqm) (by rw [z]; simp)
     rw [Hx_in (by rw [hdq]; simp), hqH] at this; cases this
   have hqx : (qs.map V.ref)[i]? = some (V.ref q) := by rw [List.getElem?_map, hq]; rfl
   refine ⟨⟨_, _, SqL.of hHp, hqx⟩, fun σ2 H2 => ∃ F2 ρ2, Rl X.K F0 (Hx H0 H1 (p :: qs.drop (i + 1))) F2 H2 σ2 ρ2 /\ Same F1 F2 /\ forP j mb (dss.drop (i + 1)) ρ2 = some o, ?_, fun x H2 y => ?_⟩
   ·rintro σ2 H2 ⟨F2, ρ2, rl2, sf2, e2⟩
    exact ⟨dss.length - (i + 1), by omega, F2, ρ2, rl2, sf2, hlt, rfl, e2⟩
   ·obtain ⟨rfl, y⟩ := y
    have yx := y _ (SqL.of hHp)
    rw [hqx] at yx; cases yx
    have ndi : (q :: qs.drop (i + 1)).Nodup := by rw [<- hdq]; exact pn.2.sublist (List.drop_sublist _ _)
    have nod : q ∉ p :: qs.drop (i + 1) := fun z => by
     rcases List.mem_cons.mp z with z | z
     ·exact pn.1 (z ▸ hqm)
     ·exact (List.nodup_cons.mp ndi).1 z
    have qin : q ∈ p :: qs.drop i := by rw [hdq]; simp
    have hxq : Hx H0 H1 (p :: qs.drop i) q = some (.lst xs) := by rw [Hx_in qin]; exact hqH
    have sm2 : Same (Hx H0 H1 (p :: qs.drop (i + 1))) (Hx H0 H1 (p :: qs.drop i)) := fun b u e => by
     by_cases hb : b ∈ p :: qs.drop (i + 1)
     ·have hb2 : b ∈ p :: qs.drop i := by
       rw [hdq]
       rcases List.mem_cons.mp hb with z | z
       ·rw [z]; simp
       ·exact List.mem_cons_of_mem _ (List.mem_cons_of_mem _ z)
      rw [Hx_in hb] at e; rw [Hx_in hb2]; exact e
     ·rw [Hx_out hb] at e
      by_cases hb2 : b ∈ p :: qs.drop i
      ·rcases sub i b hb2 with z | z
       ·rw [z, h0p] at e; cases e
       ·rw [h0q b z] at e; cases e
      ·rw [Hx_out hb2]; exact e
    have rl3 := (rl'.less sm2).setOwn (i := j) hqF' hqH' (hqr.mono sf) (by rw [Hx_out nod]; exact h0q q hqm) (fun k es hk e1 e2 => by
     obtain ⟨w, zs, a1, a2, a3, a4, a5⟩ := rl'.own k es e1
     rw [a1] at e2; cases e2
     rw [hxq] at a5; cases a5) (fun k w es e1 z => by
     obtain ⟨a1, a2, a3, _⟩ := rl'.ob k w es e1
     rw [z, hxq] at a3; cases a3)
    rw [drop_get hd] at e'
    unfold forP at e'
    cases h3 : mb (ρ'.set j (some (.own dss[i]))) with
    | none => simp only [h3] at e'; cases e'
    | some o1 =>
     simp only [h3] at e'
     refine ⟨F0, _, F', _, o1, rl3, h3, ?_⟩
     cases o1 with
     | nx ρ2 => exact fun F4 H4 σ4 rl4 s4 => ⟨F4, ρ2, rl4, sf.trans s4, e'⟩
     | ct ρ2 => exact fun F4 H4 σ4 rl4 s4 => ⟨F4, ρ2, rl4, sf.trans s4, e'⟩
     | bk ρ2 =>
      cases e'
      exact fun F4 H4 σ4 rl4 s4 => ok F4 H4 σ4 (rl4.less (sm _ (sub _))) ((x1.ff.trans sf).trans s4)
     | rt d => cases e'; exact okO.less (o := .rt d) (sm _ (sub _)) ok
     | rf d => cases e'; exact okO.less (o := .rf d) (sm _ (sub _)) ok
     | rp d ds => cases e'; exact okO.less (o := .rp d ds) (sm _ (sub _)) ok
     | rg d p r => cases e'; exact okO.less (o := .rg d p r) (sm _ (sub _)) ok
     | rgf d p r => cases e'; exact okO.less (o := .rgf d p r) (sm _ (sub _)) ok
  ·left
   have hieq : i = dss.length := by omega
   subst hieq
   rw [List.drop_length] at e'
   have e' : some (Out.nx ρ') = some o := e'
   cases e'
   refine ⟨⟨_, SqL.of hHp, by rw [List.length_map, hn]; exact Nat.le_refl _⟩, ?_⟩
   exact ok F' H' σ' (rl'.less (sm _ (sub _))) (x1.ff.trans sf)
variable {E : XK} {es : List Expr} {m : ML}
noncomputable def mcallP (f : MFP) (m : ML) : MP := fun ρ => (m ρ).bind f
theorem pp_call {n : Nat} {mf : MFP} (h : ∀ t, PA X es t -> PE X e (tCall (spP X.K n mf) [] E t)) (hl : es.length = n) (ha : PAs X es m) (hm : ∀ ρ ds, m ρ = some ds -> ds.length = es.length) : PP X e (mcallP mf m) := (h _ ha).imp fun σ H Q hpat => by
 obtain ⟨F0, H0, F, ρ, d, rl, e, q⟩ := hpat
 unfold mcallP at e
 cases h1 : m ρ with
 | none => rw [h1] at e; cases e
 | some ds =>
  rw [h1] at e
  refine ⟨F0, H0, F, ρ, ds, rl, h1, fun vs F1 H1 x1 r1 => ?_⟩
  show spP X.K n mf (vs ++ []) H1 Q E
  rw [List.append_nil]
  refine ⟨by rw [r1.length, hm ρ ds h1, hl], F1, ds, d, x1.fh, r1, e, fun p qs F2 H2 x2 pt => ?_⟩
  exact q p qs F2 H2 (x1.trans x2) ⟨x1.hh.free pt.hp, pt.fp, pt.at', fun z hz => ⟨x1.hh.free (pt.new z hz).1, (pt.new z hz).2⟩, pt.nd, pt.rep⟩
theorem asg_m {t : TE} {i : Nat} {na : MEm} (h : PS X st (tAsg t (gName i))) (ht : ∀ σ H Q, TDm X.K na σ H Q -> t σ H Q) : PSd X st (msetm i na) := h.imp fun D σ H hpat => by
 obtain ⟨F0, H0, F, ρ, o, rl, e, ok⟩ := hpat
 unfold msetm at e
 split at e
 ·rename_i d ρ1 h1
  cases e
  exact ht _ _ _ ⟨F0, H0, F, ρ, d, ρ1, rl, h1, fun v F1 H1 rl1 s1 r1 => ok F1 H1 _ (rl1.set r1) s1⟩
 ·cases e
theorem psd_setCmB {k i j : Nat} {src : List (Option Nat)} {mi : ML} {me : MEm} (hsj : src[j]? = some (some i)) (hj : j ≠ 0) (h : PS X st (tAsg (tComp src (TId X.K mi) (gName 0) tYes (TDm X.K me)) (gName k))) : PSd X st (msetm k (mcompmB src mi i j me)) := asg_m h fun _ _ _ q => comp_tdmB hsj hj q
noncomputable def ovar (i : Nat) : ML := fun ρ => match ρ[i]? with | some (some (.own ds)) => some ds | _ => none
theorem pf_repO {i : Nat} {x : Str} {px : Pos} {y : ME} (hv : PE X (.Name x px) (tVar i)) (hb : PD X b y) : PF X (.BinOp (.Name x px) .Mult b pos) (mrep (ovar i) y) := (pe_op op_rep hv hb).imp fun σ H Q hpat => by
 obtain ⟨F0, H0, F, ρ, g, rl, e, q⟩ := hpat
 obtain ⟨ds, k, h1, h2, hk, rfl⟩ := mrep_some e
 unfold repOk at hk
 simp only [Bool.and_eq_true, decide_eq_true_eq] at hk
 unfold ovar at h1
 split at h1
 ·rename_i ds' h3
  cases h1
  obtain ⟨p, xs, a1, a2, a3, a4, a5⟩ := rl.own i _ h3
  refine ⟨_, a1, F0, H0, F, ρ, .int k, rl, h2, fun v F2 H2 x2 r2 => ?_⟩
  cases r2
  refine ⟨p, k, xs, rfl, rfl, x2.hh _ _ a3, by omega, by omega, by rw [a4.length]; exact hk.2, fun w hw => ?_⟩
  exact q w _ F2 _ (x2.trans (Ext.own x2.fh hw)) (x2.hh.free hw) (x2.fh.free hw) upd_same (reps_flat (a4.mono x2.ff) k.toNat)
 ·cases h1
end
end L2
namespace L2
open PySem PySem.Spec PyProof.Rows
section
variable {K : PySem.W.Frag} {F0 H0 F H : Hp} {σ : St} {ρ : Ro}
theorem Rl.freezeQ (r : Rl K F0 H0 F H σ ρ) {i : Nat} {ds : List D} (h : ρ[i]? = some (some (.own ds))) : ∃ p xs, F p = none /\ Reps K F xs ds /\ Rl K F0 H0 (upd F p (.lst xs)) H σ (ρ.set i (some (.sh (.lst ds)))) := by
 obtain ⟨p, xs, a, b, c, d, z⟩ := r.own i ds h
 have hl : i < ρ.length := (List.getElem?_eq_some_iff.mp h).1
 have e : Ext F0 H0 (upd F p (.lst xs)) H := r.ext.freeze b z c
 have ff : Same F (upd F p (.lst xs)) := (Same.refl F).put b
 refine ⟨p, xs, b, d, ⟨e, by simp [r.len], fun j d' q => ?_, fun j es q => ?_, fun j k q es es' hjk e1 e2 e3 e4 => ?_, fun j q es e1 => ?_, fun j k q es es' e1 e2 e3 => ?_, fun j k q q' es es' e1 e2 => r.ob1 j k q q' es es' (set_ob e1).2 (set_ob e2).2⟩⟩
 ·by_cases hj : i = j
  ·subst hj
   rw [List.getElem?_set_self hl] at q
   cases q
   exact ⟨_, a, .lst (SqL.of upd_same) (d.mono ff)⟩
  ·rw [List.getElem?_set_ne hj] at q
   obtain ⟨v, v1, v2⟩ := r.sh j d' q
   exact ⟨v, v1, v2.mono ff⟩
 ·by_cases hj : i = j
  ·subst hj
   rw [List.getElem?_set_self hl] at q
   cases q
  ·rw [List.getElem?_set_ne hj] at q
   obtain ⟨p', xs', a', b', c', d', z'⟩ := r.own j es q
   have hp : p' ≠ p := fun w => r.inj i j p ds es hj h q a (by rw [<- w]; exact a')
   exact ⟨p', xs', a', by rw [upd_ne hp]; exact b', c', d'.mono ff, z'⟩
 ·have n1 : i ≠ j := fun w => by subst w; rw [List.getElem?_set_self hl] at e1; cases e1
  have n2 : i ≠ k := fun w => by subst w; rw [List.getElem?_set_self hl] at e2; cases e2
  rw [List.getElem?_set_ne n1] at e1
  rw [List.getElem?_set_ne n2] at e2
  exact r.inj j k q es es' hjk e1 e2 e3 e4
 ·obtain ⟨n, e1⟩ := set_ob e1
  obtain ⟨o1, o2, o3, zs, o4, o5⟩ := r.ob j q es e1
  have hp : q ≠ p := fun w => r.obn j i q es ds e1 h (by rw [w]; exact a)
  exact ⟨o1, by rw [upd_ne hp]; exact o2, o3, zs, o4, o5.mono ff⟩
 ·obtain ⟨n, e1⟩ := set_ob e1
  have n2 : i ≠ k := fun w => by subst w; rw [List.getElem?_set_self hl] at e2; cases e2
  rw [List.getElem?_set_ne n2] at e2
  exact r.obn j k q es es' e1 e2 e3
end
noncomputable def hasL : List D -> Bool
 | [] => false
 | .lst _ :: _ => true
 | _ :: r => hasL r
theorem hasL_no {K : PySem.W.Frag} {F : Hp} : ∀ {xs : List V} {ds es : List D}, hasL ds = true -> numsD es = true -> Reps K F xs ds -> Reps K F xs es -> False
 | _, [], _, h, _, _, _ => by cases h
 | _, d :: ds, [], h, _, .cons _ _, r => by cases r
 | _, d :: ds, e :: es, h, h2, .cons a r, .cons b r2 => by
  cases e with
  | int k =>
   cases b
   cases a
   exact hasL_no (show hasL ds = true from h) (show numsD es = true from h2) r r2
  | _ => cases h2
noncomputable def tellL (ds : List D) : D -> Bool
 | .lst es => numsD es && hasL ds
 | _ => false
@[irreducible] noncomputable def mborL (i : Nat) (m : ME) : ME := fun ρ => match ρ[i]? with
 | some (some (.own ds)) => (match m (ρ.set i (some (.sh (.lst ds)))) with | some d => if tellL ds d = true then some d else none | none => none)
 | _ => m ρ
theorem tellL_rep {K : PySem.W.Frag} {F : Hp} {p : Addr} {xs : List V} {ds : List D} {v : V} {d : D} (hp : F p = some (.lst xs)) (hx : Reps K F xs ds) (h : tellL ds d = true) (r : Rep K F v d) : Rep K (fun b => if b = p then none else F b) v d := by
 cases r with
 | lst sq rs =>
  rename_i a ys es
  have h : (numsD es && hasL ds) = true := h
  rw [Bool.and_eq_true] at h
  refine .lst ?_ (reps_nums h.1 rs)
  rcases sq with (sq | ⟨o, sq⟩) | sq
  ·have hne : a ≠ p := fun z => by
    rw [z, hp] at sq; cases sq
    exact hasL_no h.2 h.1 hx rs
   exact .inl (.inl (by show (if a = p then none else F a) = _; rw [if_neg hne]; exact sq))
  ·have hne : a ≠ p := fun z => by rw [z, hp] at sq; cases sq
   exact .inl (.inr ⟨o, by show (if a = p then none else F a) = _; rw [if_neg hne]; exact sq⟩)
  ·exact .inr sq
 | _ => cases h
theorem pd_borL {X : Cx} {e : Expr} {m : ME} (i : Nat) (h : PD X e m) : PD X e (mborL i m) := h.imp fun σ H Q hpat => by
 obtain ⟨F0, H0, F, ρ, d, rl, e, q⟩ := hpat
 unfold mborL at e
 split at e
 ·rename_i ds h1
  obtain ⟨p, xs, hp, hx, rl'⟩ := rl.freezeQ h1
  split at e
  ·rename_i d' h2
   split at e
   ·rename_i hs
    cases e
    refine ⟨F0, H0, _, _, d, rl', h2, fun v F2 H2 x2 r2 => ?_⟩
    have hp2 : F2 p = some (.lst xs) := x2.ff _ _ upd_same
    refine q v (fun b => if b = p then none else F2 b) H2 ⟨fun b o hb => ?_, x2.hh, fun b o hb => ?_, fun b hb hn => ?_, fun b o u z => by
     have z : (if b = p then none else F2 b) = some (.frz o u) := z
     split at z
     ·cases z
     ·rename_i hne
      have := x2.nf b o u z
      rwa [upd_ne hne] at this⟩ (tellL_rep hp2 (hx.mono (((Same.refl F).put hp).trans x2.ff)) hs r2)
    ·have hne : b ≠ p := fun w => by rw [w, hp] at hb; cases hb
     show (if b = p then none else F2 b) = some o
     rw [if_neg hne]
     exact x2.ff b o (by rw [upd_ne hne]; exact hb)
    ·have hb : (if b = p then none else F2 b) = some o := hb
     split at hb
     ·cases hb
     ·exact x2.fh b o hb
    ·have hn : (if b = p then none else F2 b) ≠ none := hn
     split at hn
     ·exact absurd rfl hn
     ·rename_i hne
      exact x2.new b (by rw [upd_ne hne]; exact hb) hn
   ·cases e
  ·cases e
 ·exact ⟨F0, H0, F, ρ, d, rl, e, q⟩
end L2
set_option maxHeartbeats 4000000
namespace Lw
open PySem L2
noncomputable section
noncomputable def b_Z13 : MS := (mif (mtest (m2 ltD (mvar 0) (mc (.int 1)))) mnever mnext)
noncomputable def m_Z13 : MF := runB 1 b_Z13
noncomputable def bx_Z13 : MXs := (xif (mtest (m2 ltD (mvar 0) (mc (.int 1)))) (xraise "NoStep" (acons (mc (.str "a least step is 1 or more")) anil)) xnone)
noncomputable def xm_Z13 : MFX := runX 1 bx_Z13
noncomputable def b_Z11_f0 : MS := (mseq (mapp 2 (mlst (mcomp [none, some 1, some 5, some 0] (mlist rng2 (acons (m2 addD (mvar 4) (mc (.int 1))) (acons (mlen (bvar 0)) anil))) (.nm 0) (mtest (m2 geD (m2 subD (mix (bvar 3) (mvar 0)) (mvar 2)) (mvar 1))) (mvar 0)))) (mapp 3 (mlst (mcomp [none, some 1, some 5, some 0] (mlist rng2 (acons (m2 addD (mvar 4) (mc (.int 1))) (acons (mlen (bvar 0)) anil))) (.nm 0) (mtest (m2 geD (m2 subD (mvar 2) (mix (bvar 3) (mvar 0))) (mvar 1))) (mvar 0)))))
noncomputable def b_Z11_r1 : MS := (mfreeze 3 (mfreeze 2 (mret (mtup (acons (mvar 2) (acons (mvar 3) anil))))))
noncomputable def b_Z11 : MS := (mseq (msetF 2 (sized anil)) (mseq (msetF 3 (sized anil)) (mseq (mfor (mlist enum1 (acons (mvar 0) anil)) (.tp [4, 5]) b_Z11_f0) b_Z11_r1)))
noncomputable def m_Z11 : MF := runB 6 b_Z11
noncomputable def b_Z9 : MS := (mret (mtup (acons (m1 negD (mlen (bvar 0))) (acons (mvar 0) anil))))
noncomputable def m_Z9 : MF := runB 1 b_Z9
noncomputable def b_Z2 : MS := (mret (mmaxLen (mcomp [none, some 0] (aslst (mvar 1)) (.nm 0) cyes (mix (bvar 1) (mvar 0))) (mlst (sized anil))))
noncomputable def m_Z2 : MF := runB 2 b_Z2
noncomputable def b_Z4_f0 : MS := (mseq (msetix 6 (mvar 10) (mlst (mcat (sized (acons (mvar 10) anil)) (aslst (mborL 8 (mcall m_Z2 (acons (mvar 8) (acons (mix (bvar 2) (mvar 10)) anil)))))))) (mseq (msetix 7 (mvar 10) (mlst (mcat (sized (acons (mvar 10) anil)) (aslst (mborL 9 (mcall m_Z2 (acons (mvar 9) (acons (mix (bvar 3) (mvar 10)) anil)))))))) (mseq (msetix 8 (mvar 10) (mmin2K (fun d => shOf (m_Z9 [d])) (acons (mix (bvar 6) (mvar 10)) (acons (mix (bvar 5) (mvar 10)) anil)))) (msetix 9 (mvar 10) (mmin2K (fun d => shOf (m_Z9 [d])) (acons (mix (bvar 7) (mvar 10)) (acons (mix (bvar 4) (mvar 10)) anil)))))))
noncomputable def b_Z4_r1 : MS := (mfreeze 6 (mfreeze 7 (mret (mtup (acons (mvar 6) (acons (mvar 7) anil))))))
noncomputable def b_Z4 : MS := (mseq (masg (.tp [2, 3]) (mvar 0)) (mseq (masg (.tp [4, 5]) (mvar 1)) (mseq (msetF 6 (mrep (sized (acons (mlst (sized anil)) anil)) (mlen (bvar 2)))) (mseq (msetF 7 (mrep (sized (acons (mlst (sized anil)) anil)) (mlen (bvar 2)))) (mseq (msetF 8 (mrep (sized (acons (mlst (sized anil)) anil)) (mlen (bvar 2)))) (mseq (msetF 9 (mrep (sized (acons (mlst (sized anil)) anil)) (mlen (bvar 2)))) (mseq (mfor (mlist rngD (acons (mlen (bvar 2)) anil)) (.nm 10) b_Z4_f0) b_Z4_r1)))))))
noncomputable def m_Z4 : MF := runB 11 b_Z4
noncomputable def b_Z15 : MS := (mret (mtup (acons (mlst (mrep (sized (acons (mlst (sized anil)) anil)) (mlen (bvar 0)))) (acons (mlst (mrep (sized (acons (mlst (sized anil)) anil)) (mlen (bvar 0)))) anil))))
noncomputable def m_Z15 : MF := runB 1 b_Z15
noncomputable def b_Z7 : MS := (mseq (masg (.tp [1, 2]) (mvar 0)) (mret (mminK (fun d => shOf (m_Z9 [d])) (aslst (m2 addD (mvar 1) (mvar 2))) (mlst (sized anil)))))
noncomputable def m_Z7 : MF := runB 3 b_Z7
noncomputable def b_Z1_f0 : MS := (mset 4 (mcall m_Z4 (acons (mvar 3) (acons (mvar 4) anil))))
noncomputable def b_Z1 : MS := (mseq (mexpr (mcall m_Z13 (acons (mvar 1) anil))) (mseq (mif (mtest (m2 ltD (mvar 2) (mc (.int 0)))) mnever mnext) (mseq (mset 3 (mcall m_Z11 (acons (mvar 0) (acons (mvar 1) anil)))) (mseq (mset 4 (mcall m_Z15 (acons (mvar 0) anil))) (mseq (mfor (mlist rng1 (acons (m2 addD (call1 min2F (acons (mvar 2) (acons (mlen (bvar 0)) anil))) (mc (.int 1))) anil)) (.nm 5) b_Z1_f0) (mret (mcall m_Z7 (acons (mvar 4) anil))))))))
noncomputable def m_Z1 : MF := runB 6 b_Z1
noncomputable def bx_Z1 : MXs := (xseq (mexpr (mcall m_Z13 (acons (mvar 1) anil))) (xE (xcall xm_Z13 (acons (mvar 1) anil))) (xif (mtest (m2 ltD (mvar 2) (mc (.int 0)))) (xraise "NoNumber" (acons (mc (.str "so many turns are 0 or more")) anil)) xnone))
noncomputable def xm_Z1 : MFX := runX 6 bx_Z1
noncomputable def b_Z6_f0 : MS := (msetix 3 (mvar 4) (m2 addD (mc (.int 1)) (mmaxE (mcompO [none, some 3] (aslst (m2 addD (mix (bvar 1) (mvar 4)) (mix (bvar 2) (mvar 4)))) (.nm 0) cyes (mix (bvar 1) (mvar 0))) (mc (.int 0)))))
noncomputable def b_Z6_r1 : MS := (mfreeze 3 (mret (mmaxE (bvar 3) (mc (.int 0)))))
noncomputable def b_Z6 : MS := (mseq (masg (.tp [1, 2]) (mvar 0)) (mseq (msetF 3 (mrep (sized (acons (mc (.int 0)) anil)) (mlen (bvar 1)))) (mseq (mfor (mlist rngD (acons (mlen (bvar 1)) anil)) (.nm 4) b_Z6_f0) b_Z6_r1)))
noncomputable def m_Z6 : MF := runB 5 b_Z6
noncomputable def b_Z3_f0 : MS := (mseq (mset 4 (mcall m_Z4 (acons (mvar 2) (acons (mvar 4) anil)))) (mapp 5 (mlen (aslst (mcall m_Z7 (acons (mvar 4) anil))))))
noncomputable def b_Z3 : MS := (mseq (mexpr (mcall m_Z13 (acons (mvar 1) anil))) (mseq (mset 2 (mcall m_Z11 (acons (mvar 0) (acons (mvar 1) anil)))) (mseq (mset 3 (mcall m_Z6 (acons (mvar 2) anil))) (mseq (mset 4 (mcall m_Z4 (acons (mvar 2) (acons (mcall m_Z15 (acons (mvar 0) anil)) anil)))) (mseq (msetF 5 (sized (acons (mlen (aslst (mcall m_Z7 (acons (mvar 4) anil)))) anil))) (mseq (whileD (mtest (m2 ltD (mix (bvar 5) (m1 negD (mc (.int 1)))) (mvar 3))) b_Z3_f0 1000) (mretO 5)))))))
noncomputable def m_Z3 : MF := runB 6 b_Z3
noncomputable def bx_Z3 : MXs := (xE (xcall xm_Z13 (acons (mvar 1) anil)))
noncomputable def xm_Z3 : MFX := runX 6 bx_Z3
noncomputable def b_Z10_f0 : MS := (mif (mtest (m2 geD (mvar 4) (mvar 2))) (mretO 3) mnext)
noncomputable def b_Z10 : MS := (mseq (mexpr (mcall m_Z13 (acons (mvar 1) anil))) (mseq (mif (mtest (m2 ltD (mvar 2) (mc (.int 0)))) mnever mnext) (mseq (mfor (mlist enum1 (acons (mcall m_Z3 (acons (mvar 0) (acons (mvar 1) anil))) anil)) (.tp [3, 4]) b_Z10_f0) (mret (mc .non)))))
noncomputable def m_Z10 : MF := runB 5 b_Z10
noncomputable def bx_Z10 : MXs := (xseq (mexpr (mcall m_Z13 (acons (mvar 1) anil))) (xE (xcall xm_Z13 (acons (mvar 1) anil))) (xseq (mif (mtest (m2 ltD (mvar 2) (mc (.int 0)))) mnever mnext) (xif (mtest (m2 ltD (mvar 2) (mc (.int 0)))) (xraise "NoNumber" (acons (mc (.str "so many numbers are 0 or more")) anil)) xnone) (xfor (mlist enum1 (acons (mcall m_Z3 (acons (mvar 0) (acons (mvar 1) anil))) anil)) (.tp [3, 4]) (mif (mtest (m2 geD (mvar 4) (mvar 2))) (mretO 3) mnext) xnone)))
noncomputable def xm_Z10 : MFX := runX 5 bx_Z10
noncomputable def b_Z16 : MS := (mseq (msetix 0 (mc (.int 1)) (m2 addD (mix (bvar 0) (mc (.int 1))) (mc (.int 1)))) (mseq (mset 2 (mix (bvar 0) (mc (.int 0)))) (mseq (mif (mtest (m2 geD (mvar 2) (m2 powD (mc (.int 10)) (mc (.int 18))))) (mseq (msetix 0 (mc (.int 0)) (m2 fdivD (mvar 2) (mvar 1))) (mretG 0 (mpu (m2 modD (mvar 2) (mvar 1))))) mnext) (mseq (mset 3 (m2 modD (m2 addD (m2 addD (m2 mulD (mvar 2) (mc (.int 69621))) (m2 mulD (mix (bvar 0) (mc (.int 1))) (mc (.int 7919)))) (mc (.int 13))) (mc (.int 2147483647)))) (mseq (mset 3 (m2 modD (m2 mulD (mvar 3) (mvar 3)) (mc (.int 2147483629)))) (mretG 0 (mpu (m2 modD (m2 fdivD (m2 modD (m2 addD (m2 mulD (mvar 3) (mc (.int 48271))) (m2 mulD (mix (bvar 0) (mc (.int 1))) (mc (.int 40692)))) (mc (.int 2147483587))) (mc (.int 8))) (mvar 1)))))))))
noncomputable def m_Z16 : MG := runG 4 b_Z16
noncomputable def m_law_pots : MFP := runP 1 (mtest (m2 eqSD (mlen (bvar 0)) (mc (.int 0)))) (mlst1 (sized (acons (mc (.int 0)) (acons (mc (.int 0)) anil)))) (mcompP [none] (aslst (mlst (mcut (bvar 0) onone (osome (mc (.int 63)))))) (.nm 0) (sized (acons (mvar 0) (acons (mc (.int 0)) anil))))
noncomputable def b_Z0 : MS := (mseq (mif (mtest (m2 eqSD (mvar 1) (mc (.int 0)))) (mretG 0 (mcallG m_Z16 0 (apu (acons (mc (.int 4)) anil)))) mnext) (mseq (mif (mtest (m2 eqSD (mvar 1) (mc (.int 1)))) (mretG 0 (m2m subD (mcallG m_Z16 0 (apu (acons (mc (.int 21)) anil))) (mpu (mc (.int 10))))) mnext) (mseq (mif (mtest (m2 eqSD (mvar 1) (mc (.int 2)))) (mretG 0 (m2m subD (mcallG m_Z16 0 (apu (acons (mc (.int 1001)) anil))) (mpu (mc (.int 500))))) mnext) (mretG 0 (m2m mulD (m2m ixLD (mpu (mlst (sized (acons (m1 negD (mc (.int 1))) (acons (mc (.int 1)) anil))))) (mcallG m_Z16 0 (apu (acons (mc (.int 2)) anil)))) (m2m addD (mpu (m2 powD (mc (.int 10)) (mc (.int 29)))) (mcallG m_Z16 0 (apu (acons (mc (.int 1000)) anil)))))))))
noncomputable def m_Z0 : MG := runG 2 b_Z0
noncomputable def b_Z8 : MS := (mseq (msetm 2 (mcallG m_Z16 0 (apu (acons (mc (.int 4)) anil)))) (mseq (msetm 3 (mcallG m_Z16 0 (aconsm (m2m ixLD (mpu (mlst (sized (acons (call1 min2F (acons (mc (.int 4)) (acons (m2 addD (mvar 1) (mc (.int 1))) anil))) (acons (call1 min2F (acons (mc (.int 9)) (acons (m2 addD (mvar 1) (mc (.int 1))) anil))) (acons (m2 addD (mvar 1) (mc (.int 1))) anil)))))) (mcallG m_Z16 0 (apu (acons (mc (.int 3)) anil)))) (apu anil)))) (mseq (msetm 4 (mcompmB [none, some 0, some 2] (mlist rng1 (acons (mvar 3) anil)) 0 1 (mcallG m_Z0 1 (apu (acons (mvar 2) anil))))) (mseq (msetm 5 (mcallG m_Z16 0 (apu (acons (mc (.int 6)) anil)))) (mseq (mif (mtest (m2 eqSD (mvar 5) (mc (.int 0)))) (mset 4 (mlst (msorted (bvar 4)))) mnext) (mseq (mif (mtest (m2 eqSD (mvar 5) (mc (.int 1)))) (mset 4 (mlst (mcomp [none, none] (mlist enum1 (acons (mvar 4) anil)) (.tp [0, 1]) cyes (m2 addD (mvar 1) (mix (sized (acons (mc (.int 7)) (acons (m1 negD (mc (.int 7))) anil))) (m2 modD (mvar 0) (mc (.int 2)))))))) mnext) (mseq (mif (mtest (m2 eqSD (mvar 5) (mc (.int 2)))) (mset 4 (mlst (mrep (mcut (bvar 4) onone (osome (mc (.int 1)))) (mvar 3)))) mnext) (mretG 0 (mpu (mvar 4))))))))))
noncomputable def m_Z8 : MG := runG 6 b_Z8
noncomputable def b_Z5 : MS := (mretG 0 (m2m ixLD (mlstm (aconsm (mpu (mc (.int 1))) (aconsm (mpu (mc (.int 1))) (aconsm (m2m addD (mpu (mc (.int 1))) (mcallG m_Z16 0 (apu (acons (mc (.int 4)) anil)))) (aconsm (m2m addD (mpu (mc (.int 1))) (mcallG m_Z16 0 (apu (acons (mc (.int 40)) anil)))) (apu (acons (m2 powD (mc (.int 10)) (mc (.int 29))) anil))))))) (mcallG m_Z16 0 (apu (acons (mc (.int 5)) anil)))))
noncomputable def m_Z5 : MG := runG 1 b_Z5
noncomputable def b_Z14 : MS := (mseq (mset 1 (mlst (sized (acons (misX [("NoNumber", false), ("NoStep", true)] (mvar 0)) (acons (misX [("NoNumber", true), ("NoStep", false)] (mvar 0)) (acons (misX [("NoNumber", false), ("NoStep", false)] (mvar 0)) (acons (misX [("NoNumber", false), ("NoStep", false)] (mvar 0)) anil))))))) (mseq (mset 1 (mlst (mcat (bvar 1) (sized (acons (misX [("NoNumber", false), ("NoStep", false)] (mvar 0)) (acons (misX [("NoNumber", false), ("NoStep", false)] (mvar 0)) (acons (misX [("NoNumber", false), ("NoStep", false)] (mvar 0)) anil))))))) (mretF (mcat (bvar 1) (sized (acons (m1 notD (misX [("NoNumber", true), ("NoStep", true)] (mvar 0))) anil))))))
noncomputable def m_Z14 : MF := runB 2 b_Z14
noncomputable def b_Z12 : MS := (mseq (mset 4 (mlst (bvar 1))) (mseq (msetF 5 (sized anil)) (mseq (mtry ["NoNumber", "NoStep"] (mif (mtest (m2 eqSD (mvar 0) (mc (.int 0)))) (mexpr (mcall m_Z1 (acons (mvar 4) (acons (mvar 2) (acons (mvar 3) anil))))) (mif (mtest (m2 eqSD (mvar 0) (mc (.int 1)))) (mexpr (mcall m_Z10 (acons (mvar 4) (acons (mvar 2) (acons (mvar 3) anil))))) (mexpr (mcall m_Z3 (acons (mvar 4) (acons (mvar 2) anil)))))) (xif (mtest (m2 eqSD (mvar 0) (mc (.int 0)))) (xE (xcall xm_Z1 (acons (mvar 4) (acons (mvar 2) (acons (mvar 3) anil))))) (xif (mtest (m2 eqSD (mvar 0) (mc (.int 1)))) (xE (xcall xm_Z10 (acons (mvar 4) (acons (mvar 2) (acons (mvar 3) anil))))) (xE (xcall xm_Z3 (acons (mvar 4) (acons (mvar 2) anil)))))) 6 (msetF 5 (mcallF m_Z14 (acons (mvar 6) anil)))) (mretF (mrep (ovar 5) (call1 intF (acons (meqB false (bvar 4) (bvar 1)) anil)))))))
noncomputable def m_Z12 : MF := runB 7 b_Z12
noncomputable def b_Z17_f0 : MS := (mif (mtest (meqB true (aslst (mcall m_Z12 (acons (mvar 7) (acons (mvar 2) (acons (mvar 5) (acons (mvar 6) anil)))))) (mcomp [none] (mlist rng1 (acons (mc (.int 8)) anil)) (.nm 0) cyes (m2 eqSD (mvar 0) (mc (.int 0)))))) (mret (mc (.bl false))) mnext)
noncomputable def b_Z17_f1 : MS := (mfor (mlist rng1 (acons (mc (.int 3)) anil)) (.nm 7) b_Z17_f0)
noncomputable def b_Z17_f2 : MS := (mfor (aslst (mlst (sized (acons (mc (.int 0)) (acons (mc (.int 3)) (acons (m1 negD (mc (.int 1))) (acons (m2 subD (mc (.int 0)) (mvar 3)) anil))))))) (.nm 6) b_Z17_f1)
noncomputable def b_Z17_f3 : MS := (mif (mtest (meqB true (aslst (mcall m_Z12 (acons (mvar 7) (acons (mvar 2) (acons (mvar 4) (acons (mvar 5) anil)))))) (mcomp [none] (mlist rng1 (acons (mc (.int 8)) anil)) (.nm 0) cyes (m2 eqSD (mvar 0) (mc (.int 1)))))) (mret (mc (.bl false))) mnext)
noncomputable def b_Z17_f4 : MS := (mfor (mlist rng1 (acons (mc (.int 2)) anil)) (.nm 7) b_Z17_f3)
noncomputable def b_Z17_f5 : MS := (mif (mtest (meqB true (mcomp [none, some 2, some 4, some 6] (mlist rng1 (acons (mc (.int 3)) anil)) (.nm 0) (mtest (meqB true (aslst (mcall m_Z12 (acons (mvar 0) (acons (mvar 1) (acons (mvar 2) (acons (mvar 3) anil)))))) (sized anil))) (mvar 0)) (sized anil))) (mret (mc (.bl false))) mnext)
noncomputable def b_Z17_r6 : MS := (mseq (mfor (aslst (mlst (sized (acons (m1 negD (mc (.int 1))) (acons (m2 subD (mc (.int 0)) (mvar 3)) anil))))) (.nm 5) b_Z17_f4) (mfor (aslst (mlst (sized (acons (mc (.int 0)) (acons (mc (.int 1)) (acons (mvar 3) anil)))))) (.nm 6) b_Z17_f5))
noncomputable def b_Z17_f7 : MS := (mseq (msetm 2 (mcallG m_Z8 1 (apu (acons (mc (.int 12)) anil)))) (mseq (msetm 3 (m2m ixLD (mlstm (aconsm (mpu (mc (.int 1))) (aconsm (mpu (mc (.int 2))) (aconsm (mpu (mc (.int 7))) (aconsm (mpu (m2 powD (mc (.int 10)) (mc (.int 29)))) (aconsm (m2m addD (mpu (mc (.int 1))) (mcallG m_Z16 1 (apu (acons (m2 powD (mc (.int 10)) (mc (.int 9))) anil)))) (apu anil))))))) (mcallG m_Z16 1 (apu (acons (mc (.int 5)) anil))))) (mseq (msetm 4 (mcallG m_Z5 1 (apu anil))) (mseq (mfor (aslst (mlst (sized (acons (mc (.int 0)) (acons (m1 negD (mc (.int 1))) (acons (m2 subD (mc (.int 0)) (mvar 3)) anil)))))) (.nm 5) b_Z17_f2) b_Z17_r6))))
noncomputable def b_Z17 : MS := (mseq (mforP (mcallP m_law_pots (acons (mlst (mcut (bvar 0) onone (osome (mc (.int 6))))) anil)) 1 b_Z17_f7) (mret (mc (.bl true))))
noncomputable def m_Z17 : MF := runB 8 b_Z17
end
end Lw
namespace Lw
open PySem L2
theorem eqS_ii (i j : Int) : eqS (.int i) (.int j) = some (i == j) := rfl
theorem eqS_bb (i j : Bool) : eqS (.bl i) (.bl j) = some (i == j) := rfl
theorem eqS_ss (i j : Str) : eqS (.str i) (.str j) = some (i == j) := rfl
theorem eqS_nn : eqS .non .non = some true := rfl
theorem eqS_nb (j : Bool) : eqS .non (.bl j) = some false := rfl
theorem eqS_bn (j : Bool) : eqS (.bl j) .non = some false := rfl
theorem eqS_ni (j : Int) : eqS .non (.int j) = some false := rfl
theorem eqS_in (j : Int) : eqS (.int j) .non = some false := rfl
local macro_rules | `(tactic| simp_arith [$ls,*]) => `(tactic| simp (config := {decide := true, implicitDefEqProofs := false}) only [runB, startS, List.map_cons, List.map_nil, List.length_cons, List.length_nil, List.replicate, List.cons_append, List.nil_append, mvar, bvar, mc, mlst, aslst, m2, mtest, subD, mulD, fdivD, modD, powD, ltD, leD, gtD, geD, eqSD, neSD, eqS_ii, eqS_bb, eqS_ss, eqS_nn, eqS_nb, eqS_bn, eqS_ni, eqS_in, m1, negD, notD, truD, anil, acons, sized, mtup, mlen, mix, onone, osome, mcut, mcat, addD, call1, min2F, two2, intF, mnext, mseq, mif, mnever, mset, msetF, mexpr, mret, mretF, mretO, mapp, msetix, mfreeze, masg, mlist, enum1, cyes, mcall, mcallF, meqB, int2, bl2, tgD, setAll, Option.bind_some, Option.map_some, Option.bind_none, Option.map_none, List.getElem?_cons_zero, List.getElem?_cons_succ, List.set_cons_zero, List.set_cons_succ, List.isEmpty_cons, List.isEmpty_nil, Bool.not_true, Bool.not_false, $ls,*])
noncomputable def stir (c k : Int) : Int := if 10 ^ 18 <= c then (c - 10 ^ 18) / 2 ^ (28 * k).toNat % 2 ^ 28 else
 (((c + 1013 * k + 1) * 16807 % 2147483647) * ((c + 1013 * k + 1) * 16807 % 2147483647) % 2147483629) * 39373 % 2147483587 / 8
theorem mulOk_r (i j : Int) (h1 : -(2 ^ 64) < j) (h2 : j < 2 ^ 64) : mulOk i j = true := by
 unfold mulOk; simp only [h1, h2, decide_true, Bool.and_self, Bool.or_true]
theorem mulOk_l (i j : Int) (h1 : -(2 ^ 64) < i) (h2 : i < 2 ^ 64) : mulOk i j = true := by
 unfold mulOk; simp only [h1, h2, decide_true, Bool.and_self, Bool.true_or]
theorem modOk_of (i j : Int) (h : 0 < j) : modOk i j = true := by unfold modOk; simp only [h, decide_true]
theorem seqI {x y : MS} {ρ ρ' : Ro} {o : Option Out} (h : x ρ = some (.nx ρ')) (h2 : y ρ' = o) : mseq x y ρ = o := by
 unfold mseq; rw [h]; exact h2
noncomputable def stepO {α : Type} (I : List α -> Ro -> Prop) (Q : Out -> Prop) (ds : List α) : Out -> Prop
 | .nx ρ => I ds ρ | .ct ρ => I ds ρ | .bk ρ => Q (.nx ρ) | .rt d => Q (.rt d) | .rf es => Q (.rf es) | .rp d es => Q (.rp d es) | .rg d p r => Q (.rg d p r) | .rgf d p r => Q (.rgf d p r)
theorem forD_post {α : Type} {g : Tg} {body : MS} {f : α -> D} (I : List α -> Ro -> Prop) (Q : Out -> Prop)
  (hs : ∀ d ds ρ, I (d :: ds) ρ -> ∃ ρ1 o, tgD g (f d) ρ = some ρ1 /\ body ρ1 = some o /\ stepO I Q ds o) (hd : ∀ ρ, I [] ρ -> Q (.nx ρ)) :
  ∀ (ds : List α) (ρ : Ro), I ds ρ -> ∃ o, forD g body (ds.map f) ρ = some o /\ Q o
 | [], ρ, h => ⟨.nx ρ, rfl, hd ρ h⟩
 | d :: ds, ρ, h => by
  obtain ⟨ρ1, o, h1, h2, h3⟩ := hs d ds ρ h
  rw [List.map_cons]
  unfold forD
  rw [h1]
  simp only [h2]
  cases o with
  | nx ρ2 => exact forD_post I Q hs hd ds ρ2 h3
  | ct ρ2 => exact forD_post I Q hs hd ds ρ2 h3
  | bk ρ2 => exact ⟨_, rfl, h3⟩
  | rt d => exact ⟨_, rfl, h3⟩
  | rf d => exact ⟨_, rfl, h3⟩
  | rp d es => exact ⟨_, rfl, h3⟩
  | rg d p r => exact ⟨_, rfl, h3⟩
  | rgf d p r => exact ⟨_, rfl, h3⟩
theorem compD_map {α : Type} {g : Tg} {c : MB} {elt : ME} {f : α -> D} {G : α -> D} (I : List α -> Ro -> Prop)
  (hs : ∀ d ds ρ, I (d :: ds) ρ -> ∃ ρ1, tgD g (f d) ρ = some ρ1 /\ c ρ1 = some true /\ elt ρ1 = some (G d) /\ I ds ρ1) :
  ∀ (ds : List α) (ρ : Ro) (acc : List D), I ds ρ -> acc.length + ds.length <= sizeLine -> compD g c elt (ds.map f) ρ acc = some (acc ++ ds.map G)
 | [], ρ, acc, h, hl => by simp [compD]
 | d :: ds, ρ, acc, h, hl => by
  obtain ⟨ρ1, h1, h2, h3, h4⟩ := hs d ds ρ h
  rw [List.map_cons]
  unfold compD
  rw [h1]
  simp only [h2, h3]
  rw [List.length_cons] at hl
  rw [if_pos (by omega), compD_map I hs ds ρ1 _ h4 (by simp; omega)]
  simp
noncomputable def cutI {α : Type} (xs : List α) (lo hi : Option Int) : List α := (xs.drop (HT.sIx xs.length 0 lo)).take (HT.sIx xs.length xs.length hi - HT.sIx xs.length 0 lo)
theorem cutL_map {α : Type} (f : α -> D) (xs : List α) (lo hi : Option Int) : cutL (xs.map f) lo hi = (cutI xs lo hi).map f := by
 unfold cutL cutI; rw [List.length_map, <- List.map_drop, <- List.map_take]
theorem cutI_to {α : Type} (xs : List α) (k : Nat) : cutI xs none (some (k : Int)) = xs.take k := by
 unfold cutI
 rw [HT.sIx_nat, HT.sIx_none]
 simp
theorem atI_map {α : Type} (f : α -> D) (xs : List α) (k : Int) (h0 : 0 <= k) (h1 : k < xs.length) (dflt : α) : atI (xs.map f) k = some (f (xs.getD k.toNat dflt)) := by
 unfold atI ixN
 rw [List.length_map, if_pos h0, if_pos h1]
 have hl : k.toNat < xs.length := by omega
 simp [List.getElem?_map, hl]
theorem runB_rt {n : Nat} {m : MS} {ds : List D} {d : D} (h : m (startS n ds) = some (.rt d)) : runB n m ds = some (.sh d) := by unfold runB; rw [h]
theorem runB_rf {n : Nat} {m : MS} {ds : List D} {d : List D} (h : m (startS n ds) = some (.rf d)) : runB n m ds = some (.fr d) := by unfold runB; rw [h]
noncomputable def after (rest : MS) : Out -> Option Out
 | .nx ρ => rest ρ | .bk ρ => some (.bk ρ) | .ct ρ => some (.ct ρ) | .rt d => some (.rt d) | .rf d => some (.rf d) | .rp d es => some (.rp d es) | .rg d p r => some (.rg d p r) | .rgf d p r => some (.rgf d p r)
theorem seq_after {x y : MS} {ρ : Ro} {o : Out} (h : x ρ = some o) : mseq x y ρ = after y o := by
 unfold mseq; rw [h]; cases o <;> rfl
theorem min_if (i j : Int) : (if j < i then j else i) = min i j := by omega
theorem size_big : 1000000 <= sizeLine := by rw [show sizeLine = 2 ^ 24 from rfl]; decide
theorem le_size {n : Nat} (h : n <= 1000000) : n <= sizeLine := Nat.le_trans h size_big
theorem range_cons (j n : Nat) (h : j < n) : List.range' j (n - j) = j :: List.range' (j + 1) (n - (j + 1)) := by
 have : n - j = (n - (j + 1)) + 1 := by omega
 rw [this, List.range'_succ]
theorem mod_cases {x n : Int} (hn : 0 < n) : 0 <= x % n /\ x % n < n := ⟨Int.emod_nonneg _ (by omega), Int.emod_lt_of_pos _ hn⟩
noncomputable def Run (m : MS) (ρ : Ro) (R : Out -> Prop) : Prop := ∃ o, m ρ = some o /\ R o
noncomputable def afterR (rest : MS) (R : Out -> Prop) : Out -> Prop
 | .nx ρ => Run rest ρ R | .bk ρ => R (.bk ρ) | .ct ρ => R (.ct ρ) | .rt d => R (.rt d) | .rf d => R (.rf d) | .rp d es => R (.rp d es) | .rg d p r => R (.rg d p r) | .rgf d p r => R (.rgf d p r)
theorem run_seq {x y : MS} {ρ ρ' : Ro} {R : Out -> Prop} (h : x ρ = some (.nx ρ')) (h2 : Run y ρ' R) : Run (mseq x y) ρ R := by
 obtain ⟨o, e, r⟩ := h2
 exact ⟨o, seqI h e, r⟩
theorem run_mseq {x y : MS} {ρ : Ro} {R : Out -> Prop} (h : Run x ρ (afterR y R)) : Run (mseq x y) ρ R := by
 obtain ⟨o, e, r⟩ := h
 cases o with
 | nx ρ' => exact run_seq e r
 | bk ρ' => exact ⟨_, seq_after e, r⟩
 | ct ρ' => exact ⟨_, seq_after e, r⟩
 | rt d => exact ⟨_, seq_after e, r⟩
 | rf d => exact ⟨_, seq_after e, r⟩
 | rp d es => exact ⟨_, seq_after e, r⟩
 | rg d p' r' => exact ⟨_, seq_after e, r⟩
 | rgf d p' r' => exact ⟨_, seq_after e, r⟩
theorem run_for {α : Type} {mi : ML} {g : Tg} {body : MS} {ρ : Ro} {f : α -> D} (ds : List α) (hi : mi ρ = some (ds.map f)) (I : List α -> Ro -> Prop) (Q : Out -> Prop) (h0 : I ds ρ)
  (hs : ∀ d ds ρ, I (d :: ds) ρ -> ∃ ρ1, tgD g (f d) ρ = some ρ1 /\ Run body ρ1 (stepO I Q ds)) (hd : ∀ ρ, I [] ρ -> Q (.nx ρ)) : Run (mfor mi g body) ρ Q := by
 obtain ⟨o, e, q⟩ := forD_post (g := g) (body := body) I Q (fun d ds ρ h => by obtain ⟨ρ1, a, o, b, c⟩ := hs d ds ρ h; exact ⟨ρ1, o, a, b, c⟩) hd ds ρ h0
 exact ⟨o, by unfold mfor; rw [hi]; exact e, q⟩
theorem run_forN {mi : ML} {g : Tg} {body : MS} {ρ : Ro} {f : Nat -> D} (n : Nat) (hi : mi ρ = some ((List.range n).map f)) (I : Nat -> Ro -> Prop) (Q : Out -> Prop) (h0 : I 0 ρ)
  (hs : ∀ j ρ, j < n -> I j ρ -> ∃ ρ1, tgD g (f j) ρ = some ρ1 /\ Run body ρ1 (stepO (fun (_ : List Unit) ρ => I (j + 1) ρ) Q [])) (hd : ∀ ρ, I n ρ -> Q (.nx ρ)) : Run (mfor mi g body) ρ Q := by
 refine run_for (List.range n) hi (I := fun ks ρ => ∃ j, j <= n /\ ks = List.range' j (n - j) /\ I j ρ) (Q := Q) ⟨0, by omega, by rw [List.range_eq_range']; rfl, h0⟩ ?_ ?_
 ·rintro d ds ρ ⟨j, hj, e, h⟩
  have hlt : j < n := by
   rcases Nat.lt_or_ge j n with z | z
   ·exact z
   ·rw [show n - j = 0 by omega] at e; cases e
  rw [range_cons j n hlt] at e
  obtain ⟨e1, e2⟩ := List.cons.inj e
  subst e1
  obtain ⟨ρ1, a1, o, a2, a3⟩ := hs d ρ hlt h
  refine ⟨ρ1, a1, o, a2, ?_⟩
  cases o with
  | nx r => exact ⟨d + 1, by omega, e2, a3⟩
  | ct r => exact ⟨d + 1, by omega, e2, a3⟩
  | bk r => exact a3
  | rt r => exact a3
  | rf r => exact a3
  | rp r r2 => exact a3
  | rg r r2 r3 => exact a3
  | rgf r r2 r3 => exact a3
 ·rintro ρ ⟨j, hj, e, h⟩
  have : n - j = 0 := by
   rcases Nat.eq_zero_or_pos (n - j) with z | z
   ·exact z
   ·rw [range_cons j n (by omega)] at e; cases e
  have : j = n := by omega
  subst this
  exact hd ρ h
theorem run_freeze {i : Nat} {m : MS} {ρ : Ro} {ds : List D} {R : Out -> Prop} (h : ρ[i]? = some (some (.own ds))) (h2 : Run m (ρ.set i (some (.sh (.lst ds)))) R) : Run (mfreeze i m) ρ R := by
 obtain ⟨o, e, r⟩ := h2
 exact ⟨o, by unfold mfreeze; rw [h]; exact e, r⟩
theorem run_if {c : MB} {x y : MS} {ρ : Ro} {R : Out -> Prop} {b : Bool} (h : c ρ = some b) (h2 : Run (if b then x else y) ρ R) : Run (mif c x y) ρ R := by
 obtain ⟨o, e, r⟩ := h2
 refine ⟨o, ?_, r⟩
 unfold mif; rw [h]
 cases b <;> exact e
theorem run_next {ρ : Ro} {R : Out -> Prop} (h : R (.nx ρ)) : Run mnext ρ R := ⟨_, rfl, h⟩
theorem nat_of {x : Int} (h : 0 <= x) : ∃ n : Nat, x = n := ⟨x.toNat, by omega⟩
theorem rangeD_map (lo : Int) (n : Nat) : rangeD lo n = (List.range n).map fun (i : Nat) => D.int (lo + (i : Int)) := rfl
theorem rangeD_li (n : Nat) : rangeD 0 n = ((List.range n).map fun (i : Nat) => (i : Int)).map .int := by
 rw [rangeD_map, List.map_map]
 apply List.map_congr_left
 intro i _
 simp
theorem okR_of {j : Int} (h1 : -(2 ^ 62) <= j) (h2 : j < 2 ^ 62) : okR j = true := by unfold okR; simp only [h1, h2, decide_true, Bool.and_self]
theorem rng1_ok {j : Int} (h : okR j = true) : rng1 [.int j] = some (rangeD 0 j.toNat) := by
 unfold rng1
 simp only [h, if_true]
theorem rng2_ok {i j : Int} (h : okR i = true) (h2 : okR j = true) : rng2 [.int i, .int j] = some (rangeD i (j - i).toNat) := by
 unfold rng2
 simp only [h, h2, Bool.and_self, if_true]
theorem run_retO {i : Nat} {ρ : Ro} {ds : List D} {R : Out -> Prop} (h : ρ[i]? = some (some (.own ds))) (h2 : R (.rf ds)) : Run (mretO i) ρ R := ⟨_, by unfold mretO; rw [h], h2⟩
theorem fdivOk_of (i j : Int) (h : 0 < j) (h2 : j < 1073741824) : fdivOk i j = true := by unfold fdivOk; simp only [h, h2, decide_true, Bool.and_self]
theorem enumL_map : ∀ (row : List Int) (k : Nat), enumL k (row.map .int) = (List.range row.length).map fun (i : Nat) => D.tup [.int ((k + i : Nat) : Int), .int (row.getD i 0)]
 | [], k => rfl
 | x :: row, k => by
  rw [List.map_cons, enumL, enumL_map row (k + 1), List.length_cons, List.range_succ_eq_map, List.map_cons, List.map_map]
  congr 1
  apply List.map_congr_left
  intro i _
  simp only [Function.comp, Nat.succ_eq_add_one, List.getD_cons_succ]
  rw [show k + 1 + i = k + (i + 1) by omega]
theorem eq_nilT (ds : List D) : eqFD true (.lst ds) (.lst []) = some (.bl (!ds.isEmpty)) := by
 unfold eqFD eqF
 cases ds with
 | nil => rfl
 | cons d ds => rfl
theorem cutI_len {α : Type} (xs : List α) (lo hi : Option Int) : (cutI xs lo hi).length <= xs.length := by
 unfold cutI; rw [List.length_take, List.length_drop]; omega
theorem zipE_int (n : Nat) : ∀ xs : List Int, zipE (eqF (n + 1)) (xs.map .int) (xs.map .int) = some true
 | [] => rfl
 | x :: xs => by
  rw [List.map_cons, zipE, zipE_int n xs]
  show (some (x == x)).bind _ = _
  rw [beq_self_eq_true]; rfl
theorem eqF_li (n : Nat) (xs : List Int) : eqF (n + 2) (.lst (xs.map .int)) (.lst (xs.map .int)) = some true := by
 show (if _ = _ then zipE (eqF (n + 1)) (xs.map .int) (xs.map .int) else some false) = _
 rw [if_pos rfl, zipE_int]
theorem runB_run {n : Nat} {m : MS} {ds : List D} {d : D} (h : Run m (startS n ds) (fun o => o = .rt d)) : runB n m ds = some (.sh d) := by
 obtain ⟨o, e, rfl⟩ := h
 exact runB_rt e
theorem mcall_fr {f : MF} {m : ML} {ρ : Ro} {ds es : List D} (h : m ρ = some ds) (h2 : f ds = some (.fr es)) : mcall f m ρ = some (.lst es) := by
 unfold mcall; rw [h]; show (match f ds with | some (.sh d) => some d | some (.fr es) => some (D.lst es) | some (.pr d es) => some (.tup [d, .lst es]) | none => none) = _; rw [h2]
theorem mcall_sh {f : MF} {m : ML} {ρ : Ro} {ds : List D} {d : D} (h : m ρ = some ds) (h2 : f ds = some (.sh d)) : mcall f m ρ = some d := by
 unfold mcall; rw [h]; show (match f ds with | some (.sh d) => some d | some (.fr es) => some (D.lst es) | some (.pr d es) => some (.tup [d, .lst es]) | none => none) = _; rw [h2]
theorem mcall_pr {f : MF} {m : ML} {ρ : Ro} {ds es : List D} {d : D} (h : m ρ = some ds) (h2 : f ds = some (.pr d es)) : mcall f m ρ = some (.tup [d, .lst es]) := by
 unfold mcall; rw [h]; show (match f ds with | some (.sh d) => some d | some (.fr es) => some (D.lst es) | some (.pr d es) => some (.tup [d, .lst es]) | none => none) = _; rw [h2]
theorem acons_ev {x : ME} {r : ML} {ρ : Ro} {d : D} {ds : List D} (h : x ρ = some d) (h2 : r ρ = some ds) : acons x r ρ = some (d :: ds) := by
 unfold acons; rw [h, h2]; rfl
theorem anil_ev {ρ : Ro} : anil ρ = some [] := rfl
theorem at_nat (row : List Int) (i : Nat) (h : i < row.length) : atI (row.map D.int) (i : Int) = some (.int (row.getD i 0)) := by
 have := atI_map D.int row (i : Int) (by omega) (by omega) 0
 rw [Int.toNat_natCast] at this
 exact this
theorem tlt_ev {x y : ME} {ρ : Ro} {i j : Int} (h1 : x ρ = some (.int i)) (h2 : y ρ = some (.int j)) : mtest (m2 ltD x y) ρ = some (decide (i < j)) := by
 unfold mtest m2; rw [h1, h2]; rfl
theorem compD_filter {α : Type} {g : Tg} {c : MB} {elt : ME} {f : α -> D} {p : α -> Bool} {G : α -> D} (I : List α -> Ro -> Prop)
  (hs : ∀ d ds ρ, I (d :: ds) ρ -> ∃ ρ1, tgD g (f d) ρ = some ρ1 /\ c ρ1 = some (p d) /\ (p d = true -> elt ρ1 = some (G d)) /\ I ds ρ1) :
  ∀ (ds : List α) (ρ : Ro) (acc : List D), I ds ρ -> acc.length + ds.length <= sizeLine -> compD g c elt (ds.map f) ρ acc = some (acc ++ (ds.filter p).map G)
 | [], ρ, acc, h, hl => by simp [compD]
 | d :: ds, ρ, acc, h, hl => by
  obtain ⟨ρ1, h1, h2, h3, h4⟩ := hs d ds ρ h
  rw [List.length_cons] at hl
  rw [List.map_cons]
  unfold compD
  rw [h1]
  simp only [h2]
  cases hp : p d with
  | false =>
   simp only
   rw [compD_filter I hs ds ρ1 acc h4 (by omega), List.filter_cons, hp]
   rfl
  | true =>
   simp only [h3 hp]
   rw [if_pos (by omega), compD_filter I hs ds ρ1 _ h4 (by simp; omega), List.filter_cons, hp]
   simp
theorem eqB_nil {m : ML} {ρ : Ro} {ds : List D} (h : m ρ = some ds) : mtest (meqB true m (sized anil)) ρ = some (!ds.isEmpty) := by
 have i0 : 0 <= sizeLine := Nat.zero_le _
 have e : sized anil ρ = some [] := by simp_arith [i0, if_true]
 unfold mtest meqB
 rw [h, e]
 simp only [Option.bind_some, eq_nilT]
theorem mset_ev {i : Nat} {x : ME} {ρ : Ro} {d : D} (h : x ρ = some d) : mset i x ρ = some (.nx (ρ.set i (some (.sh d)))) := by unfold mset; rw [h]; rfl
theorem mlst_ev {m : ML} {ρ : Ro} {ds : List D} (h : m ρ = some ds) : mlst m ρ = some (.lst ds) := by unfold mlst; rw [h]; rfl
theorem sized_ev {m : ML} {ρ : Ro} {ds : List D} (h : m ρ = some ds) (hz : ds.length <= sizeLine) : sized m ρ = some ds := by
 unfold sized; rw [h]; show (if ds.length <= sizeLine then some ds else none) = _; rw [if_pos hz]
theorem mix_ev {m : ML} {i : ME} {ρ : Ro} {ds : List D} {k : Int} {d : D} (h1 : m ρ = some ds) (h2 : i ρ = some (.int k)) (h3 : atI ds k = some d) : mix m i ρ = some d := by
 unfold mix; rw [h1, h2]; exact h3
theorem aslst_ev {m : ME} {ρ : Ro} {ds : List D} (h : m ρ = some (.lst ds)) : aslst m ρ = some ds := by unfold aslst; rw [h]
theorem mcat_ev {x y : ML} {ρ : Ro} {ds es : List D} (h1 : x ρ = some ds) (h2 : y ρ = some es) (hz : ds.length + es.length <= sizeLine) : mcat x y ρ = some (ds ++ es) := by
 unfold mcat; rw [h1, h2]; show (if ds.length + es.length <= sizeLine then some (ds ++ es) else none) = _; rw [if_pos hz]
theorem mtup_ev {m : ML} {ρ : Ro} {ds : List D} (h : m ρ = some ds) (hz : ds.length <= sizeLine) : mtup m ρ = some (.tup ds) := by
 unfold mtup; rw [sized_ev h hz]; rfl
theorem mret_ev {x : ME} {ρ : Ro} {d : D} (h : x ρ = some d) : mret x ρ = some (.rt d) := by unfold mret; rw [h]; rfl
theorem filter_none {α : Type} (xs : List α) : xs.filter (fun _ => false) = [] := by
 induction xs with
 | nil => rfl
 | cons x xs ih => rw [List.filter_cons]; exact ih
section
open PySem L2
noncomputable def lx : List Nat -> List Nat -> Bool
 | [], [] => false
 | [], _ :: _ => true
 | _ :: _, [] => false
 | a :: l, b :: m => decide (a < b) || (a == b && lx l m)
noncomputable def ahead (l m : List Nat) : Bool := decide (m.length < l.length) || (l.length == m.length && lx l m)
theorem lx_irr : ∀ l, lx l l = false
 | [] => rfl
 | a :: l => by unfold lx; simp [lx_irr l]
theorem lx_trans : ∀ {a b c : List Nat}, lx a b = true -> lx b c = true -> lx a c = true
 | [], [], _, h, _ => by cases h
 | [], _ :: _, [], _, h => by cases h
 | [], _ :: _, _ :: _, _, _ => rfl
 | _ :: _, [], _, h, _ => by cases h
 | _ :: _, _ :: _, [], _, h => by cases h
 | a :: l, b :: m, c :: k, h1, h2 => by
  unfold lx at *
  simp only [Bool.or_eq_true, Bool.and_eq_true, decide_eq_true_eq, beq_iff_eq] at *
  rcases h1 with h1 | ⟨rfl, h1⟩ <;> rcases h2 with h2 | ⟨rfl, h2⟩
  ·exact .inl (by omega)
  ·exact .inl h1
  ·exact .inl h2
  ·exact .inr ⟨rfl, lx_trans h1 h2⟩
theorem lx_tri : ∀ (a b : List Nat), a = b \/ lx a b = true \/ lx b a = true
 | [], [] => .inl rfl
 | [], _ :: _ => .inr (.inl rfl)
 | _ :: _, [] => .inr (.inr rfl)
 | a :: l, b :: m => by
  unfold lx
  simp only [Bool.or_eq_true, Bool.and_eq_true, decide_eq_true_eq, beq_iff_eq]
  rcases Nat.lt_trichotomy a b with h | h | h
  ·exact .inr (.inl (.inl h))
  ·subst h
   rcases lx_tri l m with h | h | h
   ·exact .inl (by rw [h])
   ·exact .inr (.inl (.inr ⟨rfl, h⟩))
   ·exact .inr (.inr (.inr ⟨rfl, h⟩))
  ·exact .inr (.inr (.inl h))
theorem ahead_iff (l m : List Nat) : ahead l m = true ↔ m.length < l.length \/ (l.length = m.length /\ lx l m = true) := by
 unfold ahead
 simp only [Bool.or_eq_true, Bool.and_eq_true, decide_eq_true_eq, beq_iff_eq]
theorem ahead_trans {a b c : List Nat} (h1 : ahead a b = true) (h2 : ahead b c = true) : ahead a c = true := by
 rw [ahead_iff] at *
 rcases h1 with h1 | ⟨h1, h1'⟩ <;> rcases h2 with h2 | ⟨h2, h2'⟩
 ·exact .inl (by omega)
 ·exact .inl (by omega)
 ·exact .inl (by omega)
 ·exact .inr ⟨by omega, lx_trans h1' h2'⟩
theorem ahead_tri (a b : List Nat) : a = b \/ ahead a b = true \/ ahead b a = true := by
 rw [ahead_iff, ahead_iff]
 rcases Nat.lt_trichotomy a.length b.length with h | h | h
 ·exact .inr (.inr (.inl h))
 ·rcases lx_tri a b with z | z | z
  ·exact .inl z
  ·exact .inr (.inl (.inr ⟨h, z⟩))
  ·exact .inr (.inr (.inr ⟨h.symm, z⟩))
 ·exact .inr (.inl (.inl h))
theorem ahead_irr (a : List Nat) : ahead a a = false := by
 unfold ahead; simp [lx_irr]
theorem ahead_cons (p : Nat) (a b : List Nat) : ahead (p :: a) (p :: b) = ahead a b := by
 unfold ahead
 simp [lx]
noncomputable def Best (P : List Nat -> Prop) (l : List Nat) : Prop := P l /\ ∀ m, P m -> ahead m l = false
theorem Best.iff {P Q : List Nat -> Prop} {l : List Nat} (a : Best P l) (h : ∀ m, P m ↔ Q m) : Best Q l := ⟨(h l).mp a.1, fun m hm => a.2 m ((h m).mpr hm)⟩
theorem Best.len {P : List Nat -> Prop} {l : List Nat} (a : Best P l) (m : List Nat) (h : P m) : m.length <= l.length := by
 have := a.2 m h
 rcases Nat.lt_or_ge l.length m.length with z | z
 ·rw [(ahead_iff m l).mpr (.inl z)] at this; cases this
 ·exact z
noncomputable def far (s : Int) (d : Bool) (a b : Int) : Prop := if d then s <= b - a else s <= a - b
noncomputable instance (s : Int) (d : Bool) (a b : Int) : Decidable (far s d a b) := by unfold far; exact inferInstance
noncomputable def Wd (x : Nat -> Int) (n : Nat) (s : Int) : Bool -> List Nat -> Prop
 | _, [] => False
 | _, [p] => p < n
 | d, p :: q :: l => p < q /\ far s d (x p) (x q) /\ Wd x n s (!d) (q :: l)
noncomputable def Hd (p : Nat) (l : List Nat) : Prop := ∃ m, l = p :: m
variable {x : Nat -> Int} {n : Nat} {s : Int}
theorem Wd.lt : ∀ {l : List Nat} {d : Bool} {p : Nat}, Wd x n s d (p :: l) -> p < n
 | [], d, p, h => h
 | q :: l, d, p, h => Nat.lt_trans h.1 h.2.2.lt
theorem Wd.len : ∀ {l : List Nat} {d : Bool} {p : Nat}, Wd x n s d (p :: l) -> l.length + p < n
 | [], d, p, h => by have h : p < n := h; simpa using h
 | q :: l, d, p, h => by
  have := h.2.2.len
  have := h.1
  simp; omega
end
section
open PySem L2
noncomputable def Sd (x : Nat -> Int) (n : Nat) (s : Int) : List Nat -> Nat -> Bool -> Prop
 | [], _, _ => False
 | [p], _, _ => p < n
 | p :: q :: l, t, d => p < q /\ far s d (x p) (x q) /\ (Sd x n s (q :: l) t d \/ ∃ u, t = u + 1 /\ Sd x n s (q :: l) u (!d))
variable {x : Nat -> Int} {n : Nat} {s : Int}
theorem Sd.lt : ∀ {l : List Nat} {p t : Nat} {d : Bool}, Sd x n s (p :: l) t d -> p < n
 | [], _, _, _, h => h
 | q :: l, p, t, d, h => by
  rcases h.2.2 with z | ⟨u, _, z⟩
  ·exact Nat.lt_trans h.1 z.lt
  ·exact Nat.lt_trans h.1 z.lt
theorem Sd.mono : ∀ {l : List Nat} {t u : Nat} {d : Bool}, Sd x n s l t d -> t <= u -> Sd x n s l u d
 | [], _, _, _, h, _ => h
 | [p], _, _, _, h, _ => h
 | p :: q :: l, t, u, d, h, hu => by
  refine ⟨h.1, h.2.1, ?_⟩
  rcases h.2.2 with z | ⟨v, e, z⟩
  ·exact .inl (z.mono hu)
  ·exact .inr ⟨u - 1, by omega, z.mono (by omega)⟩
theorem Sd.len : ∀ {l : List Nat} {p t : Nat} {d : Bool}, Sd x n s (p :: l) t d -> l.length + p < n
 | [], p, _, _, h => by have h : p < n := h; simpa using h
 | q :: l, p, t, d, h => by
  have h1 := h.1
  have : l.length + q < n := by
   rcases h.2.2 with z | ⟨u, _, z⟩
   ·exact z.len
   ·exact z.len
  simp; omega
theorem Sd.enough : ∀ {l : List Nat} {t : Nat} {d : Bool}, Sd x n s l t d -> Sd x n s l l.length d
 | [], _, _, h => h
 | [p], _, _, h => h
 | p :: q :: l, t, d, h => by
  refine ⟨h.1, h.2.1, ?_⟩
  rcases h.2.2 with z | ⟨v, e, z⟩
  ·exact .inl (z.enough.mono (by simp))
  ·exact .inr ⟨(q :: l).length, rfl, z.enough⟩
noncomputable def FS (x : Nat -> Int) (n : Nat) (s : Int) (t : Nat) (d : Bool) (p : Nat) (l : List Nat) : Prop := Sd x n s l t d /\ Hd p l
noncomputable def FR (x : Nat -> Int) (n : Nat) (s : Int) (t : Nat) (d : Bool) (p : Nat) (l : List Nat) : Prop := (Sd x n s l t d \/ ∃ u, t = u + 1 /\ Sd x n s l u (!d)) /\ Hd p l
theorem ahead_nil (l : List Nat) (h : l ≠ []) : ahead [] l = false := by
 cases l with
 | nil => exact absurd rfl h
 | cons a l =>
  cases e : ahead [] (a :: l) with
  | false => rfl
  | true =>
   rw [ahead_iff] at e
   simp only [List.length_nil, List.length_cons] at e
   omega
theorem ahead_false {a b : List Nat} : ahead a b = false ↔ a = b \/ ahead b a = true := by
 constructor
 ·intro h
  rcases ahead_tri a b with z | z | z
  ·exact .inl z
  ·rw [h] at z; cases z
  ·exact .inr z
 ·rintro (z | z)
  ·rw [z]; exact ahead_irr _
  ·cases e : ahead a b with
   | false => rfl
   | true => have := ahead_trans e z; rw [ahead_irr] at this; cases this
theorem ahead_ff {a b c : List Nat} (h1 : ahead a b = false) (h2 : ahead b c = false) : ahead a c = false := by
 rw [ahead_false] at *
 rcases h1 with rfl | h1
 ·exact h2
 ·rcases h2 with rfl | h2
  ·exact .inr h1
  ·exact .inr (ahead_trans h2 h1)
theorem best_two {P Q R : List Nat -> Prop} {a b c : List Nat} (ha : Best P a) (hb : Best Q b) (hc : c = if ahead b a = true then b else a) (hR : ∀ l, R l ↔ P l \/ Q l) : Best R c := by
 subst hc
 cases h : ahead b a with
 | true =>
  simp only [if_true]
  exact ⟨(hR _).mpr (.inr hb.1), fun m hm => by
   rcases (hR m).mp hm with z | z
   ·exact ahead_ff (ha.2 m z) (ahead_false.mpr (.inr h))
   ·exact hb.2 m z⟩
 | false =>
  simp only [Bool.false_eq_true, if_false]
  exact ⟨(hR _).mpr (.inl ha.1), fun m hm => by
   rcases (hR m).mp hm with z | z
   ·exact ha.2 m z
   ·exact ahead_ff (hb.2 m z) h⟩
noncomputable def fl : List (List Nat) -> List Nat -> List Nat
 | [], b => b
 | m :: ls, b => if b.length < m.length then fl ls m else fl ls b
theorem fl_best : ∀ (ls : List (List Nat)) (b : List Nat), (b :: ls).Pairwise (fun a c => lx a c = true) -> fl ls b ∈ b :: ls /\ ∀ m ∈ b :: ls, ahead m (fl ls b) = false
 | [], b, _ => ⟨by simp [fl], by simp [fl, ahead_irr]⟩
 | m :: ls, b, h => by
  have hp := List.pairwise_cons.mp h
  unfold fl
  by_cases hl : b.length < m.length
  ·rw [if_pos hl]
   obtain ⟨h1, h2⟩ := fl_best ls m hp.2
   refine ⟨List.mem_cons_of_mem _ h1, fun k hk => ?_⟩
   rcases List.mem_cons.mp hk with rfl | hk
   ·exact ahead_ff (ahead_false.mpr (.inr ((ahead_iff m k).mpr (.inl hl)))) (h2 m (by simp))
   ·exact h2 k hk
  ·rw [if_neg hl]
   have hs : (b :: ls).Pairwise (fun a c => lx a c = true) := List.pairwise_cons.mpr ⟨fun c hc => hp.1 c (by simp [hc]), (List.pairwise_cons.mp hp.2).2⟩
   obtain ⟨h1, h2⟩ := fl_best ls b hs
   refine ⟨?_, fun k hk => ?_⟩
   ·rcases List.mem_cons.mp h1 with z | z
    ·rw [z]; simp
    ·simp [z]
   ·rcases List.mem_cons.mp hk with rfl | hk
    ·exact h2 k (by simp)
    ·rcases List.mem_cons.mp hk with rfl | hk
     ·refine ahead_ff (b := b) ?_ (h2 b (by simp))
      refine ahead_false.mpr (.inr ((ahead_iff b k).mpr ?_))
      rcases Nat.lt_or_ge k.length b.length with z | z
      ·exact .inl z
      ·exact .inr ⟨by omega, hp.1 k (by simp)⟩
     ·exact h2 k (by simp [hk])
noncomputable def flD : List (List Nat) -> List Nat
 | [] => []
 | m :: ls => fl ls m
theorem lx_heads {a b : Nat} {l m : List Nat} (h : a < b) : lx (a :: l) (b :: m) = true := by
 unfold lx; simp [h]
theorem best_step {t : Nat} {d : Bool} {p : Nat} {qs : List Nat} {R : Nat -> List Nat} (hp : p < n) (hq : ∀ q, q ∈ qs ↔ p < q /\ q < n /\ far s d (x p) (x q)) (hr : qs.Pairwise (· < ·)) (hR : ∀ q ∈ qs, Best (FR x n s t d q) (R q)) :
  Best (FS x n s t d p) (p :: flD (qs.map R)) := by
 have hd : ∀ q ∈ qs, ∃ m, R q = q :: m := fun q h => (hR q h).1.2
 cases qs with
 | nil =>
  refine ⟨⟨hp, [], rfl⟩, ?_⟩
  rintro m ⟨h1, k, rfl⟩
  cases k with
  | nil => exact ahead_irr _
  | cons q k =>
   exfalso
   have hlt : q < n := by
    rcases h1.2.2 with z | ⟨u, _, z⟩
    ·exact z.lt
    ·exact z.lt
   have := (hq q).mpr ⟨h1.1, hlt, h1.2.1⟩
   cases this
 | cons q0 qs =>
  have pw : ((q0 :: qs).map R).Pairwise (fun a c => lx a c = true) := by
   rw [List.pairwise_map]
   refine hr.imp_of_mem fun {a b} ha hb hab => ?_
   obtain ⟨m1, e1⟩ := hd a ha
   obtain ⟨m2, e2⟩ := hd b hb
   rw [e1, e2]
   exact lx_heads hab
  obtain ⟨h1, h2⟩ := fl_best (qs.map R) (R q0) (by simpa using pw)
  have h1 : flD ((q0 :: qs).map R) ∈ (q0 :: qs).map R := by simpa [flD] using h1
  have h2 : ∀ m ∈ (q0 :: qs).map R, ahead m (flD ((q0 :: qs).map R)) = false := by simpa [flD] using h2
  obtain ⟨q, hqm, e⟩ := List.mem_map.mp h1
  have hb := hR q hqm
  obtain ⟨m, em⟩ := hd q hqm
  obtain ⟨a1, a2, a3⟩ := (hq q).mp hqm
  rw [<- e]
  rw [<- e] at h2
  refine ⟨⟨?_, _, rfl⟩, ?_⟩
  ·rw [em]
   refine ⟨a1, a3, ?_⟩
   rw [<- em]
   exact hb.1.1
  ·rintro k ⟨g1, g2, rfl⟩
   cases g2 with
   | nil =>
    refine ahead_false.mpr (.inr ((ahead_iff _ _).mpr (.inl ?_)))
    rw [em]; simp
   | cons r g2 =>
    rw [ahead_cons]
    have hlt : r < n := by
     rcases g1.2.2 with z | ⟨u, _, z⟩
     ·exact z.lt
     ·exact z.lt
    have hrm := (hq r).mpr ⟨g1.1, hlt, g1.2.1⟩
    exact ahead_ff ((hR r hrm).2 (r :: g2) ⟨g1.2.2, _, rfl⟩) (h2 _ (List.mem_map.mpr ⟨r, hrm, rfl⟩))
noncomputable def Tn (x : Nat -> Int) (n : Nat) (s : Int) (t : Nat) (l : List Nat) : Prop := l = [] \/ ∃ d, Sd x n s l t d
theorem Tn.mono {t u : Nat} {l : List Nat} (h : Tn x n s t l) (hu : t <= u) : Tn x n s u l := h.imp id fun ⟨d, z⟩ => ⟨d, z.mono hu⟩
theorem Tn.all {t : Nat} {l : List Nat} (h : Tn x n s t l) : Tn x n s n l := by
 rcases h with h | ⟨d, h⟩
 ·exact .inl h
 ·refine .inr ⟨d, h.enough.mono ?_⟩
  cases l with
  | nil => simp
  | cons p l => have := h.len; simp; omega
theorem Tn.len {t : Nat} {l : List Nat} (h : Tn x n s t l) : l.length <= n := by
 rcases h with rfl | ⟨d, h⟩
 ·simp
 ·cases l with
  | nil => simp
  | cons p l => have := h.len; simp; omega
theorem best_turns {t : Nat} {l : List Nat} {ls : List (List Nat)} (hm : l ∈ ls) (hmin : ∀ m ∈ ls, ahead m l = false) (hw : ∀ m ∈ ls, Tn x n s t m) (hall : ∀ d p, p < n -> ∃ m ∈ ls, Best (FS x n s t d p) m) (hn : l ≠ []) : Best (Tn x n s t) l := by
 refine ⟨hw l hm, fun m h => ?_⟩
 rcases h with rfl | ⟨d, h⟩
 ·exact ahead_nil l hn
 ·cases m with
  | nil => exact h.elim
  | cons p m =>
   obtain ⟨k, hk, hb⟩ := hall d p h.lt
   exact ahead_ff (hb.2 _ ⟨h, _, rfl⟩) (hmin k hk)
theorem best_turns0 {t : Nat} (hn : n = 0) : Best (Tn x n s t) [] := by
 refine ⟨.inl rfl, fun m h => ?_⟩
 rcases h with rfl | ⟨d, h⟩
 ·rfl
 ·cases m with
  | nil => exact h.elim
  | cons p m => have := h.lt; omega
end
section
open PySem L2
noncomputable def dN (p : Nat) : D := .int (p : Int)
noncomputable def L (l : List Nat) : D := .lst (l.map dN)
noncomputable def Ky (l : List Nat) : D := .tup [.int (-(l.length : Int)), L l]
theorem eqF_nn (k : Nat) (a b : Nat) : eqF (k + 1) (dN a) (dN b) = some (a == b) := by
 show some ((a : Int) == (b : Int)) = _
 congr 1
 rw [Bool.eq_iff_iff, beq_iff_eq, beq_iff_eq]
 omega
theorem zipE_nn (k : Nat) : ∀ (l m : List Nat), l.length = m.length -> zipE (eqF (k + 1)) (l.map dN) (m.map dN) = some (l == m)
 | [], [], _ => rfl
 | [], _ :: _, h => by cases h
 | _ :: _, [], h => by cases h
 | a :: l, b :: m, h => by
  rw [List.map_cons, List.map_cons, zipE, eqF_nn, zipE_nn k l m (by simpa using h)]
  rfl
theorem lexF_nn (k : Nat) : ∀ (l m : List Nat), lexF (eqF (k + 1)) (ltF (k + 1)) (l.map dN) (m.map dN) = some (lx l m)
 | [], [] => rfl
 | [], _ :: _ => rfl
 | _ :: _, [] => rfl
 | a :: l, b :: m => by
  rw [List.map_cons, List.map_cons, lexF, eqF_nn]
  unfold lx
  by_cases h : a = b
  ·subst h
   simp only [beq_self_eq_true, Nat.lt_irrefl, decide_false, Bool.true_and, Bool.false_or]
   exact lexF_nn k l m
  ·have e : (a == b) = false := by simpa using h
   rw [e]
   simp only [Bool.false_and, Bool.or_false]
   show some (decide ((a : Int) < (b : Int))) = _
   congr 1
   apply decide_eq_decide.mpr
   omega
theorem lt_key (l m : List Nat) : ltF 8 (Ky l) (Ky m) = some (ahead l m) := by
 show lexF (eqF 7) (ltF 7) [.int (-(l.length : Int)), L l] [.int (-(m.length : Int)), L m] = _
 rw [lexF, show eqF 7 (.int (-(l.length : Int))) (.int (-(m.length : Int))) = some (-(l.length : Int) == -(m.length : Int)) from rfl]
 unfold ahead
 by_cases h : l.length = m.length
 ·rw [h]
  simp only [beq_self_eq_true, Nat.lt_irrefl, decide_false, Bool.true_and, Bool.false_or]
  have e : eqF 7 (L l) (L m) = some (l == m) := by
   show (if (l.map dN).length = (m.map dN).length then zipE (eqF 6) (l.map dN) (m.map dN) else some false) = _
   rw [if_pos (by simpa using h), zipE_nn 5 l m h]
  rw [lexF, e]
  by_cases hq : l = m
  ·subst hq
   simp only [beq_self_eq_true]
   rw [lx_irr]; rfl
  ·have e2 : (l == m) = false := by simpa using hq
   rw [e2]
   exact lexF_nn 5 l m
 ·have e : (-(l.length : Int) == -(m.length : Int)) = false := by
   rw [beq_eq_false_iff_ne]; omega
  have e2 : (l.length == m.length) = false := by simpa using h
  rw [e, e2]
  simp only [Bool.false_and, Bool.or_false]
  show some (decide (-(l.length : Int) < -(m.length : Int))) = _
  congr 1
  apply decide_eq_decide.mpr
  omega
theorem min_list {mk : D -> Option D} (hk : ∀ l, mk (L l) = some (Ky l)) : ∀ (ls : List (List Nat)) (b : List Nat), ∃ r, minF mk (ls.map L) (L b) (Ky b) = some (L r) /\ r ∈ b :: ls /\ ∀ m ∈ b :: ls, ahead m r = false
 | [], b => ⟨b, rfl, by simp, by simp [ahead_irr]⟩
 | m :: ls, b => by
  rw [List.map_cons]
  unfold minF
  rw [hk m]
  simp only [lt_key m b]
  cases h : ahead m b with
  | true =>
   obtain ⟨r, e, h1, h2⟩ := min_list hk ls m
   refine ⟨r, e, List.mem_cons_of_mem _ h1, fun k hk' => ?_⟩
   rcases List.mem_cons.mp hk' with rfl | hk'
   ·cases z : ahead k r with
    | false => rfl
    | true => have := h2 m (by simp); rw [ahead_trans h z] at this; cases this
   ·exact h2 k hk'
  | false =>
   obtain ⟨r, e, h1, h2⟩ := min_list hk ls b
   refine ⟨r, e, ?_, fun k hk' => ?_⟩
   ·rcases List.mem_cons.mp h1 with h1 | h1
    ·simp [h1]
    ·simp [h1]
   ·have hb := h2 b (by simp)
    rcases List.mem_cons.mp hk' with rfl | hk'
    ·exact hb
    ·rcases List.mem_cons.mp hk' with rfl | hk'
     ·cases z : ahead k r with
      | false => rfl
      | true =>
       rcases ahead_tri k b with w | w | w
       ·rw [w, hb] at z; cases z
       ·rw [h] at w; cases w
       ·rw [ahead_trans w z] at hb; cases hb
     ·exact h2 k (List.mem_cons_of_mem _ hk')
noncomputable abbrev xr (row : List Int) : Nat -> Int := fun i => row.getD i 0
theorem tge_ev {x y : ME} {ρ : Ro} {i j : Int} (h1 : x ρ = some (.int i)) (h2 : y ρ = some (.int j)) : mtest (m2 geD x y) ρ = some (decide (j <= i)) := by
 unfold mtest m2; rw [h1, h2]; rfl
theorem mlen_ev {m : ML} {ρ : Ro} {ds : List D} (h : m ρ = some ds) : mlen m ρ = some (.int ds.length) := by unfold mlen; rw [h]; rfl
theorem at_L (U : List (List Nat)) (p : Nat) (h : p < U.length) : atI (U.map L) (p : Int) = some (L (U.getD p [])) := by
 have := atI_map L U (p : Int) (by omega) (by omega) []
 rw [Int.toNat_natCast] at this
 exact this
theorem ixN_nat (n p : Nat) (h : p < n) : ixN n (p : Int) = some p := by
 unfold ixN
 rw [if_pos (by omega), if_pos (by omega), Int.toNat_natCast]
theorem getD_set_ne (U : List (List Nat)) (p q : Nat) (l : List Nat) (h : p ≠ q) : (U.set p l).getD q [] = U.getD q [] := by
 rw [List.getD_eq_getElem?_getD, List.getD_eq_getElem?_getD, List.getElem?_set_ne h]
theorem getD_set_eq (U : List (List Nat)) (p : Nat) (l : List Nat) (h : p < U.length) : (U.set p l).getD p [] = l := by
 rw [List.getD_eq_getElem?_getD, List.getElem?_set_self h]; rfl
theorem key_eq (l : List Nat) : m_Z9 [L l] = some (.sh (Ky l)) := by
 unfold m_Z9 b_Z9
 have i2 : 0 + 1 + 1 <= sizeLine := le_size (by decide)
 refine runB_rt ?_
 unfold L
 simp_arith [i2, if_true, List.length_map]
 rfl
theorem mem_getD {U : List (List Nat)} {m : List Nat} (h : m ∈ U) : ∃ q, q < U.length /\ m = U.getD q [] := by
 obtain ⟨q, hq, e⟩ := List.getElem_of_mem h
 exact ⟨q, hq, by rw [List.getD_eq_getElem?_getD, List.getElem?_eq_getElem hq, <- e]; rfl⟩
theorem getD_mem {U : List (List Nat)} {q : Nat} (h : q < U.length) : U.getD q [] ∈ U := by
 rw [List.getD_eq_getElem?_getD, List.getElem?_eq_getElem h]; exact List.getElem_mem h
theorem refuse_step_eq (step : Int) (h : 1 <= step) : m_Z13 [.int step] = some (.sh .non) := by
 have : ¬ step < 1 := by omega
 unfold m_Z13 b_Z13
 simp_arith [this, decide_false]
theorem m2_at2 {f : D -> D -> Option D} {x y : ME} {ρ : Ro} {a b : D} (h1 : x ρ = some a) (h2 : y ρ = some b) : m2 f x y ρ = f a b := by
 unfold m2; rw [h1, h2]; rfl
theorem map_succ {α : Type} (f : Nat -> α) (j : Nat) : (List.range (j + 1)).map f = (List.range j).map f ++ [f j] := by
 rw [List.range_succ, List.map_append]; rfl
noncomputable def abv (row : List Int) (s : Int) (d : Bool) (p : Nat) : List Nat := ((List.range (row.length - (p + 1))).map fun j => p + 1 + j).filter fun q => decide (far s d (xr row p) (xr row q))
theorem abv_mem {row : List Int} {s : Int} {d : Bool} {p q : Nat} : q ∈ abv row s d p ↔ p < q /\ q < row.length /\ far s d (xr row p) (xr row q) := by
 unfold abv
 rw [List.mem_filter, List.mem_map, decide_eq_true_eq]
 constructor
 ·rintro ⟨⟨j, hj, rfl⟩, h⟩
  have := List.mem_range.mp hj
  exact ⟨by omega, by omega, h⟩
 ·rintro ⟨h1, h2, h3⟩
  exact ⟨⟨q - (p + 1), List.mem_range.mpr (by omega), by omega⟩, h3⟩
theorem abv_len (row : List Int) (s : Int) (d : Bool) (p : Nat) : (abv row s d p).length <= row.length := by
 unfold abv
 refine Nat.le_trans (List.length_filter_le _ _) ?_
 rw [List.length_map, List.length_range]; omega
noncomputable def envS2 (row : List Int) (s : Int) (A B : List (List Nat)) (o4 o5 : Option S) : Ro := [some (.sh (.lst (row.map .int))), some (.sh (.int s)), some (.own (A.map L)), some (.own (B.map L)), o4, o5]
theorem rng_from (row : List Int) (p : Nat) (hr : row.length <= 300) (hp : p < row.length) : rangeD ((p : Int) + 1) ((row.length : Int) - ((p : Int) + 1)).toNat = ((List.range (row.length - (p + 1))).map fun j => p + 1 + j).map dN := by
 rw [rangeD_map, show ((row.length : Int) - ((p : Int) + 1)).toNat = row.length - (p + 1) by omega, List.map_map]
 apply List.map_congr_left
 intro i _
 show D.int _ = D.int _
 congr 1
theorem abv_comp (row : List Int) (s : Int) (d : Bool) (p : Nat) (hr : row.length <= 300) (hp : p < row.length) (A B : List (List Nat)) (test : MB)
  (ht : ∀ q : Nat, q < row.length -> test [some (.sh (dN q)), some (.sh (.int s)), some (.sh (.int (xr row p))), some (.sh (.lst (row.map .int)))] = some (decide (far s d (xr row p) (xr row q)))) :
  mcomp [none, some 1, some 5, some 0] (mlist rng2 (acons (m2 addD (mvar 4) (mc (.int 1))) (acons (mlen (bvar 0)) anil))) (.nm 0) test (mvar 0) (envS2 row s A B (some (.sh (.int (p : Int)))) (some (.sh (.int (xr row p))))) = some ((abv row s d p).map dN) := by
 have k1 : okR ((p : Int) + 1) = true := okR_of (by omega) (by omega)
 have k2 : okR (row.length : Int) = true := okR_of (by omega) (by omega)
 have e1 : mlist rng2 (acons (m2 addD (mvar 4) (mc (.int 1))) (acons (mlen (bvar 0)) anil)) (envS2 row s A B (some (.sh (.int (p : Int)))) (some (.sh (.int (xr row p))))) = some (((List.range (row.length - (p + 1))).map fun j => p + 1 + j).map dN) := by
  unfold envS2
  simp_arith [List.length_map, rng2_ok k1 k2, rng_from row p hr hp]
 unfold mcomp
 rw [e1, Option.bind_some]
 show compD _ _ _ _ [none, some (.sh (.int s)), some (.sh (.int (xr row p))), some (.sh (.lst (row.map .int)))] [] = _
 rw [compD_filter (f := dN) (p := fun q => decide (far s d (xr row p) (xr row q))) (G := dN) (fun qs ρ => (∀ q ∈ qs, q < row.length) /\ ∃ o, ρ = [o, some (.sh (.int s)), some (.sh (.int (xr row p))), some (.sh (.lst (row.map .int)))])
  (by
   rintro q qs ρ ⟨hq, o, rfl⟩
   exact ⟨_, rfl, ht q (hq q (by simp)), fun _ => rfl, fun r hr => hq r (by simp [hr]), _, rfl⟩) _ _ [] ⟨fun q hq => by
    obtain ⟨j, hj, rfl⟩ := List.mem_map.mp hq
    have := List.mem_range.mp hj
    omega, _, rfl⟩ (le_size (by simp; omega)), List.nil_append]
 rfl
theorem later_steps_eq (row : List Int) (s : Int) (hr : row.length <= 300) : m_Z11 [.lst (row.map .int), .int s] = some (.sh (.tup [.lst (((List.range row.length).map (abv row s true)).map L), .lst (((List.range row.length).map (abv row s false)).map L)])) := by
 unfold m_Z11 b_Z11
 refine runB_run ?_
 have big := size_big
 have i0 : 0 <= sizeLine := Nat.zero_le _
 have i2 : 2 <= sizeLine := le_size (by decide)
 refine run_seq (ρ' := [some (.sh (.lst (row.map .int))), some (.sh (.int s)), some (.own []), none, none, none]) (by unfold msetF; rw [sized_ev anil_ev i0]; rfl) ?_
 refine run_seq (ρ' := envS2 row s [] [] none none) (by unfold msetF; rw [sized_ev anil_ev i0]; rfl) ?_
 have ee : mlist enum1 (acons (mvar 0) anil) (envS2 row s [] [] none none) = some ((List.range row.length).map fun (i : Nat) => D.tup [.int (i : Int), .int (xr row i)]) := by
  unfold mlist
  rw [acons_ev (x := mvar 0) (d := .lst (row.map .int)) rfl anil_ev, Option.bind_some]
  show some (enumL 0 (row.map .int)) = _
  rw [enumL_map]
  congr 1
  apply List.map_congr_left
  intro i _
  rw [Nat.zero_add]
 refine run_mseq (run_forN row.length (f := fun (i : Nat) => D.tup [.int (i : Int), .int (xr row i)]) ee
  (I := fun j ρ => ∃ o4 o5, ρ = envS2 row s ((List.range j).map (abv row s true)) ((List.range j).map (abv row s false)) o4 o5) _ ⟨_, _, rfl⟩ ?_ ?_)
 ·rintro j ρ hj ⟨o4, o5, rfl⟩
  refine ⟨envS2 row s ((List.range j).map (abv row s true)) ((List.range j).map (abv row s false)) (some (.sh (.int (j : Int)))) (some (.sh (.int (xr row j)))), rfl, ?_⟩
  unfold b_Z11_f0
  have aj : ∀ q : Nat, q < row.length -> mix (bvar 3) (mvar 0) [some (.sh (dN q)), some (.sh (.int s)), some (.sh (.int (xr row j))), some (.sh (.lst (row.map .int)))] = some (.int (xr row q)) := fun q hq => mix_ev rfl rfl (at_nat row q hq)
  have c1 := abv_comp row s true j hr hj ((List.range j).map (abv row s true)) ((List.range j).map (abv row s false)) (mtest (m2 geD (m2 subD (mix (bvar 3) (mvar 0)) (mvar 2)) (mvar 1))) (fun q hq => by
   rw [tge_ev ((m2_at2 (aj q hq) rfl).trans (show subD (.int (xr row q)) (.int (xr row j)) = some (.int (xr row q - xr row j)) from rfl)) rfl]
   unfold far; simp)
  have c2 := abv_comp row s false j hr hj ((List.range (j + 1)).map (abv row s true)) ((List.range j).map (abv row s false)) (mtest (m2 geD (m2 subD (mvar 2) (mix (bvar 3) (mvar 0))) (mvar 1))) (fun q hq => by
   rw [tge_ev ((m2_at2 (show mvar 2 _ = some (.int (xr row j)) from rfl) (aj q hq)).trans (show subD (.int (xr row j)) (.int (xr row q)) = some (.int (xr row j - xr row q)) from rfl)) rfl]
   unfold far; simp)
  have app : ∀ (ρ : Ro) (i : Nat) (M : List (List Nat)) (m : ML) (l : List Nat), ρ[i]? = some (some (.own (M.map L))) -> m ρ = some (l.map dN) -> M.length < sizeLine -> mapp i (mlst m) ρ = some (.nx (ρ.set i (some (.own ((M ++ [l]).map L))))) := by
   intro ρ i M m l h1 h2 h3
   unfold mapp
   rw [h1, mlst_ev h2]
   show (some (D.lst (l.map dN))).bind (fun d => if (M.map L).length < sizeLine then some (Out.nx (ρ.set i (some (.own (M.map L ++ [d]))))) else none) = _
   rw [Option.bind_some, if_pos (by rw [List.length_map]; exact h3), List.map_append]
   rfl
  refine run_seq (ρ' := envS2 row s ((List.range (j + 1)).map (abv row s true)) ((List.range j).map (abv row s false)) (some (.sh (.int (j : Int)))) (some (.sh (.int (xr row j))))) ?_ ?_
  ·rw [app _ 2 _ _ _ rfl c1 (by simp; omega), <- map_succ]
   rfl
  ·refine ⟨_, app _ 3 _ _ _ rfl c2 (by simp; omega), ?_⟩
   rw [<- map_succ]
   exact ⟨_, _, rfl⟩
 ·rintro ρ ⟨o4, o5, rfl⟩
  unfold b_Z11_r1
  refine run_freeze (ds := ((List.range row.length).map (abv row s false)).map L) rfl (run_freeze (ds := ((List.range row.length).map (abv row s true)).map L) rfl ⟨_, mret_ev (mtup_ev (acons_ev (d := .lst (((List.range row.length).map (abv row s true)).map L)) rfl (acons_ev (d := .lst (((List.range row.length).map (abv row s false)).map L)) rfl anil_ev)) i2), rfl⟩)
end
section
open PySem L2
theorem rngD_ok {j : Int} (h : okR j = true) : rngD [.int j] = some (downD j.toNat) := by
 unfold rngD
 simp only [h, if_true]
theorem maxF_fl : ∀ (ls : List (List Nat)) (b : List Nat), maxF (ls.map L) (L b) (.int (b.length : Int)) = some (L (fl ls b))
 | [], b => rfl
 | m :: ls, b => by
  rw [List.map_cons]
  unfold maxF
  have e : lenKey (L m) = some (.int (m.length : Int)) := by
   show some (D.int ((m.map dN).length : Int)) = _
   rw [List.length_map]
  rw [e]
  show (match some (decide ((m.length : Int) > (b.length : Int))) with | some true => _ | some false => _ | none => _) = _
  unfold fl
  by_cases h : b.length < m.length
  ·rw [if_pos h, decide_eq_true (by omega)]
   exact maxF_fl ls m
  ·rw [if_neg h, decide_eq_false (by omega)]
   exact maxF_fl ls b
theorem maxD_fl (ls : List (List Nat)) : maxD (ls.map L) (.lst []) = some (L (flD ls)) := by
 cases ls with
 | nil => rfl
 | cons m ls =>
  show (match lenKey (L m) with | some kd => maxF (ls.map L) (L m) kd | none => none) = _
  have e : lenKey (L m) = some (.int (m.length : Int)) := by
   show some (D.int ((m.map dN).length : Int)) = _
   rw [List.length_map]
  rw [e]
  exact maxF_fl ls m
theorem longest_behind_eq (R : List (List Nat)) (qs : List Nat) (hl : qs.length <= 1000) (hq : ∀ q ∈ qs, q < R.length) : m_Z2 [.lst (R.map L), .lst (qs.map dN)] = some (.sh (L (flD (qs.map fun q => R.getD q [])))) := by
 unfold m_Z2 b_Z2
 refine runB_rt ?_
 have e1 : mcomp [none, some 0] (aslst (mvar 1)) (.nm 0) cyes (mix (bvar 1) (mvar 0)) (startS 2 [.lst (R.map L), .lst (qs.map dN)]) = some ((qs.map fun q => R.getD q []).map L) := by
  unfold mcomp
  rw [aslst_ev (m := mvar 1) (ds := qs.map dN) rfl, Option.bind_some]
  refine (compD_map (f := dN) (G := fun q => L (R.getD q [])) (fun ks ρ => (∀ q ∈ ks, q < R.length) /\ ∃ o, ρ = [o, some (.sh (.lst (R.map L)))]) (by
   rintro q ks ρ ⟨h, o, rfl⟩
   exact ⟨[some (.sh (dN q)), some (.sh (.lst (R.map L)))], rfl, rfl, mix_ev (m := bvar 1) rfl rfl (at_L R q (h q (by simp))), fun r hr => h r (by simp [hr]), _, rfl⟩) qs _ [] ⟨hq, none, rfl⟩ (le_size (by simp; omega))).trans ?_
  rw [List.nil_append, List.map_map]
  rfl
 unfold mret
 rw [mmaxLen_ev e1 (mlst_ev (sized_ev anil_ev (Nat.zero_le _))), maxD_fl]
 rfl
theorem borL_ev {i : Nat} {m : ME} {ρ : Ro} {ds : List D} {d : D} (h : ρ[i]? = some (some (.own ds))) (h2 : m (ρ.set i (some (.sh (.lst ds)))) = some d) (h3 : tellL ds d = true) : mborL i m ρ = some d := by
 unfold mborL
 rw [h]
 simp only [h2, h3, if_true]
theorem nums_dN (l : List Nat) : numsD (l.map dN) = true := by
 induction l with
 | nil => rfl
 | cons a l ih => exact ih
theorem tell_L (R : List (List Nat)) (l : List Nat) (h : R ≠ []) : tellL (R.map L) (L l) = true := by
 cases R with
 | nil => exact absurd rfl h
 | cons a R =>
  show (numsD (l.map dN) && true) = true
  rw [nums_dN]; rfl
theorem setL_ev {i : Nat} {ix v : ME} {ρ : Ro} {A : List (List Nat)} {l : List Nat} {p : Nat} (h : ρ[i]? = some (some (.own (A.map L)))) (hi : ix ρ = some (.int (p : Int))) (hv : v ρ = some (L l)) (hp : p < A.length) : msetix i ix v ρ = some (.nx (ρ.set i (some (.own ((A.set p l).map L))))) := by
 unfold msetix
 rw [hv, h, hi]
 show ((ixN (A.map L).length (p : Int)).map fun j => Out.nx (ρ.set i (some (.own ((A.map L).set j (L l)))))) = _
 rw [List.length_map, ixN_nat _ _ hp]
 show some (Out.nx _) = _
 rw [List.map_set]
theorem ek (l : List Nat) : shOf (m_Z9 [L l]) = some (Ky l) := by rw [key_eq]; rfl
theorem min2_L {x y : ME} {ρ : Ro} {a b : List Nat} (h1 : x ρ = some (L a)) (h2 : y ρ = some (L b)) : mmin2K (fun d => shOf (m_Z9 [d])) (acons x (acons y anil)) ρ = some (L (if ahead b a = true then b else a)) := by
 rw [mmin2K_ev (acons_ev h1 (acons_ev h2 anil_ev))]
 show (match shOf (m_Z9 [L a]) with | some kd => minF _ [L b] (L a) kd | none => none) = _
 rw [ek a]
 show minF (fun d => shOf (m_Z9 [d])) [L b] (L a) (Ky a) = _
 unfold minF
 simp only [ek b, lt_key b a]
 cases ahead b a <;> simp [minF]
noncomputable abbrev RI (r : List Int) : D := .lst (r.map .int)
noncomputable def Ab (row : List Int) (s : Int) (d : Bool) : List (List Nat) := (List.range row.length).map (abv row s d)
noncomputable abbrev SP (row : List Int) (s : Int) : D := .tup [.lst ((Ab row s true).map L), .lst ((Ab row s false).map L)]
theorem Ab_len (row : List Int) (s : Int) (d : Bool) : (Ab row s d).length = row.length := by unfold Ab; simp
theorem Ab_get (row : List Int) (s : Int) (d : Bool) (p : Nat) (h : p < row.length) : (Ab row s d).getD p [] = abv row s d p := by
 unfold Ab
 rw [List.getD_eq_getElem?_getD, List.getElem?_map, List.getElem?_range h]; rfl
theorem abv_rise (row : List Int) (s : Int) (d : Bool) (p : Nat) : (abv row s d p).Pairwise (· < ·) := by
 unfold abv
 refine List.Pairwise.filter _ ?_
 rw [List.pairwise_map]
 exact (List.pairwise_lt_range).imp fun h => by omega
noncomputable abbrev BS (row : List Int) (s : Int) (t : Nat) (d : Bool) (p : Nat) : List Nat -> Prop := Best (FS (xr row) row.length s t d p)
noncomputable abbrev BR (row : List Int) (s : Int) (t : Nat) (d : Bool) (p : Nat) : List Nat -> Prop := Best (FR (xr row) row.length s t d p)
theorem BS.len {row : List Int} {s : Int} {t : Nat} {d : Bool} {p : Nat} {l : List Nat} (h : BS row s t d p l) : l.length <= row.length := by
 obtain ⟨a, m, rfl⟩ := h.1
 have := a.len
 simp; omega
theorem BR.len {row : List Int} {s : Int} {t : Nat} {d : Bool} {p : Nat} {l : List Nat} (h : BR row s t d p l) : l.length <= row.length := by
 obtain ⟨a, m, rfl⟩ := h.1
 rcases a with a | ⟨u, _, a⟩
 ·have := a.len; simp; omega
 ·have := a.len; simp; omega
noncomputable def Few (row : List Int) (s : Int) (t : Nat) (U V : List (List Nat)) : Prop := U.length = row.length /\ V.length = row.length /\ ∀ q, q < row.length -> (t = 0 /\ U.getD q [] = [] /\ V.getD q [] = []) \/ ∃ u, t = u + 1 /\ BS row s u true q (U.getD q []) /\ BS row s u false q (V.getD q [])
theorem join_best {row : List Int} {s : Int} {t : Nat} {d : Bool} {q : Nat} {a b : List Nat} (ha : BS row s t d q a) (hb : (t = 0 /\ b = []) \/ ∃ u, t = u + 1 /\ BS row s u (!d) q b) : BR row s t d q (if ahead b a = true then b else a) := by
 rcases hb with ⟨ht, rfl⟩ | ⟨u, ht, hb⟩
 ·have hne : a ≠ [] := by
   obtain ⟨_, m, e⟩ := ha.1
   rw [e]; simp
  rw [ahead_nil a hne]
  simp only [Bool.false_eq_true, if_false]
  refine ha.iff fun m => ⟨fun h => ⟨.inl h.1, h.2⟩, fun h => ⟨?_, h.2⟩⟩
  rcases h.1 with z | ⟨u, e, _⟩
  ·exact z
  ·omega
 ·refine best_two ha hb rfl fun l => ?_
  constructor
  ·rintro ⟨z | ⟨v, e, z⟩, hd⟩
   ·exact .inl ⟨z, hd⟩
   ·have : v = u := by omega
    subst this
    exact .inr ⟨z, hd⟩
  ·rintro (⟨z, hd⟩ | ⟨z, hd⟩)
   ·exact ⟨.inl z, hd⟩
   ·exact ⟨.inr ⟨u, ht, z⟩, hd⟩
noncomputable def envT (row : List Int) (s : Int) (fU fV U V R G : List (List Nat)) (o : Option S) : Ro :=
 [some (.sh (SP row s)), some (.sh (.tup [.lst (fU.map L), .lst (fV.map L)])), some (.sh (.lst ((Ab row s true).map L))), some (.sh (.lst ((Ab row s false).map L))), some (.sh (.lst (fU.map L))), some (.sh (.lst (fV.map L))), some (.own (U.map L)), some (.own (V.map L)), some (.own (R.map L)), some (.own (G.map L)), o]
structure Tnd (row : List Int) (s : Int) (t p : Nat) (U V R G : List (List Nat)) : Prop where
 lU : U.length = row.length
 lV : V.length = row.length
 lR : R.length = row.length
 lG : G.length = row.length
 at' : ∀ q, p <= q -> q < row.length -> BS row s t true q (U.getD q []) /\ BS row s t false q (V.getD q []) /\ BR row s t true q (R.getD q []) /\ BR row s t false q (G.getD q [])
theorem turn_body {row : List Int} {s : Int} {t p : Nat} {fU fV U V R G : List (List Nat)} {o : Option S} (hr : row.length <= 300) (hp : p < row.length) (hf : Few row s t fU fV) (h : Tnd row s t (p + 1) U V R G) :
  ∃ U' V' R' G', b_Z4_f0 (envT row s fU fV U V R G (some (.sh (.int (p : Int))))) = some (.nx (envT row s fU fV U' V' R' G' (some (.sh (.int (p : Int)))))) /\ Tnd row s t p U' V' R' G' := by
 have i1 : 0 + 1 <= sizeLine := le_size (by decide)
 have stp : ∀ (d : Bool) (T : List (List Nat)), T.length = row.length -> (∀ q, p + 1 <= q -> q < row.length -> BR row s t d q (T.getD q [])) -> BS row s t d p (p :: flD ((abv row s d p).map fun q => T.getD q [])) := fun d T hT hb =>
  best_step hp (fun q => abv_mem) (abv_rise row s d p) fun q hq => by
   obtain ⟨a, b, _⟩ := abv_mem.mp hq
   exact hb q a b
 have ab : ∀ (d : Bool), ∀ q ∈ abv row s d p, q < row.length := fun d q hq => (abv_mem.mp hq).2.1
 have bU := stp true R h.lR fun q a b => (h.at' q a b).2.2.1
 have bV := stp false G h.lG fun q a b => (h.at' q a b).2.2.2
 generalize eU : flD ((abv row s true p).map fun q => R.getD q []) = u at bU
 generalize eV : flD ((abv row s false p).map fun q => G.getD q []) = v at bV
 have lu : u.length + 1 <= row.length := by have := bU.len; simpa using this
 have lv : v.length + 1 <= row.length := by have := bV.len; simpa using this
 obtain ⟨f1, f2, f3⟩ := hf
 have jU := join_best (b := fV.getD p []) bU (by
  rcases f3 p hp with ⟨a, _, b⟩ | ⟨w, a, _, b⟩
  ·exact .inl ⟨a, b⟩
  ·exact .inr ⟨w, a, b⟩)
 have jV := join_best (b := fU.getD p []) bV (by
  rcases f3 p hp with ⟨a, b, _⟩ | ⟨w, a, b, _⟩
  ·exact .inl ⟨a, b⟩
  ·exact .inr ⟨w, a, b⟩)
 have rne : R ≠ [] := fun z => by have := h.lR; rw [z] at this; simp at this; omega
 have gne : G ≠ [] := fun z => by have := h.lG; rw [z] at this; simp at this; omega
 refine ⟨U.set p (p :: u), V.set p (p :: v), R.set p (if ahead (fV.getD p []) (p :: u) = true then fV.getD p [] else p :: u), G.set p (if ahead (fU.getD p []) (p :: v) = true then fU.getD p [] else p :: v), ?_, ?_⟩
 ·unfold b_Z4_f0
  have told : ∀ (ρ : Ro) (i k : Nat) (d : Bool) (T : List (List Nat)), ρ[i]? = some (some (.own (T.map L))) -> i ≠ 10 -> i ≠ k -> k ≠ 10 -> i < 11 -> ρ.length = 11 -> ρ[k]? = some (some (.sh (.lst ((Ab row s d).map L)))) -> ρ[10]? = some (some (.sh (.int (p : Int)))) -> T.length = row.length -> T ≠ [] ->
    aslst (mborL i (mcall m_Z2 (acons (mvar i) (acons (mix (bvar k) (mvar 10)) anil)))) ρ = some ((flD ((abv row s d p).map fun q => T.getD q [])).map dN) := by
   intro ρ i k d T hi h10 hik hk10 hi11 hl hk hp10 lT hT
   refine aslst_ev (borL_ev hi ?_ (tell_L T _ hT))
   have g1 : mvar i (ρ.set i (some (.sh (.lst (T.map L))))) = some (.lst (T.map L)) := by
    unfold mvar
    rw [List.getElem?_set_self (by omega)]
   have g2 : mix (bvar k) (mvar 10) (ρ.set i (some (.sh (.lst (T.map L))))) = some (L (abv row s d p)) := by
    refine mix_ev (ds := (Ab row s d).map L) (k := (p : Int)) ?_ ?_ ?_
    ·unfold bvar; rw [List.getElem?_set_ne hik, hk]
    ·unfold mvar; rw [List.getElem?_set_ne h10, hp10]
    ·rw [at_L _ p (by rw [Ab_len]; exact hp), Ab_get row s d p hp]
   exact mcall_sh (acons_ev g1 (acons_ev g2 anil_ev)) (longest_behind_eq T (abv row s d p) (by have := abv_len row s d p; omega) fun q hq => by have := ab d q hq; omega)
  have put : ∀ (ρ : Ro) (m : ML) (w : List Nat), ρ[10]? = some (some (.sh (.int (p : Int)))) -> m ρ = some (w.map dN) -> w.length + 1 <= row.length -> mlst (mcat (sized (acons (mvar 10) anil)) m) ρ = some (L (p :: w)) := by
   intro ρ m w h10 hm hw
   have g : mvar 10 ρ = some (.int (p : Int)) := by unfold mvar; rw [h10]
   rw [mlst_ev (mcat_ev (sized_ev (acons_ev g anil_ev) i1) hm (by rw [List.length_map, List.length_singleton]; exact le_size (by omega)))]
   rfl
  refine seqI (ρ' := envT row s fU fV (U.set p (p :: u)) V R G (some (.sh (.int (p : Int))))) ?_ (seqI (ρ' := envT row s fU fV (U.set p (p :: u)) (V.set p (p :: v)) R G (some (.sh (.int (p : Int))))) ?_ (seqI (ρ' := envT row s fU fV (U.set p (p :: u)) (V.set p (p :: v)) (R.set p (if ahead (fV.getD p []) (p :: u) = true then fV.getD p [] else p :: u)) G (some (.sh (.int (p : Int))))) ?_ ?_))
  ·exact setL_ev (A := U) rfl rfl (put _ _ u rfl (by rw [told _ 8 2 true R rfl (by decide) (by decide) (by decide) (by decide) rfl rfl rfl h.lR rne, eU]) lu) (by rw [h.lU]; exact hp)
  ·exact setL_ev (A := V) rfl rfl (put _ _ v rfl (by rw [told _ 9 3 false G rfl (by decide) (by decide) (by decide) (by decide) rfl rfl rfl h.lG gne, eV]) lv) (by rw [h.lV]; exact hp)
  ·refine setL_ev (A := R) rfl rfl (min2_L (a := p :: u) (b := fV.getD p []) ?_ ?_) (by rw [h.lR]; exact hp)
   ·exact mix_ev (m := bvar 6) rfl rfl ((at_L (U.set p (p :: u)) p (by rw [List.length_set, h.lU]; exact hp)).trans (by rw [getD_set_eq _ _ _ (by rw [h.lU]; exact hp)]))
   ·exact mix_ev (m := bvar 5) rfl rfl (at_L fV p (by rw [f2]; exact hp))
  ·refine setL_ev (A := G) rfl rfl (min2_L (a := p :: v) (b := fU.getD p []) ?_ ?_) (by rw [h.lG]; exact hp)
   ·exact mix_ev (m := bvar 7) rfl rfl ((at_L (V.set p (p :: v)) p (by rw [List.length_set, h.lV]; exact hp)).trans (by rw [getD_set_eq _ _ _ (by rw [h.lV]; exact hp)]))
   ·exact mix_ev (m := bvar 4) rfl rfl (at_L fU p (by rw [f1]; exact hp))
 ·refine ⟨by rw [List.length_set]; exact h.lU, by rw [List.length_set]; exact h.lV, by rw [List.length_set]; exact h.lR, by rw [List.length_set]; exact h.lG, fun q h1 h2 => ?_⟩
  by_cases hq : p = q
  ·subst hq
   rw [getD_set_eq _ _ _ (by rw [h.lU]; exact hp), getD_set_eq _ _ _ (by rw [h.lV]; exact hp), getD_set_eq _ _ _ (by rw [h.lR]; exact hp), getD_set_eq _ _ _ (by rw [h.lG]; exact hp)]
   exact ⟨bU, bV, jU, jV⟩
  ·rw [getD_set_ne _ _ _ _ hq, getD_set_ne _ _ _ _ hq, getD_set_ne _ _ _ _ hq, getD_set_ne _ _ _ _ hq]
   exact h.at' q (by omega) h2
theorem nils_ev (n : Nat) (hn : n <= 300) (ρ : Ro) (m : ML) (ds : List D) (hm : m ρ = some ds) (hd : ds.length = n) : mrep (sized (acons (mlst (sized anil)) anil)) (mlen m) ρ = some ((List.replicate n ([] : List Nat)).map L) := by
 have i1 : 0 + 1 <= sizeLine := le_size (by decide)
 have big := size_big
 rw [mrep_ev (ds := [.lst []]) (k := (n : Int)) (sized_ev (acons_ev (mlst_ev (sized_ev anil_ev (Nat.zero_le _))) anil_ev) i1) (by rw [mlen_ev hm, hd]) (by unfold repOk; simp only [Bool.and_eq_true, decide_eq_true_eq, List.length_singleton]; omega), Int.toNat_natCast]
 congr 1
 rw [List.map_replicate, List.flatten_replicate_singleton]
 rfl
theorem rep_get (n q : Nat) : (List.replicate n ([] : List Nat)).getD q [] = [] := by
 rw [List.getD_eq_getElem?_getD, List.getElem?_replicate]
 split <;> rfl
theorem one_turn_more_eq {row : List Int} {s : Int} {t : Nat} {fU fV : List (List Nat)} (hr : row.length <= 300) (hf : Few row s t fU fV) :
  ∃ U V, m_Z4 [SP row s, .tup [.lst (fU.map L), .lst (fV.map L)]] = some (.sh (.tup [.lst (U.map L), .lst (V.map L)])) /\ Few row s (t + 1) U V := by
 suffices h : Run b_Z4 (startS 11 [SP row s, .tup [.lst (fU.map L), .lst (fV.map L)]]) (fun o => ∃ U V : List (List Nat), o = .rt (.tup [.lst (U.map L), .lst (V.map L)]) /\ Few row s (t + 1) U V) by
  obtain ⟨o, e, U, V, rfl, r⟩ := h
  exact ⟨U, V, runB_rt e, r⟩
 unfold b_Z4
 have k2 : okR (row.length : Int) = true := okR_of (by omega) (by omega)
 have i2 : 2 <= sizeLine := le_size (by decide)
 refine run_seq (ρ' := [some (.sh (SP row s)), some (.sh (.tup [.lst (fU.map L), .lst (fV.map L)])), some (.sh (.lst ((Ab row s true).map L))), some (.sh (.lst ((Ab row s false).map L))), none, none, none, none, none, none, none]) rfl ?_
 refine run_seq (ρ' := [some (.sh (SP row s)), some (.sh (.tup [.lst (fU.map L), .lst (fV.map L)])), some (.sh (.lst ((Ab row s true).map L))), some (.sh (.lst ((Ab row s false).map L))), some (.sh (.lst (fU.map L))), some (.sh (.lst (fV.map L))), none, none, none, none, none]) rfl ?_
 have sF : ∀ (i : Nat) (ρ : Ro), bvar 2 ρ = some ((Ab row s true).map L) -> msetF i (mrep (sized (acons (mlst (sized anil)) anil)) (mlen (bvar 2))) ρ = some (.nx (ρ.set i (some (.own ((List.replicate row.length ([] : List Nat)).map L))))) := fun i ρ hb => by
  unfold msetF
  rw [nils_ev row.length hr ρ (bvar 2) _ hb (by rw [List.length_map, Ab_len])]
  rfl
 refine run_seq (sF 6 _ rfl) (run_seq (sF 7 _ rfl) (run_seq (sF 8 _ rfl) (run_seq (ρ' := envT row s fU fV (List.replicate row.length []) (List.replicate row.length []) (List.replicate row.length []) (List.replicate row.length []) none) (sF 9 _ rfl) ?_)))
 have ed : downD row.length = (List.range row.length).map fun (j : Nat) => D.int ((row.length : Int) - 1 - (j : Int)) := rfl
 refine run_mseq (run_forN row.length (f := fun (j : Nat) => D.int ((row.length : Int) - 1 - (j : Int))) ?_
  (I := fun j ρ => ∃ U V R G o, Tnd row s t (row.length - j) U V R G /\ ρ = envT row s fU fV U V R G o) _
  ⟨_, _, _, _, _, ⟨by simp, by simp, by simp, by simp, fun q h1 h2 => by omega⟩, rfl⟩ ?_ ?_)
 ·unfold mlist
  rw [acons_ev (x := mlen (bvar 2)) (d := .int (((Ab row s true).map L).length : Int)) (mlen_ev rfl) anil_ev, Option.bind_some, List.length_map, Ab_len, rngD_ok k2, Int.toNat_natCast, ed]
 ·rintro j ρ hj ⟨U, V, R, G, o, h, rfl⟩
  have e : (row.length : Int) - 1 - (j : Int) = ((row.length - 1 - j : Nat) : Int) := by omega
  rw [e]
  refine ⟨envT row s fU fV U V R G (some (.sh (.int ((row.length - 1 - j : Nat) : Int)))), rfl, ?_⟩
  have e2 : row.length - 1 - j + 1 = row.length - j := by omega
  obtain ⟨U', V', R', G', eb, hT⟩ := turn_body (o := o) hr (show row.length - 1 - j < row.length by omega) hf (by rw [e2]; exact h)
  exact ⟨_, eb, U', V', R', G', _, by rw [show row.length - (j + 1) = row.length - 1 - j by omega]; exact hT, rfl⟩
 ·rintro ρ ⟨U, V, R, G, o, h, rfl⟩
  rw [Nat.sub_self] at h
  unfold b_Z4_r1
  refine run_freeze (ds := U.map L) rfl (run_freeze (ds := V.map L) rfl ⟨_, mret_ev (mtup_ev (acons_ev (d := .lst (U.map L)) rfl (acons_ev (d := .lst (V.map L)) rfl anil_ev)) i2), U, V, rfl, h.lU, h.lV, fun q hq => ?_⟩)
  obtain ⟨a, b, _⟩ := h.at' q (Nat.zero_le _) hq
  exact .inr ⟨t, rfl, a, b⟩
end
section
open PySem L2
theorem gt_dn (a b : Nat) : gtI (dN b) (dN a) = some (decide (a < b)) := by
 show some (decide ((a : Int) < (b : Int))) = _
 congr 1
 apply decide_eq_decide.mpr
 omega
theorem maxP_dn : ∀ (ns : List Nat) (a : Nat), ∃ v, maxP (ns.map dN) (dN a) = some (dN v) /\ (∀ y ∈ a :: ns, y <= v) /\ v ∈ a :: ns
 | [], a => ⟨a, rfl, by simp, by simp⟩
 | b :: ns, a => by
  rw [List.map_cons, maxP, gt_dn]
  by_cases h : a < b
  ·rw [decide_eq_true h]
   obtain ⟨v, e, g1, g2⟩ := maxP_dn ns b
   refine ⟨v, e, fun y hy => ?_, List.mem_cons_of_mem _ g2⟩
   rcases List.mem_cons.mp hy with z | z
   ·have := g1 b (by simp); omega
   ·exact g1 y z
  ·rw [decide_eq_false h]
   obtain ⟨v, e, g1, g2⟩ := maxP_dn ns a
   refine ⟨v, e, fun y hy => ?_, ?_⟩
   ·rcases List.mem_cons.mp hy with z | z
    ·exact g1 y (by simp [z])
    ·rcases List.mem_cons.mp z with z | z
     ·have := g1 a (by simp); omega
     ·exact g1 y (by simp [z])
   ·rcases List.mem_cons.mp g2 with z | z
    ·simp [z]
    ·simp [z]
theorem maxE_dn (ns : List Nat) : ∃ v, maxE (ns.map dN) (.int 0) = some (dN v) /\ (∀ y ∈ ns, y <= v) /\ (ns = [] /\ v = 0 \/ v ∈ ns) := by
 cases ns with
 | nil => exact ⟨0, rfl, by simp, .inl ⟨rfl, rfl⟩⟩
 | cons a ns =>
  obtain ⟨v, e, g1, g2⟩ := maxP_dn ns a
  exact ⟨v, e, g1, .inr g2⟩
end
section
open PySem L2
theorem try_ok {names : List Str} {mb ms : MS} {xb : MXs} {i : Nat} {ρ : Ro} {o : Out} (h : mb ρ = some o) : mtry names mb xb i ms ρ = some o := by unfold mtry; rw [h]
theorem try_x {names : List Str} {mb ms : MS} {xb : MXs} {i : Nat} {ρ ρ1 ρ2 : Ro} {c : Str} (h : mb ρ = none) (hx : xb ρ = some (c, ρ1)) (hc : c ∈ names) (hs : ms (ρ1.set i (some (.sh (.exc c)))) = some (.nx ρ2)) : mtry names mb xb i ms ρ = some (.nx (ρ2.set i none)) := by
 unfold mtry
 rw [h, hx]
 dsimp only
 rw [if_pos hc, hs]
theorem mif_ev {c : MB} {x y : MS} {ρ : Ro} {b : Bool} (h : c ρ = some b) : mif c x y ρ = (if b then x else y) ρ := by unfold mif; rw [h]; cases b <;> rfl
theorem xif_ev {c : MB} {x y : MXs} {ρ : Ro} {b : Bool} (h : c ρ = some b) : xif c x y ρ = (if b then x else y) ρ := by unfold xif; rw [h]; cases b <;> rfl
theorem mexpr_ev {x : ME} {ρ : Ro} {d : D} (h : x ρ = some d) : mexpr x ρ = some (.nx ρ) := by unfold mexpr; rw [h]; rfl
theorem mexpr_no {x : ME} {ρ : Ro} (h : x ρ = none) : mexpr x ρ = none := by unfold mexpr; rw [h]; rfl
theorem mcall_no {f : MF} {m : ML} {ρ : Ro} {ds : List D} (h : m ρ = some ds) (h2 : f ds = none) : mcall f m ρ = none := by unfold mcall; rw [h]; show (match f ds with | some (.sh d) => some d | some (.fr es) => some (.lst es) | some (.pr d es) => some (.tup [d, .lst es]) | none => none) = _; rw [h2]
theorem xcall_ev {x : MFX} {m : ML} {ρ : Ro} {ds : List D} {c : Str} (h : m ρ = some ds) (h2 : x ds = some c) : xcall x m ρ = some c := by unfold xcall; rw [h]; exact h2
theorem xE_ev {x : MXe} {ρ : Ro} {c : Str} (h : x ρ = some c) : xE x ρ = some (c, ρ) := by unfold xE; rw [h]; rfl
theorem runX_ev {n : Nat} {x : MXs} {ds : List D} {c : Str} {ρ : Ro} (h : x (startS n ds) = some (c, ρ)) : runX n x ds = some c := by unfold runX; rw [h]; rfl
theorem xraise_ev {c : Str} {m : ML} {ρ : Ro} {ds : List D} (h : m ρ = some ds) : xraise c m ρ = some (c, ρ) := by unfold xraise; rw [h]; rfl
theorem xseq_nx {m : MS} {x1 x2 : MXs} {ρ ρ' : Ro} (h : m ρ = some (.nx ρ')) : xseq m x1 x2 ρ = x2 ρ' := by unfold xseq; rw [h]
theorem xseq_x {m : MS} {x1 x2 : MXs} {ρ : Ro} (h : m ρ = none) : xseq m x1 x2 ρ = x1 ρ := by unfold xseq; rw [h]
theorem mseq_no {x y : MS} {ρ : Ro} (h : x ρ = none) : mseq x y ρ = none := by unfold mseq; rw [h]
theorem runB_no {n : Nat} {m : MS} {ds : List D} (h : m (startS n ds) = none) : runB n m ds = none := by unfold runB; rw [h]
theorem misX_ev {tab : List (Str × Bool)} {m : ME} {ρ : Ro} {c : Str} {k : Bool} (h : m ρ = some (.exc c)) (h2 : tab.lookup c = some k) : misX tab m ρ = some (.bl k) := by unfold misX; rw [h]; simp only [h2]; rfl
theorem tI_ev {x : ME} {ρ : Ro} {i k : Int} (h : x ρ = some (.int i)) : mtest (m2 eqSD x (mc (.int k))) ρ = some (i == k) := by unfold mtest m2 mc; rw [h]; rfl
theorem tLt_ev {x y : ME} {ρ : Ro} {i k : Int} (h : x ρ = some (.int i)) (h2 : y ρ = some (.int k)) : mtest (m2 ltD x y) ρ = some (decide (i < k)) := by unfold mtest m2; rw [h, h2]; rfl
end
section
open PySem L2
theorem nils_few (row : List Int) (s : Int) : Few row s 0 (List.replicate row.length []) (List.replicate row.length []) :=
 ⟨by simp, by simp, fun q _ => .inl ⟨rfl, rep_get _ _, rep_get _ _⟩⟩
noncomputable abbrev TP2 (U V : List (List Nat)) : D := .tup [.lst (U.map L), .lst (V.map L)]
theorem no_tails_eq (row : List Int) (hr : row.length <= 300) : m_Z15 [RI row] = some (.sh (TP2 (List.replicate row.length []) (List.replicate row.length []))) := by
 unfold m_Z15 b_Z15
 have i2 : 2 <= sizeLine := le_size (by decide)
 have e := nils_ev row.length hr (startS 1 [RI row]) (bvar 0) _ rfl (by rw [List.length_map])
 exact runB_rt (mret_ev (mtup_ev (acons_ev (mlst_ev e) (acons_ev (mlst_ev e) anil_ev)) i2))
noncomputable abbrev BT (row : List Int) (s : Int) (t : Nat) : List Nat -> Prop := Best (Tn (xr row) row.length s t)
theorem longest_tail_eq {row : List Int} {s : Int} {t : Nat} {U V : List (List Nat)} (hr : row.length <= 300) (h : Few row s (t + 1) U V) : ∃ l, m_Z7 [TP2 U V] = some (.sh (L l)) /\ BT row s t l := by
 obtain ⟨hU, hV, hd⟩ := h
 have hd : ∀ q, q < row.length -> BS row s t true q (U.getD q []) /\ BS row s t false q (V.getD q []) := fun q hq => by
  rcases hd q hq with ⟨z, _⟩ | ⟨u, e, a, b⟩
  ·omega
  ·have : u = t := by omega
   subst this
   exact ⟨a, b⟩
 have hres : ∃ l, minD (fun d => shOf (m_Z9 [d])) ((U ++ V).map L) (.lst []) = some (L l) /\ BT row s t l := by
  cases hc : U ++ V with
  | nil =>
   have : row.length = 0 := by
    have := congrArg List.length hc
    rw [List.length_append, List.length_nil] at this
    omega
   exact ⟨[], rfl, best_turns0 this⟩
  | cons b ls =>
   obtain ⟨r, e, h1, h2⟩ := min_list (mk := fun d => shOf (m_Z9 [d])) ek ls b
   refine ⟨r, ?_, ?_⟩
   ·show (match shOf (m_Z9 [L b]) with | some kd => minF _ (ls.map L) (L b) kd | none => none) = _
    rw [ek b]
    exact e
   ·rw [<- hc] at h1 h2
    have all : ∀ m ∈ U ++ V, ∃ d q, BS row s t d q m := by
     intro m hm
     rcases List.mem_append.mp hm with h | h
     ·obtain ⟨q, hq, rfl⟩ := mem_getD h
      exact ⟨true, q, (hd q (by omega)).1⟩
     ·obtain ⟨q, hq, rfl⟩ := mem_getD h
      exact ⟨false, q, (hd q (by omega)).2⟩
    refine best_turns h1 h2 (fun m hm => ?_) (fun d p hp => ?_) ?_
    ·obtain ⟨d, q, h⟩ := all m hm
     exact .inr ⟨d, h.1.1⟩
    ·cases d
     ·exact ⟨_, List.mem_append_right _ (getD_mem (q := p) (by omega)), (hd p hp).2⟩
     ·exact ⟨_, List.mem_append_left _ (getD_mem (q := p) (by omega)), (hd p hp).1⟩
    ·obtain ⟨d, q, h⟩ := all r h1
     intro z
     rw [z] at h
     exact h.1.1
 obtain ⟨l, e, hb⟩ := hres
 refine ⟨l, ?_, hb⟩
 unfold m_Z7 b_Z7
 refine runB_run (run_seq (ρ' := [some (.sh (TP2 U V)), some (.sh (.lst (U.map L))), some (.sh (.lst (V.map L)))]) rfl ⟨_, ?_, rfl⟩)
 have e1 : aslst (m2 addD (mvar 1) (mvar 2)) [some (.sh (TP2 U V)), some (.sh (.lst (U.map L))), some (.sh (.lst (V.map L)))] = some ((U ++ V).map L) := by
  have hz : (U.map L).length + (V.map L).length <= sizeLine := le_size (by simp; omega)
  refine aslst_ev ?_
  unfold m2
  show (if (U.map L).length + (V.map L).length <= sizeLine then some (D.lst (U.map L ++ V.map L)) else none) = _
  rw [if_pos hz, List.map_append]
 unfold mret
 rw [mminK_ev e1 (mlst_ev (sized_ev anil_ev (Nat.zero_le _))), e]
 rfl
theorem bt_same {row : List Int} {s : Int} {t u : Nat} {l : List Nat} (h : BT row s t l) (e : ∀ m, Tn (xr row) row.length s t m ↔ Tn (xr row) row.length s u m) : BT row s u l := h.iff e
theorem tn_min {row : List Int} {s : Int} (k : Nat) (m : List Nat) : Tn (xr row) row.length s (min k row.length) m ↔ Tn (xr row) row.length s k m := by
 constructor
 ·exact fun h => h.mono (Nat.min_le_left _ _)
 ·intro h
  rcases Nat.le_total k row.length with z | z
  ·rw [Nat.min_eq_left z]; exact h
  ·rw [Nat.min_eq_right z]; exact h.all
theorem steps_call {row : List Int} {s : Int} (hr : row.length <= 300) {ρ : Ro} (h0 : mvar 0 ρ = some (RI row)) (h1 : mvar 1 ρ = some (.int s)) : mcall m_Z11 (acons (mvar 0) (acons (mvar 1) anil)) ρ = some (SP row s) :=
 mcall_sh (acons_ev h0 (acons_ev h1 anil_ev)) (later_steps_eq row s hr)
theorem longest_turning_eq (row : List Int) (s : Int) (k : Nat) (hs : 1 <= s) (hr : row.length <= 300) : ∃ l, m_Z1 [RI row, .int s, .int (k : Int)] = some (.sh (L l)) /\ BT row s k l := by
 suffices h : Run b_Z1 (startS 6 [RI row, .int s, .int (k : Int)]) (fun o => ∃ l, o = .rt (L l) /\ BT row s k l) by
  obtain ⟨o, e, l, rfl, r⟩ := h
  exact ⟨l, runB_rt e, r⟩
 unfold b_Z1
 refine run_seq (ρ' := [some (.sh (RI row)), some (.sh (.int s)), some (.sh (.int (k : Int))), none, none, none]) (mexpr_ev (mcall_sh (acons_ev (d := .int s) rfl anil_ev) (refuse_step_eq s hs))) ?_
 refine run_seq (ρ' := [some (.sh (RI row)), some (.sh (.int s)), some (.sh (.int (k : Int))), none, none, none]) (by rw [mif_ev (tLt_ev (i := (k : Int)) (k := 0) rfl rfl), decide_eq_false (by omega)]; rfl) ?_
 refine run_seq (ρ' := [some (.sh (RI row)), some (.sh (.int s)), some (.sh (.int (k : Int))), some (.sh (SP row s)), none, none]) ((mset_ev (steps_call hr rfl rfl)).trans rfl) ?_
 refine run_seq (ρ' := [some (.sh (RI row)), some (.sh (.int s)), some (.sh (.int (k : Int))), some (.sh (SP row s)), some (.sh (TP2 (List.replicate row.length []) (List.replicate row.length []))), none]) ((mset_ev (mcall_sh (acons_ev (d := RI row) rfl anil_ev) (no_tails_eq row hr))).trans rfl) ?_
 have k2 : okR ((min k row.length + 1 : Nat) : Int) = true := okR_of (by omega) (by omega)
 have er : mlist rng1 (acons (m2 addD (call1 min2F (acons (mvar 2) (acons (mlen (bvar 0)) anil))) (mc (.int 1))) anil) [some (.sh (RI row)), some (.sh (.int s)), some (.sh (.int (k : Int))), some (.sh (SP row s)), some (.sh (TP2 (List.replicate row.length []) (List.replicate row.length []))), none] = some ((List.range (min k row.length + 1)).map dN) := by
  have e1 : call1 min2F (acons (mvar 2) (acons (mlen (bvar 0)) anil)) [some (.sh (RI row)), some (.sh (.int s)), some (.sh (.int (k : Int))), some (.sh (SP row s)), some (.sh (TP2 (List.replicate row.length []) (List.replicate row.length []))), none] = some (.int ((min k row.length : Nat) : Int)) := by
   unfold call1
   rw [acons_ev (d := .int (k : Int)) rfl (acons_ev (mlen_ev (m := bvar 0) (ds := row.map .int) rfl) anil_ev), List.length_map]
   have q : (if (row.length : Int) < (k : Int) then (row.length : Int) else (k : Int)) = ((min k row.length : Nat) : Int) := by split <;> omega
   show some (D.int (if (row.length : Int) < (k : Int) then (row.length : Int) else (k : Int))) = _
   rw [q]
  unfold mlist
  rw [acons_ev ((m2_at2 e1 rfl).trans (show addD (.int ((min k row.length : Nat) : Int)) (.int 1) = some (.int ((min k row.length + 1 : Nat) : Int)) from rfl)) anil_ev, Option.bind_some, rng1_ok k2, Int.toNat_natCast, rangeD_li, List.map_map]
  rfl
 refine run_mseq (run_forN (min k row.length + 1) (f := dN) er
  (I := fun j ρ => ∃ U V o, Few row s j U V /\ ρ = [some (.sh (RI row)), some (.sh (.int s)), some (.sh (.int (k : Int))), some (.sh (SP row s)), some (.sh (TP2 U V)), o]) _ ⟨_, _, _, nils_few row s, rfl⟩ ?_ ?_)
 ·rintro j ρ hj ⟨U, V, o, hf, rfl⟩
  obtain ⟨U', V', e, hf'⟩ := one_turn_more_eq hr hf
  refine ⟨[some (.sh (RI row)), some (.sh (.int s)), some (.sh (.int (k : Int))), some (.sh (SP row s)), some (.sh (TP2 U V)), some (.sh (dN j))], rfl, ⟨_, (show b_Z1_f0 _ = _ from mset_ev (mcall_sh (acons_ev (d := SP row s) rfl (acons_ev (d := TP2 U V) rfl anil_ev)) e)), U', V', _, hf', rfl⟩⟩
 ·rintro ρ ⟨U, V, o, hf, rfl⟩
  obtain ⟨l, e, hb⟩ := longest_tail_eq hr hf
  exact ⟨_, mret_ev (mcall_sh (acons_ev (d := TP2 U V) rfl anil_ev) e), l, rfl, bt_same hb (tn_min k)⟩
noncomputable def Mx (row : List Int) (s : Int) (p m : Nat) : Prop := (∃ l d, Sd (xr row) row.length s l row.length d /\ Hd p l /\ l.length = m) /\ ∀ l t d, Sd (xr row) row.length s l t d -> Hd p l -> l.length <= m
theorem mx_step {row : List Int} {s : Int} {p v : Nat} {ms : Nat -> Nat} (hp : p < row.length) (hm : ∀ q, p < q -> q < row.length -> Mx row s q (ms q))
  (h1 : ∀ d, ∀ q ∈ abv row s d p, ms q <= v) (h2 : v = 0 \/ ∃ d, ∃ q ∈ abv row s d p, ms q = v) : Mx row s p (1 + v) := by
 constructor
 ·rcases h2 with rfl | ⟨d, q, hq, e⟩
  ·exact ⟨[p], true, hp, ⟨[], rfl⟩, rfl⟩
  ·obtain ⟨a, b, c⟩ := abv_mem.mp hq
   obtain ⟨⟨l, d', hl, ⟨m, rfl⟩, e2⟩, _⟩ := hm q a b
   have hS : Sd (xr row) row.length s (p :: q :: m) (row.length + 1) d := by
    refine ⟨a, c, ?_⟩
    by_cases hd : d' = d
    ·subst hd; exact .inl (hl.mono (by omega))
    ·have : d' = !d := by cases d <;> cases d' <;> simp_all
     subst this
     exact .inr ⟨row.length, rfl, hl⟩
   have hlen := hS.len
   refine ⟨p :: q :: m, d, hS.enough.mono (by simp at hlen ⊢; omega), ⟨_, rfl⟩, ?_⟩
   rw [List.length_cons, e2, e]; omega
 ·rintro l t d hl ⟨m, rfl⟩
  cases m with
  | nil => simp
  | cons q m =>
   have hq : q < row.length := by
    rcases hl.2.2 with z | ⟨u, _, z⟩
    ·exact z.lt
    ·exact z.lt
   have hqm := abv_mem.mpr ⟨hl.1, hq, hl.2.1⟩
   have := h1 d q hqm
   have h3 : (q :: m).length <= ms q := by
    rcases hl.2.2 with z | ⟨u, _, z⟩
    ·exact (hm q hl.1 hq).2 _ _ _ z ⟨_, rfl⟩
    ·exact (hm q hl.1 hq).2 _ _ _ z ⟨_, rfl⟩
   rw [List.length_cons]; omega
noncomputable def envM (row : List Int) (s : Int) (ms : List Nat) (o : Option S) : Ro := [some (.sh (SP row s)), some (.sh (.lst ((Ab row s true).map L))), some (.sh (.lst ((Ab row s false).map L))), some (.own (ms.map dN)), o]
theorem at_dn (ms : List Nat) (p : Nat) (h : p < ms.length) : atI (ms.map dN) (p : Int) = some (dN (ms.getD p 0)) := by
 have := atI_map dN ms (p : Int) (by omega) (by omega) 0
 rw [Int.toNat_natCast] at this
 exact this
theorem most_body {row : List Int} {s : Int} {p : Nat} {ms : List Nat} {o : Option S} (hr : row.length <= 300) (hp : p < row.length) (hl : ms.length = row.length) (h : ∀ q, p < q -> q < row.length -> Mx row s q (ms.getD q 0)) :
  ∃ v, b_Z6_f0 (envM row s ms (some (.sh (.int (p : Int))))) = some (.nx (envM row s (ms.set p v) (some (.sh (.int (p : Int)))))) /\ Mx row s p v := by
 unfold b_Z6_f0
 have ab : ∀ (d : Bool), ∀ q ∈ abv row s d p, q < ms.length := fun d q hq => by rw [hl]; exact (abv_mem.mp hq).2.1
 have e1 : aslst (m2 addD (mix (bvar 1) (mvar 4)) (mix (bvar 2) (mvar 4))) (envM row s ms (some (.sh (.int (p : Int))))) = some ((abv row s true p ++ abv row s false p).map dN) := by
  refine aslst_ev ?_
  have g1 : mix (bvar 1) (mvar 4) (envM row s ms (some (.sh (.int (p : Int))))) = some (L (abv row s true p)) := mix_ev (ds := (Ab row s true).map L) (k := (p : Int)) rfl rfl (by rw [at_L _ p (by rw [Ab_len]; exact hp), Ab_get row s true p hp])
  have g2 : mix (bvar 2) (mvar 4) (envM row s ms (some (.sh (.int (p : Int))))) = some (L (abv row s false p)) := mix_ev (ds := (Ab row s false).map L) (k := (p : Int)) rfl rfl (by rw [at_L _ p (by rw [Ab_len]; exact hp), Ab_get row s false p hp])
  rw [m2_at2 g1 g2]
  have hz : ((abv row s true p).map dN).length + ((abv row s false p).map dN).length <= sizeLine := le_size (by have := abv_len row s true p; have := abv_len row s false p; simp; omega)
  show (if ((abv row s true p).map dN).length + ((abv row s false p).map dN).length <= sizeLine then some (D.lst ((abv row s true p).map dN ++ (abv row s false p).map dN)) else none) = _
  rw [if_pos hz, List.map_append]
 have e2 : mcompO [none, some 3] (aslst (m2 addD (mix (bvar 1) (mvar 4)) (mix (bvar 2) (mvar 4)))) (.nm 0) cyes (mix (bvar 1) (mvar 0)) (envM row s ms (some (.sh (.int (p : Int))))) = some (((abv row s true p ++ abv row s false p).map fun q => ms.getD q 0).map dN) := by
  unfold mcompO
  rw [e1, Option.bind_some]
  refine (compD_map (f := dN) (G := fun q => dN (ms.getD q 0)) (fun ks ρ => (∀ q ∈ ks, q < ms.length) /\ ∃ x, ρ = [x, some (.own (ms.map dN))]) (by
   rintro q ks ρ ⟨hh, x, rfl⟩
   exact ⟨[some (.sh (dN q)), some (.own (ms.map dN))], rfl, rfl, mix_ev (m := bvar 1) rfl rfl (at_dn ms q (hh q (by simp))), fun r hr => hh r (by simp [hr]), _, rfl⟩) _ _ [] ⟨fun q hq => ?_, none, rfl⟩ (le_size ?_)).trans ?_
  ·rcases List.mem_append.mp hq with z | z
   ·exact ab true q z
   ·exact ab false q z
  ·have := abv_len row s true p; have := abv_len row s false p
   simp; omega
  ·rw [List.nil_append, List.map_map]; rfl
 obtain ⟨v, ev, g1, g2⟩ := maxE_dn ((abv row s true p ++ abv row s false p).map fun q => ms.getD q 0)
 refine ⟨1 + v, ?_, ?_⟩
 ·have e3 : m2 addD (mc (.int 1)) (mmaxE (mcompO [none, some 3] (aslst (m2 addD (mix (bvar 1) (mvar 4)) (mix (bvar 2) (mvar 4)))) (.nm 0) cyes (mix (bvar 1) (mvar 0))) (mc (.int 0))) (envM row s ms (some (.sh (.int (p : Int))))) = some (dN (1 + v)) := by
   rw [m2_at2 (a := .int 1) (b := dN v) rfl ((mmaxE_ev e2 rfl).trans ev)]
   have q : (1 + (v : Int)) = ((1 + v : Nat) : Int) := by omega
   show some (D.int (1 + (v : Int))) = some (D.int ((1 + v : Nat) : Int))
   rw [q]
  unfold msetix
  rw [e3]
  show ((ixN (ms.map dN).length (p : Int)).map fun j => Out.nx ((envM row s ms (some (.sh (.int (p : Int))))).set 3 (some (.own ((ms.map dN).set j (dN (1 + v))))))) = _
  rw [List.length_map, ixN_nat _ _ (by omega)]
  show some (Out.nx _) = _
  rw [<- List.map_set]
  rfl
 ·refine mx_step (ms := fun q => ms.getD q 0) hp h (fun d q hq => g1 _ (List.mem_map.mpr ⟨q, ?_, rfl⟩)) ?_
  ·cases d
   ·exact List.mem_append_right _ hq
   ·exact List.mem_append_left _ hq
  ·rcases g2 with ⟨_, z⟩ | z
   ·exact .inl z
   ·obtain ⟨q, hq, e⟩ := List.mem_map.mp z
    rcases List.mem_append.mp hq with hq | hq
    ·exact .inr ⟨true, q, hq, e⟩
    ·exact .inr ⟨false, q, hq, e⟩
theorem getD_setN (ms : List Nat) (p q v : Nat) (h : p < ms.length) : (ms.set p v).getD q 0 = if p = q then v else ms.getD q 0 := by
 rw [List.getD_eq_getElem?_getD, List.getD_eq_getElem?_getD]
 by_cases e : p = q
 ·subst e; rw [List.getElem?_set_self h, if_pos rfl]; rfl
 ·rw [List.getElem?_set_ne e, if_neg e]
theorem most_stepped_eq (row : List Int) (s : Int) (hr : row.length <= 300) : ∃ M, m_Z6 [SP row s] = some (.sh (dN M)) /\ (∀ t l, Tn (xr row) row.length s t l -> l.length <= M) /\ ∃ l, Tn (xr row) row.length s row.length l /\ l.length = M := by
 suffices h : Run b_Z6 (startS 5 [SP row s]) (fun o => ∃ M, o = .rt (dN M) /\ (∀ t l, Tn (xr row) row.length s t l -> l.length <= M) /\ ∃ l, Tn (xr row) row.length s row.length l /\ l.length = M) by
  obtain ⟨o, e, M, rfl, r⟩ := h
  exact ⟨M, runB_rt e, r⟩
 unfold b_Z6
 have k2 : okR (row.length : Int) = true := okR_of (by omega) (by omega)
 have i1 : 0 + 1 <= sizeLine := le_size (by decide)
 have big := size_big
 refine run_seq (ρ' := [some (.sh (SP row s)), some (.sh (.lst ((Ab row s true).map L))), some (.sh (.lst ((Ab row s false).map L))), none, none]) rfl ?_
 refine run_seq (ρ' := envM row s (List.replicate row.length 0) none) ?_ ?_
 ·unfold msetF
  rw [mrep_ev (ds := [.int 0]) (k := (row.length : Int)) (sized_ev (acons_ev (d := .int 0) rfl anil_ev) i1) (by rw [mlen_ev (m := bvar 1) (ds := (Ab row s true).map L) rfl, List.length_map, Ab_len]) (by unfold repOk; simp only [Bool.and_eq_true, decide_eq_true_eq, List.length_singleton]; omega), Int.toNat_natCast, List.flatten_replicate_singleton]
  show some (Out.nx _) = _
  unfold envM
  rw [List.map_replicate]
  rfl
 have ed : downD row.length = (List.range row.length).map fun (j : Nat) => D.int ((row.length : Int) - 1 - (j : Int)) := rfl
 refine run_mseq (run_forN row.length (f := fun (j : Nat) => D.int ((row.length : Int) - 1 - (j : Int))) ?_
  (I := fun j ρ => ∃ ms o, ms.length = row.length /\ (∀ q, row.length - j <= q -> q < row.length -> Mx row s q (ms.getD q 0)) /\ ρ = envM row s ms o) _
  ⟨_, _, by simp, fun q h1 h2 => by omega, rfl⟩ ?_ ?_)
 ·unfold mlist
  rw [acons_ev (x := mlen (bvar 1)) (d := .int (((Ab row s true).map L).length : Int)) (mlen_ev rfl) anil_ev, Option.bind_some, List.length_map, Ab_len, rngD_ok k2, Int.toNat_natCast, ed]
 ·rintro j ρ hj ⟨ms, o, hl, h, rfl⟩
  have e : (row.length : Int) - 1 - (j : Int) = ((row.length - 1 - j : Nat) : Int) := by omega
  rw [e]
  refine ⟨envM row s ms (some (.sh (.int ((row.length - 1 - j : Nat) : Int)))), rfl, ?_⟩
  obtain ⟨v, eb, hv⟩ := most_body (o := o) hr (show row.length - 1 - j < row.length by omega) hl fun q h1 h2 => h q (by omega) h2
  refine ⟨_, eb, ms.set (row.length - 1 - j) v, _, by rw [List.length_set]; exact hl, fun q h1 h2 => ?_, rfl⟩
  rw [getD_setN _ _ _ _ (by omega)]
  by_cases hq : row.length - 1 - j = q
  ·rw [if_pos hq, <- hq]; exact hv
  ·rw [if_neg hq]; exact h q (by omega) h2
 ·rintro ρ ⟨ms, o, hl, h, rfl⟩
  rw [Nat.sub_self] at h
  unfold b_Z6_r1
  obtain ⟨v, ev, g1, g2⟩ := maxE_dn ms
  refine run_freeze (ds := ms.map dN) rfl ⟨_, mret_ev ((mmaxE_ev (ds := ms.map dN) (d0 := .int 0) rfl rfl).trans ev), v, rfl, fun t l hl' => ?_, ?_⟩
  ·rcases hl' with rfl | ⟨d, hS⟩
   ·simp
   ·cases l with
    | nil => exact hS.elim
    | cons p l =>
     have hp := hS.lt
     refine Nat.le_trans ((h p (Nat.zero_le _) hp).2 _ _ _ hS ⟨_, rfl⟩) (g1 _ ?_)
     rw [List.getD_eq_getElem?_getD, List.getElem?_eq_getElem (by omega)]
     exact List.getElem_mem _
  ·rcases g2 with ⟨z, rfl⟩ | z
   ·exact ⟨[], .inl rfl, rfl⟩
   ·obtain ⟨p, hp, e⟩ := List.getElem_of_mem z
    obtain ⟨⟨l, d, hS, hH, e2⟩, _⟩ := h p (Nat.zero_le _) (by omega)
    refine ⟨l, .inr ⟨d, hS⟩, ?_⟩
    rw [e2, List.getD_eq_getElem?_getD, List.getElem?_eq_getElem hp, <- e]; rfl
end
section
open PySem L2
theorem while_run {c : MB} {body : MS} {I : Nat -> Ro -> Prop} {Q : Ro -> Prop}
  (h : ∀ k ρ, I k ρ -> (c ρ = some false /\ Q ρ) \/ (c ρ = some true /\ ∃ ρ', body ρ = some (.nx ρ') /\ ∃ k', k' < k /\ I k' ρ')) :
  ∀ (f k : Nat) (ρ : Ro), k < f -> I k ρ -> ∃ ρ', whileD c body f ρ = some (.nx ρ') /\ Q ρ'
 | 0, k, ρ, hk, _ => by omega
 | f + 1, k, ρ, hk, hI => by
  unfold whileD
  rcases h k ρ hI with ⟨hc, hq⟩ | ⟨hc, ρ', hb, k', hk', hI'⟩
  ·exact ⟨ρ, by rw [hc], hq⟩
  ·obtain ⟨ρ2, e, q⟩ := while_run h f k' ρ' (by omega) hI'
   refine ⟨ρ2, ?_, q⟩
   rw [hc]
   simp only [hb]
   exact e
noncomputable def Kt (row : List Int) (s : Int) (t k : Nat) : Prop := ∃ l, BT row s t l /\ l.length = k
theorem Kt.mono {row : List Int} {s : Int} {t u a b : Nat} (h1 : Kt row s t a) (h2 : Kt row s u b) (h : t <= u) : a <= b := by
 obtain ⟨l, hl, rfl⟩ := h1
 obtain ⟨m, hm, rfl⟩ := h2
 exact hm.len l (hl.1.mono h)
structure Kpt (row : List Int) (s : Int) (ks : List Nat) : Prop where
 pos : 0 < ks.length
 few : ks.length <= row.length + 1
 at' : ∀ i, i < ks.length -> Kt row s i (ks.getD i 0)
 last : ∀ t k, Kt row s t k -> k <= ks.getD (ks.length - 1) 0
 less : ∀ i, i + 1 < ks.length -> ks.getD i 0 < ks.getD (ks.length - 1) 0
noncomputable def envK (row : List Int) (s : Int) (M : Nat) (U V : List (List Nat)) (ks : List Nat) : Ro := [some (.sh (RI row)), some (.sh (.int s)), some (.sh (SP row s)), some (.sh (dN M)), some (.sh (TP2 U V)), some (.own (ks.map dN))]
theorem at_last (ks : List Nat) (h : 0 < ks.length) : atI (ks.map dN) (-1) = some (dN (ks.getD (ks.length - 1) 0)) := by
 unfold atI ixN
 rw [List.length_map, if_neg (by decide), if_pos (by omega)]
 have e : (-1 + (ks.length : Int)).toNat = ks.length - 1 := by omega
 rw [e]
 rw [Option.bind_some, List.getElem?_map, List.getD_eq_getElem?_getD, List.getElem?_eq_getElem (by omega)]
 rfl
theorem getD_app (ks : List Nat) (v i : Nat) : (ks ++ [v]).getD i 0 = if i < ks.length then ks.getD i 0 else if i = ks.length then v else 0 := by
 rw [List.getD_eq_getElem?_getD, List.getD_eq_getElem?_getD]
 by_cases h : i < ks.length
 ·rw [if_pos h, List.getElem?_append_left h]
 ·rw [if_neg h, List.getElem?_append_right (by omega)]
  by_cases h2 : i = ks.length
  ·rw [if_pos h2, h2, Nat.sub_self]; rfl
  ·rw [if_neg h2, List.getElem?_eq_none (by simp; omega)]; rfl
theorem kept_by_turns_eq (row : List Int) (s : Int) (hs : 1 <= s) (hr : row.length <= 300) : ∃ ks, m_Z3 [RI row, .int s] = some (.fr (ks.map dN)) /\ Kpt row s ks := by
 obtain ⟨M, eM, hM1, lM, hM2, hM3⟩ := most_stepped_eq row s hr
 have i1 : 0 + 1 <= sizeLine := le_size (by decide)
 have big := size_big
 suffices h : Run b_Z3 (startS 6 [RI row, .int s]) (fun o => ∃ ks : List Nat, o = .rf (ks.map dN) /\ Kpt row s ks) by
  obtain ⟨o, e, ks, rfl, r⟩ := h
  exact ⟨ks, runB_rf e, r⟩
 unfold b_Z3
 refine run_seq (ρ' := [some (.sh (RI row)), some (.sh (.int s)), none, none, none, none]) (mexpr_ev (mcall_sh (acons_ev (d := .int s) rfl anil_ev) (refuse_step_eq s hs))) ?_
 refine run_seq (ρ' := [some (.sh (RI row)), some (.sh (.int s)), some (.sh (SP row s)), none, none, none]) ((mset_ev (steps_call hr rfl rfl)).trans rfl) ?_
 refine run_seq (ρ' := [some (.sh (RI row)), some (.sh (.int s)), some (.sh (SP row s)), some (.sh (dN M)), none, none]) ((mset_ev (mcall_sh (acons_ev (d := SP row s) rfl anil_ev) eM)).trans rfl) ?_
 obtain ⟨U, V, e0, hf0⟩ := one_turn_more_eq hr (nils_few row s)
 obtain ⟨l0, el0, hb0⟩ := longest_tail_eq hr hf0
 refine run_seq (ρ' := [some (.sh (RI row)), some (.sh (.int s)), some (.sh (SP row s)), some (.sh (dN M)), some (.sh (TP2 U V)), none]) ((mset_ev (mcall_sh (acons_ev (d := SP row s) rfl (acons_ev (mcall_sh (acons_ev (d := RI row) rfl anil_ev) (no_tails_eq row hr)) anil_ev)) e0)).trans rfl) ?_
 have tl : ∀ (ρ : Ro) (U V : List (List Nat)) (l : List Nat), mvar 4 ρ = some (TP2 U V) -> m_Z7 [TP2 U V] = some (.sh (L l)) -> mlen (aslst (mcall m_Z7 (acons (mvar 4) anil))) ρ = some (dN l.length) := fun ρ U V l h4 h => by
  rw [mlen_ev (aslst_ev (ds := l.map dN) (mcall_sh (acons_ev h4 anil_ev) h)), List.length_map]; rfl
 refine run_seq (ρ' := envK row s M U V [l0.length]) (by unfold msetF; rw [sized_ev (acons_ev (tl _ U V l0 rfl el0) anil_ev) i1]; rfl) ?_
 have hW := while_run (c := mtest (m2 ltD (mix (bvar 5) (m1 negD (mc (.int 1)))) (mvar 3))) (body := b_Z3_f0)
  (I := fun k ρ => ∃ U V ks, Few row s ks.length U V /\ 0 < ks.length /\ ks.length + k = row.length + 1 /\ (∀ i, i < ks.length -> Kt row s i (ks.getD i 0)) /\ (∀ i, i + 1 < ks.length -> ks.getD i 0 < M) /\ ρ = envK row s M U V ks)
  (Q := fun ρ => ∃ U V ks, Kpt row s ks /\ ρ = envK row s M U V ks) ?_ 1000 row.length (envK row s M U V [l0.length]) (by omega) ⟨U, V, [l0.length], hf0, by simp, by simp; omega, fun i hi => ?_, fun i hi => by simp at hi, rfl⟩
 ·obtain ⟨ρ', e, U', V', ks, hk, rfl⟩ := hW
  refine run_seq e ?_
  exact run_retO (ds := ks.map dN) rfl ⟨ks, rfl, hk⟩
 ·rintro k ρ ⟨U, V, ks, hf, hpos, hlen, hat, hless, rfl⟩
  have hc : mtest (m2 ltD (mix (bvar 5) (m1 negD (mc (.int 1)))) (mvar 3)) (envK row s M U V ks) = some (decide (ks.getD (ks.length - 1) 0 < M)) := by
   rw [tlt_ev (i := ((ks.getD (ks.length - 1) 0 : Nat) : Int)) (j := (M : Int)) (mix_ev (m := bvar 5) (k := -1) rfl rfl (at_last ks hpos)) rfl]
   have : ((((ks.getD (ks.length - 1) 0 : Nat) : Int) < (M : Int)) ↔ ks.getD (ks.length - 1) 0 < M) := by omega
   rw [decide_eq_decide.mpr this]
  have hlast := hat (ks.length - 1) (by omega)
  have hle : ks.getD (ks.length - 1) 0 <= M := by
   obtain ⟨l, hl, e⟩ := hlast
   rw [<- e]; exact hM1 _ l hl.1
  by_cases hlt : ks.getD (ks.length - 1) 0 < M
  ·rw [decide_eq_true hlt] at hc
   refine .inr ⟨hc, ?_⟩
   have hkl : ks.length <= row.length := by
    rcases Nat.lt_or_ge row.length ks.length with z | z
    ·exfalso
     obtain ⟨l, hl, e⟩ := hlast
     have : lM.length <= l.length := hl.len lM (hM2.mono (by omega))
     omega
    ·exact z
   obtain ⟨U', V', e1, hf'⟩ := one_turn_more_eq hr hf
   obtain ⟨l, el, hb⟩ := longest_tail_eq hr hf'
   refine ⟨envK row s M U' V' (ks ++ [l.length]), ?_, row.length - ks.length, by omega, U', V', ks ++ [l.length], by simpa using hf', by simp, by simp; omega, fun i hi => ?_, fun i hi => ?_, rfl⟩
   ·unfold b_Z3_f0
    refine seqI (ρ' := envK row s M U' V' ks) ((mset_ev (mcall_sh (acons_ev (d := SP row s) rfl (acons_ev (d := TP2 U V) rfl anil_ev)) e1)).trans rfl) ?_
    unfold mapp
    rw [tl _ U' V' l rfl el]
    show (some (dN l.length)).bind (fun d => if (ks.map dN).length < sizeLine then some (Out.nx ((envK row s M U' V' ks).set 5 (some (.own (ks.map dN ++ [d]))))) else none) = _
    rw [Option.bind_some, if_pos (by rw [List.length_map]; omega)]
    unfold envK
    rw [List.map_append]
    rfl
   ·rw [getD_app]
    by_cases h : i < ks.length
    ·rw [if_pos h]; exact hat i h
    ·have : i = ks.length := by simp at hi; omega
     rw [if_neg h, if_pos this, this]
     exact ⟨l, hb, rfl⟩
   ·have hi : i < ks.length := by simp at hi; omega
    rw [getD_app, if_pos hi]
    by_cases h : i + 1 < ks.length
    ·exact hless i h
    ·have : i = ks.length - 1 := by omega
     rw [this]; exact hlt
  ·rw [decide_eq_false hlt] at hc
   have hM : ks.getD (ks.length - 1) 0 = M := by omega
   exact .inl ⟨hc, U, V, ks, ⟨hpos, by omega, hat, fun t k hpat => by obtain ⟨l, hl, e⟩ := hpat; rw [hM, <- e]; exact hM1 t l hl.1, fun i hi => by rw [hM]; exact hless i hi⟩, rfl⟩
 ·have : i = 0 := by simp at hi; omega
  subst this
  exact ⟨l0, hb0, rfl⟩
noncomputable def firstGe (m : Nat) : List Nat -> Nat -> Option Nat
 | [], _ => none
 | k :: ks, i => if m <= k then some i else firstGe m ks (i + 1)
noncomputable def oD : Option Nat -> D
 | some i => dN i
 | none => .non
theorem enum_dn : ∀ (ks : List Nat) (i : Nat), enumL i (ks.map dN) = (ks.zipIdx i).map fun p => D.tup [.int (p.2 : Int), dN p.1]
 | [], _ => rfl
 | k :: ks, i => by
  rw [List.map_cons, enumL, enum_dn ks (i + 1), List.zipIdx_cons, List.map_cons]
theorem fewest_turns_eq (row : List Int) (s : Int) (m : Nat) (hs : 1 <= s) (hr : row.length <= 300) {ks : List Nat} (hk : m_Z3 [RI row, .int s] = some (.fr (ks.map dN))) : m_Z10 [RI row, .int s, .int (m : Int)] = some (.sh (oD (firstGe m ks 0))) := by
 unfold m_Z10 b_Z10
 refine runB_run ?_
 refine run_seq (ρ' := [some (.sh (RI row)), some (.sh (.int s)), some (.sh (.int (m : Int))), none, none]) (mexpr_ev (mcall_sh (acons_ev (d := .int s) rfl anil_ev) (refuse_step_eq s hs))) ?_
 refine run_seq (ρ' := [some (.sh (RI row)), some (.sh (.int s)), some (.sh (.int (m : Int))), none, none]) (by rw [mif_ev (tLt_ev (i := (m : Int)) (k := 0) rfl rfl), decide_eq_false (by omega)]; rfl) ?_
 have ee : mlist enum1 (acons (mcall m_Z3 (acons (mvar 0) (acons (mvar 1) anil))) anil) [some (.sh (RI row)), some (.sh (.int s)), some (.sh (.int (m : Int))), none, none] = some ((ks.zipIdx 0).map fun p => D.tup [.int (p.2 : Int), dN p.1]) := by
  unfold mlist
  rw [acons_ev (mcall_fr (acons_ev (d := RI row) rfl (acons_ev (d := .int s) rfl anil_ev)) hk) anil_ev, Option.bind_some]
  show some (enumL 0 (ks.map dN)) = _
  rw [enum_dn]
 refine run_mseq (run_for (ks.zipIdx 0) (f := fun p => D.tup [.int (p.2 : Int), dN p.1]) ee
  (I := fun ps ρ => ∃ js i o3 o4, ps = List.zipIdx js i /\ firstGe m ks 0 = firstGe m js i /\ ρ = [some (.sh (RI row)), some (.sh (.int s)), some (.sh (.int (m : Int))), o3, o4]) _ ⟨ks, 0, _, _, rfl, rfl, rfl⟩ ?_ ?_)
 ·rintro ⟨k, j⟩ ps ρ ⟨js, i, o3, o4, e, ef, rfl⟩
  cases js with
  | nil => cases e
  | cons a js =>
   rw [List.zipIdx_cons] at e
   obtain ⟨e1, e2⟩ := List.cons.inj e
   cases e1
   refine ⟨[some (.sh (RI row)), some (.sh (.int s)), some (.sh (.int (m : Int))), some (.sh (dN j)), some (.sh (dN k))], rfl, ?_⟩
   unfold b_Z10_f0
   have ht : mtest (m2 geD (mvar 4) (mvar 2)) [some (.sh (RI row)), some (.sh (.int s)), some (.sh (.int (m : Int))), some (.sh (dN j)), some (.sh (dN k))] = some (decide (m <= k)) := by
    rw [tge_ev (i := (k : Int)) (j := (m : Int)) rfl rfl]
    have : (((m : Int) <= (k : Int)) ↔ m <= k) := by omega
    rw [decide_eq_decide.mpr this]
   refine run_if ht ?_
   rw [firstGe] at ef
   by_cases h : m <= k
   ·rw [if_pos h] at ef
    rw [decide_eq_true h]
    refine ⟨.rt (dN j), rfl, ?_⟩
    show Out.rt (dN j) = .rt (oD (firstGe m ks 0))
    rw [ef]; rfl
   ·rw [if_neg h] at ef
    rw [decide_eq_false h]
    exact ⟨_, rfl, js, j + 1, _, _, e2, ef, rfl⟩
 ·rintro ρ ⟨js, i, o3, o4, e, ef, rfl⟩
  cases js with
  | nil =>
   refine ⟨.rt .non, rfl, ?_⟩
   rw [ef]; rfl
  | cons a js => rw [List.zipIdx_cons] at e; cases e
end
section
open PySem L2
theorem mpu_ev {m : ME} {ρ : Ro} {d : D} (h : m ρ = some d) : mpu m ρ = some (d, ρ) := by unfold mpu; rw [h]
theorem apu_ev {m : ML} {ρ : Ro} {d : List D} (h : m ρ = some d) : apu m ρ = some (d, ρ) := by unfold apu; rw [h]
theorem m2m_ev {f : D -> D -> Option D} {x y : MEm} {ρ ρ1 ρ2 : Ro} {d e g : D} (h1 : x ρ = some (d, ρ1)) (h2 : y ρ1 = some (e, ρ2)) (h3 : f d e = some g) : m2m f x y ρ = some (g, ρ2) := by
 unfold m2m; rw [h1]; simp only; rw [h2]; simp only; rw [h3]
theorem aconsm_ev {x : MEm} {r : MLm} {ρ ρ1 ρ2 : Ro} {d : D} {ds : List D} (h1 : x ρ = some (d, ρ1)) (h2 : r ρ1 = some (ds, ρ2)) : aconsm x r ρ = some (d :: ds, ρ2) := by
 unfold aconsm; rw [h1]; simp only; rw [h2]
theorem mlstm_ev {m : MLm} {ρ ρ1 : Ro} {ds : List D} (h : m ρ = some (ds, ρ1)) (hz : ds.length <= sizeLine) : mlstm m ρ = some (.lst ds, ρ1) := by
 unfold mlstm; rw [h]; simp only [hz, if_true]
theorem msetm_ev {i : Nat} {x : MEm} {ρ ρ1 : Ro} {d : D} (h : x ρ = some (d, ρ1)) : msetm i x ρ = some (.nx (ρ1.set i (some (.sh d)))) := by unfold msetm; rw [h]
theorem mretG_ev {i : Nat} {x : MEm} {ρ ρ1 : Ro} {d : D} {p : Addr} {r : List D} (h : x ρ = some (d, ρ1)) (h2 : ρ1[i]? = some (some (.ob p r))) : mretG i x ρ = some (.rg d p r) := by unfold mretG; rw [h]; simp only; rw [h2]
theorem mcallG_ob {f : MG} {i : Nat} {m : MLm} {ρ ρ1 : Ro} {p : Addr} {r0 r1 r2 ds : List D} {t : Rt} {d : D} (h0 : ρ[i]? = some (some (.ob p r2))) (h1 : m ρ = some (ds, ρ1)) (h2 : ρ1[i]? = some (some (.ob p r0))) (h3 : f p r0 ds = some (t, r1)) (h4 : rtD t = some d) : mcallG f i m ρ = some (d, ρ1.set i (some (.ob p r1))) := by
 unfold mcallG; rw [h0]; simp only; rw [h1]; simp only; rw [h2]; simp only; rw [h3]; simp only; rw [h4]
theorem mcallG_own {f : MG} {i : Nat} {m : MLm} {ρ ρ1 : Ro} {r0 r1 r2 ds : List D} {t : Rt} {d : D} (h0 : ρ[i]? = some (some (.own r2))) (h1 : m ρ = some (ds, ρ1)) (h2 : ρ1[i]? = some (some (.own r0))) (h3 : ∀ p, f p r0 ds = some (t, r1)) (h4 : rtD t = some d) : mcallG f i m ρ = some (d, ρ1.set i (some (.own r1))) := by
 unfold mcallG; rw [h0]; simp only; rw [h1]; simp only; rw [h2]; simp only; rw [anyP_of h3]; simp only; rw [h4]
theorem runG_rg {n : Nat} {m : MS} {p : Addr} {r r' ds : List D} {d : D} (h : m (startG n p r ds) = some (.rg d p r')) : runG n m p r ds = some (.sh d, r') := by unfold runG; rw [h]; simp only [if_true]
noncomputable def RL (a b : Int) : List D := [.int a, .int b]
theorem at3 (x y z : Int) (k : Int) (h0 : 0 <= k) (h1 : k < 3) : ∃ w, atI [D.int x, .int y, .int z] k = some (.int w) /\ (w = x \/ w = y \/ w = z) := by
 have : k = 0 \/ k = 1 \/ k = 2 := by omega
 rcases this with h | h | h <;> subst h
 ·exact ⟨_, rfl, by simp⟩
 ·exact ⟨_, rfl, by simp⟩
 ·exact ⟨_, rfl, by simp⟩
end
section
open PySem L2
theorem next_eq (c k m : Int) (h : 0 < m) (h2 : m < 1073741824) : ∃ x c' k', 0 <= x /\ x < m /\ ∀ p, m_Z16 p (RL c k) [.int m] = some (.sh (.int x), RL c' k') := by
 have hp : ((10 : Int) ^ (18 : Int).toNat) = 10 ^ 18 := rfl
 have o1 : powOk 10 18 = true := by decide
 have c0 : ∀ x y : Int, atI [D.int x, D.int y] 0 = some (.int x) := fun _ _ => rfl
 have c1 : ∀ x y : Int, atI [D.int x, D.int y] 1 = some (.int y) := fun _ _ => rfl
 have n0 : ixN (0 + 1 + 1) 0 = some 0 := rfl
 have n1 : ixN (0 + 1 + 1) 1 = some 1 := rfl
 by_cases hb : 10 ^ 18 <= c
 ·refine ⟨c % m, c / m, k + 1, Int.emod_nonneg _ (by omega), Int.emod_lt_of_pos _ h, fun p => ?_⟩
  unfold m_Z16
  refine runG_rg ?_
  unfold b_Z16 startG RL
  simp_arith [hp, o1, c0, c1, hb, decide_true, if_true, modOk_of c m h, fdivOk_of c m h h2, n0, n1, mretG, mpu, List.set_cons_zero, List.set_cons_succ]
 ·have q3 : ∀ i, modOk i 2147483647 = true := fun i => modOk_of _ _ (by decide)
  have q4 : ∀ i, modOk i 2147483629 = true := fun i => modOk_of _ _ (by decide)
  have q5 : ∀ i, modOk i 2147483587 = true := fun i => modOk_of _ _ (by decide)
  have q6 : ∀ i, modOk i m = true := fun i => modOk_of _ _ h
  have f8 : ∀ i, fdivOk i 8 = true := fun i => fdivOk_of _ _ (by decide) (by decide)
  have m1 : ∀ i, mulOk i 69621 = true := fun i => mulOk_r _ _ (by decide) (by decide)
  have m2 : ∀ i, mulOk i 7919 = true := fun i => mulOk_r _ _ (by decide) (by decide)
  have m3 : ∀ i, mulOk i 48271 = true := fun i => mulOk_r _ _ (by decide) (by decide)
  have m4 : ∀ i, mulOk i 40692 = true := fun i => mulOk_r _ _ (by decide) (by decide)
  have bb := mod_cases (x := c * 69621 + (k + 1) * 7919 + 13) (show (0 : Int) < 2147483647 by decide)
  have m5 : mulOk ((c * 69621 + (k + 1) * 7919 + 13) % 2147483647) ((c * 69621 + (k + 1) * 7919 + 13) % 2147483647) = true := mulOk_l _ _ (by omega) (by omega)
  refine ⟨_, c, k + 1, Int.emod_nonneg _ (by omega), Int.emod_lt_of_pos (((((c * 69621 + (k + 1) * 7919 + 13) % 2147483647) * ((c * 69621 + (k + 1) * 7919 + 13) % 2147483647) % 2147483629) * 48271 + (k + 1) * 40692) % 2147483587 / 8) h, fun p => ?_⟩
  unfold m_Z16
  refine runG_rg ?_
  unfold b_Z16 startG RL
  simp_arith [hp, o1, c0, c1, hb, decide_false, if_true, q3, q4, q5, q6, f8, m1, m2, m3, m4, m5, n0, n1, mretG, mpu, List.set_cons_zero, List.set_cons_succ]
noncomputable abbrev Nx (c k m x c' k' : Int) : Prop := ∀ p, m_Z16 p (RL c k) [.int m] = some (.sh (.int x), RL c' k')
theorem next_env {p : Addr} {c k m x c' k' : Int} {e : ME} {tl : List (Option S)} (h : Nx c k m x c' k') (hx : e (some (.ob p (RL c k)) :: tl) = some (.int m)) : mcallG m_Z16 0 (apu (acons e anil)) (some (.ob p (RL c k)) :: tl) = some (.int x, some (.ob p (RL c' k')) :: tl) :=
 mcallG_ob (ρ := some (.ob p (RL c k)) :: tl) rfl (apu_ev (acons_ev hx anil_ev)) rfl (h p) rfl
theorem some_number_eq (c k kind : Int) : ∃ x c' k', ∀ p, m_Z0 p (RL c k) [.int kind] = some (.sh (.int x), RL c' k') := by
 have i2 : 0 + 1 + 1 <= sizeLine := le_size (by decide)
 have tst : ∀ (p : Addr) (j : Int), mtest (m2 eqSD (mvar 1) (mc (.int j))) [some (.ob p (RL c k)), some (.sh (.int kind))] = some (kind == j) := fun p j => by unfold mtest m2; rfl
 by_cases h0 : kind = 0
 ·obtain ⟨x, c1, k1, _, _, e⟩ := next_eq c k 4 (by decide) (by decide)
  refine ⟨x, c1, k1, fun p => ?_⟩
  unfold m_Z0 b_Z0
  refine runG_rg (seq_after (o := .rg (.int x) p (RL c1 k1)) ?_)
  show mif _ _ _ [some (.ob p (RL c k)), some (.sh (.int kind))] = _
  rw [mif_ev (tst p 0), show (kind == 0) = true by rw [h0]; rfl]
  exact mretG_ev (next_env e rfl) rfl
 ·have f0 : (kind == 0) = false := beq_eq_false_iff_ne.mpr h0
  by_cases h1 : kind = 1
  ·obtain ⟨x, c1, k1, _, _, e⟩ := next_eq c k 21 (by decide) (by decide)
   refine ⟨x - 10, c1, k1, fun p => ?_⟩
   unfold m_Z0 b_Z0
   refine runG_rg (seqI (ρ' := [some (.ob p (RL c k)), some (.sh (.int kind))]) ?_ (seq_after (o := .rg (.int (x - 10)) p (RL c1 k1)) ?_))
   ·show mif _ _ _ [some (.ob p (RL c k)), some (.sh (.int kind))] = _
    rw [mif_ev (tst p 0), f0]; rfl
   ·rw [mif_ev (tst p 1), show (kind == 1) = true by rw [h1]; rfl]
    exact mretG_ev (m2m_ev (next_env e rfl) (mpu_ev (d := .int 10) rfl) rfl) rfl
  ·have f1 : (kind == 1) = false := beq_eq_false_iff_ne.mpr h1
   by_cases h2 : kind = 2
   ·obtain ⟨x, c1, k1, _, _, e⟩ := next_eq c k 1001 (by decide) (by decide)
    refine ⟨x - 500, c1, k1, fun p => ?_⟩
    unfold m_Z0 b_Z0
    refine runG_rg (seqI (ρ' := [some (.ob p (RL c k)), some (.sh (.int kind))]) ?_ (seqI (ρ' := [some (.ob p (RL c k)), some (.sh (.int kind))]) ?_ (seq_after (o := .rg (.int (x - 500)) p (RL c1 k1)) ?_)))
    ·show mif _ _ _ [some (.ob p (RL c k)), some (.sh (.int kind))] = _
     rw [mif_ev (tst p 0), f0]; rfl
    ·rw [mif_ev (tst p 1), f1]; rfl
    ·rw [mif_ev (tst p 2), show (kind == 2) = true by rw [h2]; rfl]
     exact mretG_ev (m2m_ev (next_env e rfl) (mpu_ev (d := .int 500) rfl) rfl) rfl
   ·have f2 : (kind == 2) = false := beq_eq_false_iff_ne.mpr h2
    obtain ⟨x, c1, k1, l1, u1, e⟩ := next_eq c k 2 (by decide) (by decide)
    obtain ⟨y, c2, k2, l2, u2, e2⟩ := next_eq c1 k1 1000 (by decide) (by decide)
    obtain ⟨z, hz, hz2⟩ : ∃ z, atI [D.int (-1), .int 1] x = some (.int z) /\ (z = -1 \/ z = 1) := by
     have : x = 0 \/ x = 1 := by omega
     rcases this with h | h <;> subst h
     ·exact ⟨_, rfl, by simp⟩
     ·exact ⟨_, rfl, by simp⟩
    have mu : mulOk z (100000000000000000000000000000 + y) = true := mulOk_l _ _ (by omega) (by omega)
    refine ⟨z * (100000000000000000000000000000 + y), c2, k2, fun p => ?_⟩
    unfold m_Z0 b_Z0
    refine runG_rg (seqI (ρ' := [some (.ob p (RL c k)), some (.sh (.int kind))]) ?_ (seqI (ρ' := [some (.ob p (RL c k)), some (.sh (.int kind))]) ?_ (seqI (ρ' := [some (.ob p (RL c k)), some (.sh (.int kind))]) ?_ ?_)))
    ·show mif _ _ _ [some (.ob p (RL c k)), some (.sh (.int kind))] = _
     rw [mif_ev (tst p 0), f0]; rfl
    ·rw [mif_ev (tst p 1), f1]; rfl
    ·rw [mif_ev (tst p 2), f2]; rfl
    ·have p29 : (10 : Int) ^ (29 : Int).toNat = 100000000000000000000000000000 := by decide
     have o29 : powOk 10 29 = true := by decide
     refine mretG_ev (m2m_ev (m2m_ev (mpu_ev (mlst_ev (sized_ev (acons_ev (d := .int (-1)) rfl (acons_ev (d := .int 1) rfl anil_ev)) i2))) (next_env e rfl) (g := .int z) hz) (m2m_ev (mpu_ev (d := .int 100000000000000000000000000000) ?_) (next_env e2 rfl) (g := .int (100000000000000000000000000000 + y)) rfl) ?_) rfl
     ·simp_arith [p29, o29, if_true]
     ·show (if mulOk _ _ = true then _ else none) = _
      rw [if_pos mu]
end
section
open PySem L2
theorem mcompmB_ev {src : List (Option Nat)} {mi : ML} {i j : Nat} {elt : MEm} {ρ ρb : Ro} {rr : Addr} {r0 r1 its out : List D} (h0 : ρ[i]? = some (some (.ob rr r0))) (h1 : mi ρ = some its) (h2 : compDm elt its ((blkRo src ρ).set j (some (.own r0))) [] = some (out, ρb)) (h3 : ρb[j]? = some (some (.own r1))) : mcompmB src mi i j elt ρ = some (.lst out, ρ.set i (some (.ob rr r1))) := by
 unfold mcompmB
 rw [h0]; simp only; rw [h1]; simp only; rw [h2]; simp only; rw [h3]
theorem numbers_eq (kind : Int) : ∀ (its : List Int) (c k : Int) (o : Option S) (acc : List Int), acc.length + its.length <= 1000 -> ∃ (f : List Int) (c' k' : Int) (o' : Option S), f.length = acc.length + its.length /\
  compDm (mcallG m_Z0 1 (apu (acons (mvar 2) anil))) (its.map .int) [o, some (.own (RL c k)), some (.sh (.int kind))] (acc.map .int) = some (f.map .int, [o', some (.own (RL c' k')), some (.sh (.int kind))])
 | [], c, k, o, acc, _ => ⟨acc, c, k, o, by simp, rfl⟩
 | i :: its, c, k, o, acc, h => by
  obtain ⟨x, c1, k1, e⟩ := some_number_eq c k kind
  obtain ⟨f, c', k', o', hf, e2⟩ := numbers_eq kind its c1 k1 (some (.sh (.int i))) (acc ++ [x]) (by simp at h ⊢; omega)
  refine ⟨f, c', k', o', by rw [hf]; simp; omega, ?_⟩
  rw [List.map_cons, compDm]
  have e3 : mcallG m_Z0 1 (apu (acons (mvar 2) anil)) [some (.sh (.int i)), some (.own (RL c k)), some (.sh (.int kind))] = some (.int x, [some (.sh (.int i)), some (.own (RL c1 k1)), some (.sh (.int kind))]) :=
   mcallG_own (r0 := RL c k) (r2 := RL c k) rfl (apu_ev (acons_ev (d := .int kind) rfl anil_ev)) rfl e rfl
  show (match mcallG m_Z0 1 (apu (acons (mvar 2) anil)) [some (.sh (.int i)), some (.own (RL c k)), some (.sh (.int kind))] with | some (x, ρ1) => if (acc.map D.int).length < sizeLine then compDm _ (its.map .int) ρ1 (acc.map D.int ++ [x]) else none | none => none) = _
  rw [e3]
  have hz : (acc.map D.int).length < sizeLine := by
   have := size_big
   rw [List.length_map]; simp at h; omega
  simp only [hz, if_true]
  rw [List.map_append] at e2
  exact e2
theorem intsD_int (f : List Int) : intsD (f.map .int) = some f := intsD_map f
noncomputable def envW (p : Addr) (c k most kind many : Int) (f : List Int) (o5 : Option S) : Ro := [some (.ob p (RL c k)), some (.sh (.int most)), some (.sh (.int kind)), some (.sh (.int many)), some (.sh (.lst (f.map .int))), o5]
theorem row_change {p : Addr} {c k most kind many sh j : Int} {f g : List Int} {E : ME} (hE : sh = j -> E (envW p c k most kind many f (some (.sh (.int sh)))) = some (.lst (g.map .int))) :
  mif (mtest (m2 eqSD (mvar 5) (mc (.int j)))) (mset 4 E) mnext (envW p c k most kind many f (some (.sh (.int sh)))) = some (.nx (envW p c k most kind many (if sh = j then g else f) (some (.sh (.int sh))))) := by
 have ht : mtest (m2 eqSD (mvar 5) (mc (.int j))) (envW p c k most kind many f (some (.sh (.int sh)))) = some (sh == j) := by unfold mtest m2; rfl
 rw [mif_ev ht]
 by_cases h : sh = j
 ·rw [show (sh == j) = true by rw [h]; exact beq_self_eq_true _, if_pos h]
  exact (mset_ev (hE h)).trans rfl
 ·rw [beq_eq_false_iff_ne.mpr h, if_neg h]; rfl
theorem some_row_eq (c k : Int) (most : Nat) (hm : most < 60) : ∃ (f : List Int) (c' k' : Int), f.length <= most /\ ∀ p, m_Z8 p (RL c k) [.int (most : Int)] = some (.sh (.lst (f.map .int)), RL c' k') := by
 have i2 : 0 + 1 + 1 <= sizeLine := le_size (by decide)
 have i3 : 0 + 1 + 1 + 1 <= sizeLine := le_size (by decide)
 obtain ⟨kind, c1, k1, _, _, e1⟩ := next_eq c k 4 (by decide) (by decide)
 obtain ⟨w, c2, k2, l2, u2, e2⟩ := next_eq c1 k1 3 (by decide) (by decide)
 obtain ⟨m, hm1, hm2⟩ := at3 (min 4 ((most : Int) + 1)) (min 9 ((most : Int) + 1)) ((most : Int) + 1) w l2 u2
 obtain ⟨many, c3, k3, l3, u3, e3⟩ := next_eq c2 k2 m (by omega) (by omega)
 obtain ⟨n, rfl⟩ := nat_of l3
 obtain ⟨f, c4, k4, o', hf, e4⟩ := numbers_eq kind ((List.range n).map fun (i : Nat) => (i : Int)) c3 k3 none [] (by simp; omega)
 obtain ⟨sh, c5, k5, _, _, e5⟩ := next_eq c4 k4 6 (by decide) (by decide)
 have hfl : f.length = n := by simpa using hf
 let f1 : List Int := if sh = 0 then isort f else f
 have l1 : f1.length = n := by
  show (if sh = 0 then isort f else f).length = n
  split
  ·rw [isort_length, hfl]
  ·exact hfl
 let g2 : List Int := (List.range f1.length).map fun (i : Nat) => f1.getD i 0 + (if (i : Int) % 2 = 0 then 7 else -7)
 let f2 : List Int := if sh = 1 then g2 else f1
 have l2' : f2.length = n := by
  show (if sh = 1 then g2 else f1).length = n
  split
  ·show (List.map _ (List.range f1.length)).length = n
   rw [List.length_map, List.length_range, l1]
  ·exact l1
 let g3 : List Int := (List.replicate n (f2.take 1)).flatten
 let f3 : List Int := if sh = 2 then g3 else f2
 have l3' : f3.length <= n := by
  show (if sh = 2 then g3 else f2).length <= n
  split
  ·show (List.replicate n (f2.take 1)).flatten.length <= n
   rw [List.length_flatten, List.map_replicate, List.sum_replicate_nat, List.length_take]
   exact Nat.le_trans (Nat.mul_le_mul_left n (Nat.min_le_left 1 _)) (by omega)
  ·omega
 refine ⟨f3, c5, k5, by omega, fun p => ?_⟩
 unfold m_Z8 b_Z8
 refine runG_rg ?_
 refine seqI (ρ' := [some (.ob p (RL c1 k1)), some (.sh (.int (most : Int))), some (.sh (.int kind)), none, none, none]) ((msetm_ev (next_env (tl := [some (.sh (.int (most : Int))), none, none, none, none]) e1 rfl)).trans rfl) ?_
 refine seqI (ρ' := [some (.ob p (RL c3 k3)), some (.sh (.int (most : Int))), some (.sh (.int kind)), some (.sh (.int (n : Int))), none, none]) ?_ ?_
 ·have q1 : sized (acons (call1 min2F (acons (mc (.int 4)) (acons (m2 addD (mvar 1) (mc (.int 1))) anil))) (acons (call1 min2F (acons (mc (.int 9)) (acons (m2 addD (mvar 1) (mc (.int 1))) anil))) (acons (m2 addD (mvar 1) (mc (.int 1))) anil))) [some (.ob p (RL c1 k1)), some (.sh (.int (most : Int))), some (.sh (.int kind)), none, none, none] = some [.int (min 4 ((most : Int) + 1)), .int (min 9 ((most : Int) + 1)), .int ((most : Int) + 1)] := by
   simp_arith [min_if, i3, if_true]
  refine (msetm_ev (ρ1 := [some (.ob p (RL c3 k3)), some (.sh (.int (most : Int))), some (.sh (.int kind)), none, none, none]) (mcallG_ob (ρ1 := [some (.ob p (RL c2 k2)), some (.sh (.int (most : Int))), some (.sh (.int kind)), none, none, none]) (p := p) (r2 := RL c1 k1) rfl (aconsm_ev (m2m_ev (mpu_ev (mlst_ev q1)) (next_env (tl := [some (.sh (.int (most : Int))), some (.sh (.int kind)), none, none, none]) e2 rfl) (g := .int m) hm1) (apu_ev anil_ev)) rfl (e3 p) rfl)).trans rfl
 have kn : okR (n : Int) = true := okR_of (by omega) (by omega)
 refine seqI (ρ' := envW p c4 k4 most kind n f none) ?_ ?_
 ·refine (msetm_ev (mcompmB_ev (ρ := [some (.ob p (RL c3 k3)), some (.sh (.int (most : Int))), some (.sh (.int kind)), some (.sh (.int (n : Int))), none, none]) (rr := p) (r0 := RL c3 k3) (r1 := RL c4 k4) rfl (its := ((List.range n).map fun (i : Nat) => (i : Int)).map .int) ?_ (out := f.map .int) (ρb := [o', some (.own (RL c4 k4)), some (.sh (.int kind))]) e4 rfl)).trans rfl
  unfold mlist
  rw [acons_ev (d := .int (n : Int)) rfl anil_ev, Option.bind_some, rng1_ok kn, Int.toNat_natCast, rangeD_li]
 refine seqI (ρ' := envW p c5 k5 most kind n f (some (.sh (.int sh)))) ((msetm_ev (next_env (tl := [some (.sh (.int (most : Int))), some (.sh (.int kind)), some (.sh (.int (n : Int))), some (.sh (.lst (f.map .int))), none]) e5 rfl)).trans rfl) ?_
 refine seqI (row_change (g := isort f) fun _ => ?_) ?_
 ·refine mlst_ev ?_
  unfold msorted
  show (match intsD (f.map D.int) with | some ns => if ns.length < 64 then some ((isort ns).map D.int) else none | none => none) = _
  rw [intsD_int]
  show (if f.length < 64 then some ((isort f).map D.int) else none) = _
  rw [if_pos (by omega)]
 show mseq _ _ (envW p c5 k5 most kind n f1 (some (.sh (.int sh)))) = _
 refine seqI (row_change (g := g2) fun _ => ?_) ?_
 ·refine mlst_ev ?_
  unfold mcomp
  have ee : mlist enum1 (acons (mvar 4) anil) (envW p c5 k5 most kind n f1 (some (.sh (.int sh)))) = some ((List.range f1.length).map fun (i : Nat) => D.tup [.int (i : Int), .int (f1.getD i 0)]) := by
   unfold mlist
   rw [acons_ev (x := mvar 4) (d := .lst (f1.map .int)) rfl anil_ev, Option.bind_some]
   show some (enumL 0 (f1.map .int)) = _
   rw [enumL_map]
   simp only [Nat.zero_add]
  rw [ee, Option.bind_some]
  refine (compD_map (f := fun (i : Nat) => D.tup [.int (i : Int), .int (f1.getD i 0)]) (G := fun (i : Nat) => D.int (f1.getD i 0 + (if (i : Int) % 2 = 0 then 7 else -7))) (fun _ ρ => ∃ x y, ρ = [x, y]) (by
   rintro i ds ρ ⟨x, y, rfl⟩
   refine ⟨[some (.sh (.int (i : Int))), some (.sh (.int (f1.getD i 0)))], rfl, rfl, ?_, _, _, rfl⟩
   have ix : mix (sized (acons (mc (.int 7)) (acons (m1 negD (mc (.int 7))) anil))) (m2 modD (mvar 0) (mc (.int 2))) [some (.sh (.int (i : Int))), some (.sh (.int (f1.getD i 0)))] = some (.int (if (i : Int) % 2 = 0 then 7 else -7)) := by
    refine mix_ev (sized_ev (acons_ev (d := .int 7) rfl (acons_ev (d := .int (-7)) rfl anil_ev)) i2) (k := (i : Int) % 2) ?_ ?_
    ·simp_arith [modOk_of (i : Int) 2 (by decide), if_true]
    ·have := mod_cases (x := (i : Int)) (show (0 : Int) < 2 by decide)
     have : (i : Int) % 2 = 0 \/ (i : Int) % 2 = 1 := by omega
     rcases this with h | h
     ·rw [h]; rfl
     ·rw [h]; rfl
   rw [m2_at2 (a := .int (f1.getD i 0)) rfl ix]; rfl) (List.range f1.length) _ [] ⟨none, none, rfl⟩ (le_size (by simp; omega))).trans ?_
  rw [List.nil_append]
  show some _ = some (List.map D.int (List.map _ (List.range f1.length)))
  rw [List.map_map]
  rfl
 show mseq _ _ (envW p c5 k5 most kind n f2 (some (.sh (.int sh)))) = _
 refine seqI (row_change (g := g3) fun _ => ?_) ?_
 ·refine mlst_ev ?_
  have ec : mcut (bvar 4) onone (osome (mc (.int 1))) (envW p c5 k5 most kind n f2 (some (.sh (.int sh)))) = some ((f2.take 1).map .int) := by
   unfold mcut
   show some (cutL (f2.map D.int) none (some 1)) = _
   rw [cutL_map]
   exact congrArg (fun z => some (List.map D.int z)) (cutI_to f2 1)
  have hl1 : ((f2.take 1).map D.int).length <= 1 := by rw [List.length_map, List.length_take]; omega
  have big := size_big
  rw [mrep_ev ec (k := (n : Int)) rfl (by
   unfold repOk
   simp only [Bool.and_eq_true, decide_eq_true_eq]
   refine ⟨⟨by omega, by omega⟩, ?_⟩
   rw [Int.toNat_natCast]
   exact Nat.le_trans (Nat.mul_le_mul_right n hl1) (by omega)), Int.toNat_natCast]
  show some _ = some (List.map D.int (List.replicate n (f2.take 1)).flatten)
  rw [List.map_flatten, List.map_replicate]
 show mretG 0 (mpu (mvar 4)) (envW p c5 k5 most kind n f3 (some (.sh (.int sh)))) = _
 exact mretG_ev (mpu_ev (d := .lst (f3.map .int)) rfl) rfl
theorem some_step_eq (c k : Int) : ∃ (s c' k' : Int), 1 <= s /\ s <= 100000000000000000000000000000 /\ ∀ p, m_Z5 p (RL c k) [] = some (.sh (.int s), RL c' k') := by
 have i5 : 0 + 1 + 1 + 1 + 1 + 1 <= sizeLine := le_size (by decide)
 obtain ⟨x, c1, k1, l1, u1, e1⟩ := next_eq c k 4 (by decide) (by decide)
 obtain ⟨y, c2, k2, l2, u2, e2⟩ := next_eq c1 k1 40 (by decide) (by decide)
 obtain ⟨z, c3, k3, l3, u3, e3⟩ := next_eq c2 k2 5 (by decide) (by decide)
 have p29 : (10 : Int) ^ (29 : Int).toNat = 100000000000000000000000000000 := by decide
 have o29 : powOk 10 29 = true := by decide
 obtain ⟨s, hs, hs2⟩ : ∃ s, atI [D.int 1, .int 1, .int (1 + x), .int (1 + y), .int 100000000000000000000000000000] z = some (.int s) /\ (1 <= s /\ s <= 100000000000000000000000000000) := by
  have : z = 0 \/ z = 1 \/ z = 2 \/ z = 3 \/ z = 4 := by omega
  rcases this with h | h | h | h | h <;> subst h <;> exact ⟨_, rfl, by omega⟩
 refine ⟨s, c3, k3, hs2.1, hs2.2, fun p => ?_⟩
 unfold m_Z5 b_Z5
 refine runG_rg (mretG_ev (m2m_ev (mlstm_ev (aconsm_ev (mpu_ev (d := .int 1) rfl) (aconsm_ev (mpu_ev (d := .int 1) rfl) (aconsm_ev (m2m_ev (mpu_ev (d := .int 1) rfl) (next_env (tl := []) e1 rfl) (g := .int (1 + x)) rfl) (aconsm_ev (m2m_ev (mpu_ev (d := .int 1) rfl) (next_env (tl := []) e2 rfl) (g := .int (1 + y)) rfl) (apu_ev (acons_ev (d := .int 100000000000000000000000000000) ?_ anil_ev)))))) i5) (next_env (tl := []) e3 rfl) (g := .int s) hs) rfl)
 simp_arith [p29, o29, if_true]
end
section
open PySem L2
theorem refuse_no (s : Int) (h : s < 1) : m_Z13 [.int s] = none := by
 unfold m_Z13 b_Z13
 refine runB_no ?_
 rw [mif_ev (tLt_ev (i := s) (k := 1) rfl rfl), decide_eq_true h]; rfl
theorem refuse_x (s : Int) (h : s < 1) : xm_Z13 [.int s] = some ("NoStep" : Str) := by
 unfold xm_Z13 bx_Z13
 refine runX_ev (ρ := startS 1 [.int s]) ?_
 rw [xif_ev (tLt_ev (i := s) (k := 1) rfl rfl), decide_eq_true h]
 exact xraise_ev (acons_ev rfl anil_ev)
noncomputable abbrev hd2 (r : D) (s : Int) (tl : List (Option S)) : Ro := some (.sh r) :: some (.sh (.int s)) :: tl
end
section
open PySem L2
section
variable (r : D) (s : Int) (tl : List (Option S))
theorem head_no (h : s < 1) (y : MS) : mseq (mexpr (mcall m_Z13 (acons (mvar 1) anil))) y (hd2 r s tl) = none := mseq_no (mexpr_no (mcall_no (acons_ev (d := .int s) rfl anil_ev) (refuse_no s h)))
theorem head_yes (h : 1 <= s) (y : MS) : mseq (mexpr (mcall m_Z13 (acons (mvar 1) anil))) y (hd2 r s tl) = y (hd2 r s tl) := seqI (mexpr_ev (mcall_sh (acons_ev (d := .int s) rfl anil_ev) (refuse_step_eq s h))) rfl
theorem headx (h : s < 1) : xE (xcall xm_Z13 (acons (mvar 1) anil)) (hd2 r s tl) = some (("NoStep" : Str), hd2 r s tl) := xE_ev (xcall_ev (acons_ev (d := .int s) rfl anil_ev) (refuse_x s h))
theorem headx_no (h : s < 1) (y : MXs) : xseq (mexpr (mcall m_Z13 (acons (mvar 1) anil))) (xE (xcall xm_Z13 (acons (mvar 1) anil))) y (hd2 r s tl) = some (("NoStep" : Str), hd2 r s tl) := (xseq_x (mexpr_no (mcall_no (acons_ev (d := .int s) rfl anil_ev) (refuse_no s h)))).trans (headx r s tl h)
theorem headx_yes (h : 1 <= s) (x y : MXs) : xseq (mexpr (mcall m_Z13 (acons (mvar 1) anil))) x y (hd2 r s tl) = y (hd2 r s tl) := xseq_nx (mexpr_ev (mcall_sh (acons_ev (d := .int s) rfl anil_ev) (refuse_step_eq s h)))
end
section
variable (r : D) (s u : Int)
theorem turning_s (h : s < 1) : m_Z1 [r, .int s, .int u] = none /\ xm_Z1 [r, .int s, .int u] = some ("NoStep" : Str) := ⟨by unfold m_Z1 b_Z1; exact runB_no (head_no r s _ h _), by unfold xm_Z1 bx_Z1; exact runX_ev (headx_no r s _ h _)⟩
theorem fewest_s (h : s < 1) : m_Z10 [r, .int s, .int u] = none /\ xm_Z10 [r, .int s, .int u] = some ("NoStep" : Str) := ⟨by unfold m_Z10 b_Z10; exact runB_no (head_no r s _ h _), by unfold xm_Z10 bx_Z10; exact runX_ev (headx_no r s _ h _)⟩
theorem kept_s (h : s < 1) : m_Z3 [r, .int s] = none /\ xm_Z3 [r, .int s] = some ("NoStep" : Str) := ⟨by unfold m_Z3 b_Z3; exact runB_no (head_no r s _ h _), by unfold xm_Z3 bx_Z3; exact runX_ev (headx r s _ h)⟩
theorem low_test (tl : List (Option S)) (h : u < 0) : mtest (m2 ltD (mvar 2) (mc (.int 0))) (hd2 r s (some (.sh (.int u)) :: tl)) = some true := by
 rw [tLt_ev (i := u) (k := 0) rfl rfl, decide_eq_true h]
theorem turning_n (h : 1 <= s) (hu : u < 0) : m_Z1 [r, .int s, .int u] = none /\ xm_Z1 [r, .int s, .int u] = some ("NoNumber" : Str) := by
 constructor
 ·unfold m_Z1 b_Z1
  refine runB_no ((head_yes r s _ h _).trans (mseq_no ((mif_ev (low_test r s u [none, none, none] hu)).trans rfl)))
 ·unfold xm_Z1 bx_Z1
  refine runX_ev (ρ := hd2 r s [some (.sh (.int u)), none, none, none]) ((headx_yes r s [some (.sh (.int u)), none, none, none] h _ _).trans ?_)
  rw [xif_ev (low_test r s u [none, none, none] hu)]
  exact xraise_ev (acons_ev rfl anil_ev)
theorem fewest_n (h : 1 <= s) (hu : u < 0) : m_Z10 [r, .int s, .int u] = none /\ xm_Z10 [r, .int s, .int u] = some ("NoNumber" : Str) := by
 constructor
 ·unfold m_Z10 b_Z10
  refine runB_no ((head_yes r s _ h _).trans (mseq_no ((mif_ev (low_test r s u [none, none] hu)).trans rfl)))
 ·unfold xm_Z10 bx_Z10
  refine runX_ev (ρ := hd2 r s [some (.sh (.int u)), none, none]) ((headx_yes r s [some (.sh (.int u)), none, none] h _ _).trans ?_)
  refine (xseq_x ((mif_ev (low_test r s u [none, none] hu)).trans rfl)).trans ?_
  rw [xif_ev (low_test r s u [none, none] hu)]
  exact xraise_ev (acons_ev rfl anil_ev)
end
noncomputable def fl8 (j : Nat) : List Bool := (List.range 8).map (· == j)
noncomputable def fB (b : Bool) : Nat := if b then 0 else 1
noncomputable def fN (b : Bool) : Str := if b then "NoStep" else "NoNumber"
theorem flags_eq (b : Bool) : m_Z14 [.exc (fN b)] = some (.fr ((fl8 (fB b)).map .bl)) := by
 unfold m_Z14 b_Z14
 refine runB_rf ?_
 have x : ∀ {o : Option S} {t1 t2 : Bool}, misX [("NoNumber", t1), ("NoStep", t2)] (mvar 0) [some (.sh (.exc (fN b))), o] = some (.bl (if b then t2 else t1)) := fun {o t1 t2} => by
  refine misX_ev (c := fN b) rfl ?_
  cases b <;> rfl
 have i4 : 0 + 1 + 1 + 1 + 1 <= sizeLine := le_size (by decide)
 have i3 : 0 + 1 + 1 + 1 <= sizeLine := le_size (by decide)
 have i1 : 0 + 1 <= sizeLine := le_size (by decide)
 have big := size_big
 refine seqI (ρ' := [some (.sh (.exc (fN b))), some (.sh (.lst ([b, !b, false, false].map .bl)))]) ((mset_ev (mlst_ev (sized_ev (acons_ev x (acons_ev x (acons_ev x (acons_ev x anil_ev)))) i4))).trans (by cases b <;> rfl)) ?_
 refine seqI (ρ' := [some (.sh (.exc (fN b))), some (.sh (.lst ([b, !b, false, false, false, false, false].map .bl)))]) ((mset_ev (mlst_ev (mcat_ev (ds := [b, !b, false, false].map .bl) rfl (sized_ev (acons_ev x (acons_ev x (acons_ev x anil_ev))) i3) (by simp; omega)))).trans (by cases b <;> rfl)) ?_
 have nn : m1 notD (misX [("NoNumber", true), ("NoStep", true)] (mvar 0)) [some (.sh (.exc (fN b))), some (.sh (.lst ([b, !b, false, false, false, false, false].map .bl)))] = some (.bl false) := by
  unfold m1; rw [x]; cases b <;> rfl
 unfold mretF
 rw [mcat_ev (ds := [b, !b, false, false, false, false, false].map .bl) rfl (sized_ev (acons_ev nn anil_ev) i1) (by simp; omega)]
 cases b <;> rfl
noncomputable abbrev envA (d : Int) (row : List Int) (s u : Int) (h f o : Option S) : Ro := [some (.sh (.int d)), some (.sh (RI row)), some (.sh (.int s)), some (.sh (.int u)), h, f, o]
theorem eq_self (row : List Int) : eqFD false (RI row) (RI row) = some (.bl true) := by
 unfold eqFD
 rw [eqF_li 6]; rfl
theorem refused_end {row : List Int} {d s u : Int} {bs : List Bool} {o : Option S} (hb : bs.length <= 8) : mretF (mrep (ovar 5) (call1 intF (acons (meqB false (bvar 4) (bvar 1)) anil))) (envA d row s u (some (.sh (RI row))) (some (.own (bs.map .bl))) o) = some (.rf (bs.map .bl)) := by
 have e1 : meqB false (bvar 4) (bvar 1) (envA d row s u (some (.sh (RI row))) (some (.own (bs.map .bl))) o) = some (.bl true) := by
  unfold meqB
  exact eq_self row
 have e2 : call1 intF (acons (meqB false (bvar 4) (bvar 1)) anil) (envA d row s u (some (.sh (RI row))) (some (.own (bs.map .bl))) o) = some (.int 1) := by
  unfold call1; rw [acons_ev e1 anil_ev]; rfl
 have big := size_big
 unfold mretF
 rw [mrep_ev (ds := bs.map .bl) rfl e2 (by
  unfold repOk
  simp only [Bool.and_eq_true, decide_eq_true_eq]
  refine ⟨⟨by decide, by decide⟩, ?_⟩
  rw [List.length_map]
  show bs.length * 1 <= _
  omega)]
 show some (Out.rf (List.replicate 1 (bs.map D.bl)).flatten) = _
 simp
section
variable (row : List Int) (s u : Int)
noncomputable def callD (d : Nat) : Option Rt := match d with | 0 => m_Z1 [RI row, .int s, .int u] | 1 => m_Z10 [RI row, .int s, .int u] | _ => m_Z3 [RI row, .int s]
noncomputable def callX (d : Nat) : Option Str := match d with | 0 => xm_Z1 [RI row, .int s, .int u] | 1 => xm_Z10 [RI row, .int s, .int u] | _ => xm_Z3 [RI row, .int s]
theorem chain3 (i : Int) (A B C : MS) (h f o : Option S) : mif (mtest (m2 eqSD (mvar 0) (mc (.int 0)))) A (mif (mtest (m2 eqSD (mvar 0) (mc (.int 1)))) B C) (envA i row s u h f o) = (if i == 0 then A else if i == 1 then B else C) (envA i row s u h f o) := by
 rw [mif_ev (tI_ev (i := i) rfl)]
 cases i == 0 with
 | true => rfl
 | false =>
  show mif _ _ _ _ = _
  rw [mif_ev (tI_ev (i := i) rfl)]
  cases i == 1 <;> rfl
theorem chainx3 (i : Int) (A B C : MXs) (h f o : Option S) : xif (mtest (m2 eqSD (mvar 0) (mc (.int 0)))) A (xif (mtest (m2 eqSD (mvar 0) (mc (.int 1)))) B C) (envA i row s u h f o) = (if i == 0 then A else if i == 1 then B else C) (envA i row s u h f o) := by
 rw [xif_ev (tI_ev (i := i) rfl)]
 cases i == 0 with
 | true => rfl
 | false =>
  show xif _ _ _ _ = _
  rw [xif_ev (tI_ev (i := i) rfl)]
  cases i == 1 <;> rfl
theorem args3 (d : Int) (f o : Option S) : acons (mvar 4) (acons (mvar 2) (acons (mvar 3) anil)) (envA d row s u (some (.sh (RI row))) f o) = some [RI row, .int s, .int u] := acons_ev (d := RI row) rfl (acons_ev (d := .int s) rfl (acons_ev (d := .int u) rfl anil_ev))
theorem args2 (d : Int) (f o : Option S) : acons (mvar 4) (acons (mvar 2) anil) (envA d row s u (some (.sh (RI row))) f o) = some [RI row, .int s] := acons_ev (d := RI row) rfl (acons_ev (d := .int s) rfl anil_ev)
theorem mcall_some {f : MF} {m : ML} {ρ : Ro} {ds : List D} {t : Rt} (h : m ρ = some ds) (h2 : f ds = some t) : ∃ d, mcall f m ρ = some d := by
 cases t with
 | sh d => exact ⟨_, mcall_sh h h2⟩
 | fr es => exact ⟨_, mcall_fr h h2⟩
 | pr d es => exact ⟨_, mcall_pr h h2⟩
theorem refused_good (d : Nat) (hd : d < 3) {t : Rt} (h : callD row s u d = some t) : m_Z12 [.int (d : Int), RI row, .int s, .int u] = some (.fr []) := by
 unfold m_Z12 b_Z12
 refine runB_rf ?_
 refine seqI (ρ' := envA d row s u (some (.sh (RI row))) none none) rfl ?_
 refine seqI (ρ' := envA d row s u (some (.sh (RI row))) (some (.own [])) none) (by unfold msetF; rw [sized_ev anil_ev (Nat.zero_le _)]; rfl) ?_
 refine seqI (ρ' := envA d row s u (some (.sh (RI row))) (some (.own [])) none) (try_ok ?_) (refused_end (bs := []) (by simp))
 rw [chain3]
 match d, hd, h with
 | 0, _, h =>
  obtain ⟨x, e⟩ := mcall_some (f := m_Z1) (args3 row s u ((0 : Nat) : Int) (some (.own [])) none) h
  exact mexpr_ev e
 | 1, _, h =>
  obtain ⟨x, e⟩ := mcall_some (f := m_Z10) (args3 row s u ((1 : Nat) : Int) (some (.own [])) none) h
  exact mexpr_ev e
 | 2, _, h =>
  obtain ⟨x, e⟩ := mcall_some (f := m_Z3) (args2 row s u ((2 : Nat) : Int) (some (.own [])) none) h
  exact mexpr_ev e
theorem refused_bad (d : Nat) (hd : d < 3) (b : Bool) (h : callD row s u d = none) (hx : callX row s u d = some (fN b)) : m_Z12 [.int (d : Int), RI row, .int s, .int u] = some (.fr ((fl8 (fB b)).map .bl)) := by
 unfold m_Z12 b_Z12
 refine runB_rf ?_
 refine seqI (ρ' := envA d row s u (some (.sh (RI row))) none none) rfl ?_
 refine seqI (ρ' := envA d row s u (some (.sh (RI row))) (some (.own [])) none) (by unfold msetF; rw [sized_ev anil_ev (Nat.zero_le _)]; rfl) ?_
 refine seqI (ρ' := envA d row s u (some (.sh (RI row))) (some (.own ((fl8 (fB b)).map .bl))) none) ((try_x (ρ1 := envA d row s u (some (.sh (RI row))) (some (.own [])) none) (c := fN b) (ρ2 := envA d row s u (some (.sh (RI row))) (some (.own ((fl8 (fB b)).map .bl))) (some (.sh (.exc (fN b))))) ?_ ?_ ?_ ?_).trans rfl) (refused_end (by cases b <;> decide))
 ·rw [chain3]
  match d, hd, h with
  | 0, _, h => exact mexpr_no (mcall_no (args3 row s u ((0 : Nat) : Int) (some (.own [])) none) h)
  | 1, _, h => exact mexpr_no (mcall_no (args3 row s u ((1 : Nat) : Int) (some (.own [])) none) h)
  | 2, _, h => exact mexpr_no (mcall_no (args2 row s u ((2 : Nat) : Int) (some (.own [])) none) h)
 ·rw [chainx3]
  match d, hd, hx with
  | 0, _, h => exact xE_ev (xcall_ev (args3 row s u ((0 : Nat) : Int) (some (.own [])) none) h)
  | 1, _, h => exact xE_ev (xcall_ev (args3 row s u ((1 : Nat) : Int) (some (.own [])) none) h)
  | 2, _, h => exact xE_ev (xcall_ev (args2 row s u ((2 : Nat) : Int) (some (.own [])) none) h)
 ·cases b <;> decide
 ·unfold msetF
  have : mcallF m_Z14 (acons (mvar 6) anil) ((envA d row s u (some (.sh (RI row))) (some (.own [])) none).set 6 (some (.sh (.exc (fN b))))) = some ((fl8 (fB b)).map .bl) := by
   unfold mcallF
   rw [acons_ev (d := .exc (fN b)) rfl anil_ev, Option.bind_some, flags_eq]
  rw [this]; rfl
end
end
section
open PySem L2
theorem mtest_bl {x : ME} {ρ : Ro} {b : Bool} (h : x ρ = some (.bl b)) : mtest x ρ = some b := by unfold mtest; rw [h]
theorem pots_comp : ∀ (xs : List Int) (o : Option S) (acc : List Int), acc.length + xs.length <= 1000 -> compP (.nm 0) (sized (acons (mvar 0) (acons (mc (.int 0)) anil))) (xs.map .int) [o] (acc.map fun c => RL c 0) = some ((acc ++ xs).map fun c => RL c 0)
 | [], o, acc, _ => by rw [List.append_nil]; rfl
 | x :: xs, o, acc, h => by
  have i2 : 0 + 1 + 1 <= sizeLine := le_size (by decide)
  have big := size_big
  rw [List.map_cons, compP]
  show (match sized (acons (mvar 0) (acons (mc (.int 0)) anil)) [some (.sh (.int x))] with | some ds => if (acc.map fun c => RL c 0).length < sizeLine then compP _ _ (xs.map .int) [some (.sh (.int x))] ((acc.map fun c => RL c 0) ++ [ds]) else none | none => none) = _
  rw [sized_ev (acons_ev (d := .int x) rfl (acons_ev (d := .int 0) rfl anil_ev)) i2]
  have hz : (acc.map fun c => RL c 0).length < sizeLine := by rw [List.length_map]; simp at h; omega
  simp only [hz, if_true]
  have := pots_comp xs (some (.sh (.int x))) (acc ++ [x]) (by simp at h ⊢; omega)
  rw [List.map_append, List.append_assoc] at this
  exact this
theorem pots_eq (xs : List Int) (h : xs.length <= 63) : ∃ cs : List Int, m_law_pots [.lst (xs.map .int)] = some (cs.map fun c => RL c 0) := by
 unfold m_law_pots runP
 have i2 : 0 + 1 + 1 <= sizeLine := le_size (by decide)
 have e0 : mtest (m2 eqSD (mlen (bvar 0)) (mc (.int 0))) (startS 1 [.lst (xs.map .int)]) = some ((xs.length : Int) == 0) := by
  rw [tI_ev (i := (xs.length : Int)) (by rw [mlen_ev (show bvar 0 _ = some (xs.map .int) from rfl), List.length_map])]
 rw [e0]
 cases hb : ((xs.length : Int) == 0) with
 | true =>
  refine ⟨[0], ?_⟩
  show mlst1 _ _ = _
  unfold mlst1
  rw [sized_ev (acons_ev (d := .int 0) rfl (acons_ev (d := .int 0) rfl anil_ev)) i2]
  rfl
 | false =>
  refine ⟨cutI xs none (some 63), ?_⟩
  show mcompP _ _ _ _ _ = _
  unfold mcompP
  have c1 : aslst (mlst (mcut (bvar 0) onone (osome (mc (.int 63))))) (startS 1 [.lst (xs.map .int)]) = some ((cutI xs none (some 63)).map .int) := by
   refine aslst_ev (mlst_ev ?_)
   unfold mcut
   exact congrArg some (cutL_map D.int xs none (some 63))
  rw [c1, Option.bind_some]
  have := cutI_len xs none (some 63)
  exact pots_comp (cutI xs none (some 63)) none [] (by simp; omega)
theorem forP_all {j : Nat} {body : MS} (I : Ro -> Prop) (hs : ∀ c ρ, I ρ -> ∃ ρ', body (ρ.set j (some (.own (RL c 0)))) = some (.nx ρ') /\ I ρ') : ∀ (cs : List Int) (ρ : Ro), I ρ -> ∃ ρ', forP j body (cs.map fun c => RL c 0) ρ = some (.nx ρ') /\ I ρ'
 | [], ρ, h => ⟨ρ, rfl, h⟩
 | c :: cs, ρ, h => by
  obtain ⟨ρ1, e1, h1⟩ := hs c ρ h
  obtain ⟨ρ2, e2, h2⟩ := forP_all I hs cs ρ1 h1
  refine ⟨ρ2, ?_, h2⟩
  rw [List.map_cons, forP, e1]
  exact e2
noncomputable abbrev envL (scr : D) (r : List D) (row : List Int) (far good : Int) (o5 o6 o7 : Option S) : Ro := [some (.sh scr), some (.own r), some (.sh (RI row)), some (.sh (.int far)), some (.sh (.int good)), o5, o6, o7]
theorem due_eq (j : Nat) (hj : j < 8) (ρ : Ro) : mcomp [none] (mlist rng1 (acons (mc (.int 8)) anil)) (.nm 0) cyes (m2 eqSD (mvar 0) (mc (.int (j : Int)))) ρ = some ((fl8 j).map .bl) := by
 unfold mcomp
 have e1 : mlist rng1 (acons (mc (.int 8)) anil) ρ = some ((List.range 8).map dN) := by
  unfold mlist
  rw [acons_ev (d := .int 8) rfl anil_ev, Option.bind_some, rng1_ok (show okR 8 = true by decide)]
  rfl
 rw [e1, Option.bind_some]
 refine (compD_map (f := dN) (G := fun k => D.bl (k == j)) (fun _ ρ => ∃ o, ρ = [o]) (by
  rintro k ks ρ ⟨o, rfl⟩
  refine ⟨[some (.sh (dN k))], rfl, rfl, ?_, _, rfl⟩
  rw [m2_at2 (a := dN k) (b := .int (j : Int)) rfl rfl]
  show some (D.bl ((k : Int) == (j : Int))) = _
  have : ((k : Int) == (j : Int)) = (k == j) := by rw [Bool.eq_iff_iff, beq_iff_eq, beq_iff_eq]; omega
  rw [this]) (List.range 8) _ [] ⟨none, rfl⟩ (le_size (by simp))).trans ?_
 unfold fl8
 rw [List.nil_append, List.map_map]
 rfl
theorem eq_fl8 (j : Nat) (hj : j < 8) : eqFD true (.lst ((fl8 j).map .bl)) (.lst ((fl8 j).map .bl)) = some (.bl false) := by
 match j, hj with
 | 0, _ => rfl
 | 1, _ => rfl
 | 2, _ => rfl
 | 3, _ => rfl
 | 4, _ => rfl
 | 5, _ => rfl
 | 6, _ => rfl
 | 7, _ => rfl
theorem told_due {ρ : Ro} {m : ML} {ds : List D} (j : Nat) (hj : j < 8) (h1 : m ρ = some ds) (h2 : m_Z12 ds = some (.fr ((fl8 j).map .bl))) :
  mtest (meqB true (aslst (mcall m_Z12 m)) (mcomp [none] (mlist rng1 (acons (mc (.int 8)) anil)) (.nm 0) cyes (m2 eqSD (mvar 0) (mc (.int (j : Int)))))) ρ = some false := by
 refine mtest_bl ?_
 unfold meqB
 rw [aslst_ev (mcall_fr h1 h2), due_eq j hj]
 exact eq_fl8 j hj
variable {scr : D} {r : List D} {row : List Int} {far good : Int}
theorem bad_step (s u : Int) (hs : s < 1) (d : Nat) (hd : d < 3) : m_Z12 [.int (d : Int), RI row, .int s, .int u] = some (.fr ((fl8 0).map .bl)) := by
 match d, hd with
 | 0, hd => exact refused_bad row s u 0 hd true (turning_s (RI row) s u hs).1 (turning_s (RI row) s u hs).2
 | 1, hd => exact refused_bad row s u 1 hd true (fewest_s (RI row) s u hs).1 (fewest_s (RI row) s u hs).2
 | 2, hd => exact refused_bad row s u 2 hd true (kept_s (RI row) s hs).1 (kept_s (RI row) s hs).2
theorem bad_number (s u : Int) (hs : 1 <= s) (hu : u < 0) (d : Nat) (hd : d < 2) : m_Z12 [.int (d : Int), RI row, .int s, .int u] = some (.fr ((fl8 1).map .bl)) := by
 match d, hd with
 | 0, hd => exact refused_bad row s u 0 (by omega) false (turning_n (RI row) s u hs hu).1 (turning_n (RI row) s u hs hu).2
 | 1, hd => exact refused_bad row s u 1 (by omega) false (fewest_n (RI row) s u hs hu).1 (fewest_n (RI row) s u hs hu).2
theorem all_good (s u : Int) (hr : row.length <= 300) (hs : 1 <= s) (hu : 0 <= u) (d : Nat) (hd : d < 3) : m_Z12 [.int (d : Int), RI row, .int s, .int u] = some (.fr []) := by
 obtain ⟨k, rfl⟩ := nat_of hu
 obtain ⟨ks, ek, _⟩ := kept_by_turns_eq row s hs hr
 match d, hd with
 | 0, hd =>
  obtain ⟨l, e, _⟩ := longest_turning_eq row s k hs hr
  exact refused_good row s k 0 hd e
 | 1, hd => exact refused_good row s k 1 hd (fewest_turns_eq row s k hs hr ek)
 | 2, hd => exact refused_good row s k 2 hd ek
theorem loop_d (n : Nat) {ρ : Ro} (h : n <= 8) : mlist rng1 (acons (mc (.int (n : Int))) anil) ρ = some ((List.range n).map dN) := by
 unfold mlist
 rw [acons_ev (d := .int (n : Int)) rfl anil_ev, Option.bind_some, rng1_ok (okR_of (by omega) (by omega)), Int.toNat_natCast, rangeD_li, List.map_map]
 rfl
theorem part1 (bad : Int) (hb : bad < 1) (o6 o7 : Option S) : Run b_Z17_f2 (envL scr r row far good (some (.sh (.int bad))) o6 o7) (fun o => ∃ o6 o7, o = .nx (envL scr r row far good (some (.sh (.int bad))) o6 o7)) := by
 unfold b_Z17_f2
 refine run_for [0, 3, -1, 0 - far] (f := D.int) (aslst_ev (mlst_ev (sized_ev (acons_ev (d := .int 0) rfl (acons_ev (d := .int 3) rfl (acons_ev (d := .int (-1)) rfl (acons_ev (d := .int (0 - far)) ((m2_at2 (a := .int 0) (b := .int far) rfl rfl).trans rfl) anil_ev)))) (le_size (by simp)))))
  (I := fun _ ρ => ∃ o6 o7, ρ = envL scr r row far good (some (.sh (.int bad))) o6 o7) _ ⟨_, _, rfl⟩ ?_ fun ρ h => by obtain ⟨a, b, rfl⟩ := h; exact ⟨a, b, rfl⟩
 rintro u us ρ ⟨o6, o7, rfl⟩
 refine ⟨envL scr r row far good (some (.sh (.int bad))) (some (.sh (.int u))) o7, rfl, ?_⟩
 unfold b_Z17_f1
 refine run_forN 3 (f := dN) (loop_d 3 (by decide)) (I := fun _ ρ => ∃ o7, ρ = envL scr r row far good (some (.sh (.int bad))) (some (.sh (.int u))) o7) _ ⟨_, rfl⟩ ?_ fun ρ h => by obtain ⟨a, rfl⟩ := h; exact ⟨_, _, rfl⟩
 rintro d ρ hd ⟨o7, rfl⟩
 refine ⟨envL scr r row far good (some (.sh (.int bad))) (some (.sh (.int u))) (some (.sh (dN d))), rfl, ?_⟩
 unfold b_Z17_f0
 exact run_if (told_due 0 (by decide) (acons_ev (d := dN d) rfl (acons_ev (d := RI row) rfl (acons_ev (d := .int bad) rfl (acons_ev (d := .int u) rfl anil_ev)))) (bad_step bad u hb d hd)) (run_next ⟨_, rfl⟩)
theorem part2 (bad : Int) (hb : bad < 0) (hg : 1 <= good) (o6 o7 : Option S) : Run b_Z17_f4 (envL scr r row far good (some (.sh (.int bad))) o6 o7) (fun o => ∃ o6 o7, o = .nx (envL scr r row far good (some (.sh (.int bad))) o6 o7)) := by
 unfold b_Z17_f4
 refine run_forN 2 (f := dN) (loop_d 2 (by decide)) (I := fun _ ρ => ∃ o6 o7, ρ = envL scr r row far good (some (.sh (.int bad))) o6 o7) _ ⟨_, _, rfl⟩ ?_ fun ρ h => by obtain ⟨a, b, rfl⟩ := h; exact ⟨_, _, rfl⟩
 rintro d ρ hd ⟨o6, o7, rfl⟩
 refine ⟨envL scr r row far good (some (.sh (.int bad))) o6 (some (.sh (dN d))), rfl, ?_⟩
 unfold b_Z17_f3
 exact run_if (told_due 1 (by decide) (acons_ev (d := dN d) rfl (acons_ev (d := RI row) rfl (acons_ev (d := .int good) rfl (acons_ev (d := .int bad) rfl anil_ev)))) (bad_number good bad hg hb d hd)) (run_next ⟨_, _, rfl⟩)
theorem part3 (u : Int) (hu : 0 <= u) (hg : 1 <= good) (hr : row.length <= 300) (o5 o7 : Option S) : Run b_Z17_f5 (envL scr r row far good o5 (some (.sh (.int u))) o7) (fun o => o = .nx (envL scr r row far good o5 (some (.sh (.int u))) o7)) := by
 unfold b_Z17_f5
 have e : mcomp [none, some 2, some 4, some 6] (mlist rng1 (acons (mc (.int 3)) anil)) (.nm 0) (mtest (meqB true (aslst (mcall m_Z12 (acons (mvar 0) (acons (mvar 1) (acons (mvar 2) (acons (mvar 3) anil)))))) (sized anil))) (mvar 0) (envL scr r row far good o5 (some (.sh (.int u))) o7) = some [] := by
  unfold mcomp
  rw [show mlist rng1 (acons (mc (.int 3)) anil) (envL scr r row far good o5 (some (.sh (.int u))) o7) = some ((List.range 3).map dN) from loop_d 3 (by decide), Option.bind_some]
  refine (compD_filter (f := dN) (p := fun _ => false) (G := dN) (fun ks ρ => (∀ d ∈ ks, d < 3) /\ ∃ o, ρ = [o, some (.sh (RI row)), some (.sh (.int good)), some (.sh (.int u))]) (by
   rintro d ds ρ ⟨hd, o, rfl⟩
   refine ⟨[some (.sh (dN d)), some (.sh (RI row)), some (.sh (.int good)), some (.sh (.int u))], rfl, ?_, fun z => (by cases z), fun q hq => hd q (by simp [hq]), _, rfl⟩
   exact eqB_nil (ds := []) (aslst_ev (mcall_fr (acons_ev (d := dN d) rfl (acons_ev (d := RI row) rfl (acons_ev (d := .int good) rfl (acons_ev (d := .int u) rfl anil_ev)))) (all_good good u hr hg hu d (hd d (by simp)))))) (List.range 3) _ [] ⟨fun d hd => List.mem_range.mp hd, none, rfl⟩ (le_size (by simp))).trans ?_
  rw [filter_none]; rfl
 exact run_if (b := false) (eqB_nil e) (run_next rfl)
theorem pot_ok (scr : D) (c : Int) (o2 o3 o4 o5 o6 o7 : Option S) : ∃ o1 o2' o3' o4' o5' o6' o7', b_Z17_f7 [some (.sh scr), some (.own (RL c 0)), o2, o3, o4, o5, o6, o7] = some (.nx [some (.sh scr), o1, o2', o3', o4', o5', o6', o7']) := by
 suffices h : Run b_Z17_f7 [some (.sh scr), some (.own (RL c 0)), o2, o3, o4, o5, o6, o7] (fun o => ∃ r row far good o5 o6 o7, o = .nx (envL scr r row far good o5 o6 o7)) by
  obtain ⟨o, e, r, row, far, good, a, b, d, rfl⟩ := h
  exact ⟨_, _, _, _, _, _, _, e⟩
 unfold b_Z17_f7
 obtain ⟨row, c1, k1, hl, e1⟩ := some_row_eq c 0 12 (by decide)
 refine run_seq (ρ' := [some (.sh scr), some (.own (RL c1 k1)), some (.sh (RI row)), o3, o4, o5, o6, o7]) ((msetm_ev (mcallG_own rfl (apu_ev (acons_ev (d := .int 12) rfl anil_ev)) rfl e1 rfl)).trans rfl) ?_
 obtain ⟨x, c2, k2, l2, u2, e2⟩ := next_eq c1 k1 1000000000 (by decide) (by decide)
 obtain ⟨y, c3, k3, l3, u3, e3⟩ := next_eq c2 k2 5 (by decide) (by decide)
 have p9 : (10 : Int) ^ (9 : Int).toNat = 1000000000 := by decide
 have o9' : powOk 10 9 = true := by decide
 have p29 : (10 : Int) ^ (29 : Int).toNat = 100000000000000000000000000000 := by decide
 have o29 : powOk 10 29 = true := by decide
 obtain ⟨far, hf, hf2⟩ : ∃ f, atI [D.int 1, .int 2, .int 7, .int 100000000000000000000000000000, .int (1 + x)] y = some (.int f) /\ 1 <= f := by
  have : y = 0 \/ y = 1 \/ y = 2 \/ y = 3 \/ y = 4 := by omega
  rcases this with h | h | h | h | h <;> subst h <;> exact ⟨_, rfl, by omega⟩
 refine run_seq (ρ' := [some (.sh scr), some (.own (RL c3 k3)), some (.sh (RI row)), some (.sh (.int far)), o4, o5, o6, o7]) ?_ ?_
 ·have t1 : mcallG m_Z16 1 (apu (acons (m2 powD (mc (.int 10)) (mc (.int 9))) anil)) [some (.sh scr), some (.own (RL c1 k1)), some (.sh (RI row)), o3, o4, o5, o6, o7] = some (.int x, [some (.sh scr), some (.own (RL c2 k2)), some (.sh (RI row)), o3, o4, o5, o6, o7]) :=
   mcallG_own (r0 := RL c1 k1) (r2 := RL c1 k1) rfl (apu_ev (acons_ev (d := .int 1000000000) (by simp_arith [p9, o9', if_true]) anil_ev)) rfl e2 rfl
  have t2 : mcallG m_Z16 1 (apu (acons (mc (.int 5)) anil)) [some (.sh scr), some (.own (RL c2 k2)), some (.sh (RI row)), o3, o4, o5, o6, o7] = some (.int y, [some (.sh scr), some (.own (RL c3 k3)), some (.sh (RI row)), o3, o4, o5, o6, o7]) :=
   mcallG_own (r0 := RL c2 k2) (r2 := RL c2 k2) rfl (apu_ev (acons_ev (d := .int 5) rfl anil_ev)) rfl e3 rfl
  refine (msetm_ev (m2m_ev (mlstm_ev (ds := [.int 1, .int 2, .int 7, .int 100000000000000000000000000000, .int (1 + x)]) (aconsm_ev (mpu_ev (d := .int 1) rfl) (aconsm_ev (mpu_ev (d := .int 2) rfl) (aconsm_ev (mpu_ev (d := .int 7) rfl) (aconsm_ev (mpu_ev (d := .int 100000000000000000000000000000) (by simp_arith [p29, o29, if_true])) (aconsm_ev (m2m_ev (mpu_ev (d := .int 1) rfl) t1 (g := .int (1 + x)) rfl) (apu_ev anil_ev)))))) (le_size (by simp))) t2 (g := .int far) hf)).trans rfl
 obtain ⟨good, c4, k4, hg, _, e4⟩ := some_step_eq c3 k3
 refine run_seq (ρ' := envL scr (RL c4 k4) row far good o5 o6 o7) ((msetm_ev (mcallG_own rfl (apu_ev anil_ev) rfl e4 rfl)).trans rfl) ?_
 refine run_mseq (run_for [0, -1, 0 - far] (f := D.int) (aslst_ev (mlst_ev (sized_ev (acons_ev (d := .int 0) rfl (acons_ev (d := .int (-1)) rfl (acons_ev (d := .int (0 - far)) ((m2_at2 (a := .int 0) (b := .int far) rfl rfl).trans rfl) anil_ev))) (le_size (by simp)))))
  (I := fun bs ρ => (∀ b ∈ bs, b < 1) /\ ∃ o5 o6 o7, ρ = envL scr (RL c4 k4) row far good o5 o6 o7) _ ⟨by intro b hb; simp at hb; omega, _, _, _, rfl⟩ ?_ ?_)
 ·rintro b bs ρ ⟨hb, o5, o6, o7, rfl⟩
  refine ⟨envL scr (RL c4 k4) row far good (some (.sh (.int b))) o6 o7, rfl, ?_⟩
  obtain ⟨o, e, a, d, rfl⟩ := part1 (scr := scr) (r := RL c4 k4) (row := row) (far := far) (good := good) b (hb b (by simp)) o6 o7
  exact ⟨_, e, fun q hq => hb q (by simp [hq]), _, _, _, rfl⟩
 rintro ρ ⟨_, o5, o6, o7, rfl⟩
 unfold b_Z17_r6
 refine run_mseq (run_for [-1, 0 - far] (f := D.int) (aslst_ev (mlst_ev (sized_ev (acons_ev (d := .int (-1)) rfl (acons_ev (d := .int (0 - far)) ((m2_at2 (a := .int 0) (b := .int far) rfl rfl).trans rfl) anil_ev)) (le_size (by simp)))))
  (I := fun bs ρ => (∀ b ∈ bs, b < 0) /\ ∃ o5 o6 o7, ρ = envL scr (RL c4 k4) row far good o5 o6 o7) _ ⟨by intro b hb; simp at hb; omega, _, _, _, rfl⟩ ?_ ?_)
 ·rintro b bs ρ ⟨hb, o5, o6, o7, rfl⟩
  refine ⟨envL scr (RL c4 k4) row far good (some (.sh (.int b))) o6 o7, rfl, ?_⟩
  obtain ⟨o, e, a, d, rfl⟩ := part2 (scr := scr) (r := RL c4 k4) (row := row) (far := far) (good := good) b (hb b (by simp)) hg o6 o7
  exact ⟨_, e, fun q hq => hb q (by simp [hq]), _, _, _, rfl⟩
 rintro ρ ⟨_, o5, o6, o7, rfl⟩
 refine run_for [0, 1, far] (f := D.int) (aslst_ev (mlst_ev (sized_ev (acons_ev (d := .int 0) rfl (acons_ev (d := .int 1) rfl (acons_ev (d := .int far) rfl anil_ev))) (le_size (by simp)))))
  (I := fun us ρ => (∀ u ∈ us, 0 <= u) /\ ∃ o5 o6 o7, ρ = envL scr (RL c4 k4) row far good o5 o6 o7) _ ⟨by intro b hb; simp at hb; omega, _, _, _, rfl⟩ ?_ fun ρ h => by obtain ⟨_, a, b, d, rfl⟩ := h; exact ⟨_, _, _, _, _, _, _, rfl⟩
 rintro u us ρ ⟨hu, o5, o6, o7, rfl⟩
 refine ⟨envL scr (RL c4 k4) row far good o5 (some (.sh (.int u))) o7, rfl, ?_⟩
 obtain ⟨o, e, rfl⟩ := part3 (scr := scr) (r := RL c4 k4) (row := row) (far := far) (good := good) u (hu u (by simp)) hg (by omega) o5 o7
 exact ⟨_, e, fun q hq => hu q (by simp [hq]), _, _, _, rfl⟩
theorem law_true (ns : List Int) (hn : ns.length <= 63) : m_Z17 [.lst (ns.map .int)] = some (.sh (.bl true)) := by
 unfold m_Z17 b_Z17
 refine runB_rt ?_
 have c1 : mlst (mcut (bvar 0) onone (osome (mc (.int 6)))) (startS 8 [.lst (ns.map .int)]) = some (.lst ((cutI ns none (some 6)).map .int)) := by
  refine mlst_ev ?_
  unfold mcut
  exact congrArg some (cutL_map D.int ns none (some 6))
 have hc := cutI_len ns none (some 6)
 obtain ⟨cs, e⟩ := pots_eq (cutI ns none (some 6)) (by omega)
 obtain ⟨ρ', e2, o1, o2, o3, o4, o5, o6, o7, rfl⟩ := forP_all (j := 1) (body := b_Z17_f7) (fun ρ => ∃ o1 o2 o3 o4 o5 o6 o7, ρ = [some (.sh (.lst (ns.map .int))), o1, o2, o3, o4, o5, o6, o7]) (fun c ρ h => by
  obtain ⟨o1, o2, o3, o4, o5, o6, o7, rfl⟩ := h
  obtain ⟨a1, a2, a3, a4, a5, a6, a7, e⟩ := pot_ok (.lst (ns.map .int)) c o2 o3 o4 o5 o6 o7
  exact ⟨_, e, _, _, _, _, _, _, _, rfl⟩) cs (startS 8 [.lst (ns.map .int)]) ⟨none, none, none, none, none, none, none, rfl⟩
 refine seqI (ρ' := [some (.sh (.lst (ns.map .int))), o1, o2, o3, o4, o5, o6, o7]) ?_ rfl
 unfold mforP mcallP
 rw [acons_ev c1 anil_ev, Option.bind_some, e, Option.bind_some]
 exact e2
end
end Lw
namespace Lw
open PySem L2
open PyProof.Rows
noncomputable def top (i : Nat) : Stmt := PySem.Challenge.pw_wavyrow_k29_turns_refused.main.body.getD i (.Pass ⟨0, 0, 0, 0⟩)
noncomputable abbrev s_Z13 : Stmt := top 10
noncomputable abbrev N_Z13 : List Str := ["step"]
theorem sc_Z13 : FnScope N_Z13 ["step"] (defScope s_Z13) := ⟨rfl, rfl, rfl, by decide +kernel, rfl, by decide +kernel, by decide +kernel⟩
theorem ok_Z13 {P : Program} {w : World} {K : PySem.W.Frag} {mg : Str -> Option Value} {base : Heap} {f : Addr} {fd : FuncData} (Fn : Fun K "refuse_step" "refuse_step" s_Z13 f fd) {y_NoStep : Addr} (a_NoStep : mg "NoStep" = some (.ref y_NoStep)) (xc_NoStep : XC K "NoStep" y_NoStep) (q_NoStep : PySem.W.excIn K y_NoStep bmV "ValueError.__new__" = true) : FnOk P w K mg base CX0 1 f fd ["step"] (spR K 1 m_Z13) :=
 Fn.okD (k := 0) (m := b_Z13) sc_Z13 fun cdv A outer s H E hr => (pssd_one (psd_if (pc_cmp op_lt opd_lt (pd_var 0 (pv 0)) pd_int (nomark _)) (pssd_one psd_never) pssd_nil))
theorem okx_Z13 {P : Program} {w : World} {K : PySem.W.Frag} {mg : Str -> Option Value} {base : Heap} {f : Addr} {fd : FuncData} (Fn : Fun K "refuse_step" "refuse_step" s_Z13 f fd) {y_NoStep : Addr} (a_NoStep : mg "NoStep" = some (.ref y_NoStep)) (xc_NoStep : XC K "NoStep" y_NoStep) (q_NoStep : PySem.W.excIn K y_NoStep bmV "ValueError.__new__" = true) : FnOk P w K mg base (CXx P w) 1 f fd ["step"] (spX K 1 xm_Z13) :=
 Fn.okX (k := 0) (m := bx_Z13) sc_Z13 fun cdv A outer s H E hr => (pssx_one (psx_if rfl (pc_cmp op_lt opd_lt (pd_var 0 (pv 0)) pd_int (nomark _)) (pssx_one (psx_raise rfl ⟨rfl, rfl, rfl⟩ rfl rfl a_NoStep xc_NoStep q_NoStep (pas_cons pd_str pas_nil) (acons_len anil_len) (by decide))) pssx_none))
noncomputable abbrev s_Z11 : Stmt := top 11
noncomputable abbrev N_Z11 : List Str := ["row", "step", "above", "below", "place", "number"]
theorem sc_Z11 : FnScope N_Z11 ["row", "step"] (defScope s_Z11) := ⟨rfl, rfl, rfl, by decide +kernel, rfl, by decide +kernel, by decide +kernel⟩
theorem nd_later_steps_0 : List.Nodup (["later", "step", "number", "row"] : List Str) := by decide +kernel
theorem nd_later_steps_1 : List.Nodup (["later", "step", "number", "row"] : List Str) := by decide +kernel
theorem ok_Z11 {P : Program} {w : World} {K : PySem.W.Frag} {mg : Str -> Option Value} {base : Heap} {f : Addr} {fd : FuncData} (Fn : Fun K "later_steps" "later_steps" s_Z11 f fd) (z_enumerate : mg "enumerate" = none) (z_len : mg "len" = none) (z_range : mg "range" = none) : FnOk P w K mg base CX0 1 f fd ["row", "step"] (spR K 2 m_Z11) :=
 Fn.okD (k := 0) (m := b_Z11) sc_Z11 fun cdv A outer s H E hr => (pssd_cons (psd_setF (i := 2) sc_Z11.nd rfl (by first | exact Or.inl rfl | exact Or.inr rfl) (pf_lst pas_nil)) (pssd_cons (psd_setF (i := 3) sc_Z11.nd rfl (by first | exact Or.inl rfl | exact Or.inr rfl) (pf_lst pas_nil)) (pssd_cons (psd_for PassesOwn.never rfl (pid_enum rfl z_enumerate (pas_cons (pd_var 0 (pv 0)) pas_nil)) (pgd_tup (is := [4, 5]) (pg_tup rfl (pgs_cons (pg_name (i := 4) sc_Z11.nd rfl (by first | exact Or.inl rfl | exact Or.inr rfl)) (pgs_cons (pg_name (i := 5) sc_Z11.nd rfl (by first | exact Or.inl rfl | exact Or.inr rfl)) pgs_nil)))) (pssd_cons (psd_append (i := 2) (pv 2) (pf_pd (pf_comp (blk_of (N := ["later", "step", "number", "row"]) (src := [none, some 1, some 5, some 0]) (defScope s_Z11) N_Z11 rfl rfl (by decide +kernel)) rfl (pid_range2 rfl z_range (pas_cons (pd_add (pd_var 4 (pv 4)) pd_int) (pas_cons (pd_lenB rfl z_len (pb_var 0 (pv 0))) pas_nil))) (fun C fp s0 H0 => (pgd_name (i := 0) (pg_name nd_later_steps_0 rfl (by first | exact Or.inl rfl | exact Or.inr rfl)))) (fun C fp s0 H0 => (ptsd_one (pc_cmp op_ge opd_ge (pd_sub (pd_ix (pb_var 3 (pv 3)) (pd_var 0 (pv 0))) (pd_var 2 (pv 2))) (pd_var 1 (pv 1)) (nomark _)))) (fun C fp s0 H0 => (pd_var 0 (pv 0))))) (fun t ha => pe_bm PySem.F.plainAttrs_list PySem.F.slot_list_append PySem.F.type_list_append mt_append (pv 2) ha) (pas_cons (pf_pd (pf_comp (blk_of (N := ["later", "step", "number", "row"]) (src := [none, some 1, some 5, some 0]) (defScope s_Z11) N_Z11 rfl rfl (by decide +kernel)) rfl (pid_range2 rfl z_range (pas_cons (pd_add (pd_var 4 (pv 4)) pd_int) (pas_cons (pd_lenB rfl z_len (pb_var 0 (pv 0))) pas_nil))) (fun C fp s0 H0 => (pgd_name (i := 0) (pg_name nd_later_steps_0 rfl (by first | exact Or.inl rfl | exact Or.inr rfl)))) (fun C fp s0 H0 => (ptsd_one (pc_cmp op_ge opd_ge (pd_sub (pd_ix (pb_var 3 (pv 3)) (pd_var 0 (pv 0))) (pd_var 2 (pv 2))) (pd_var 1 (pv 1)) (nomark _)))) (fun C fp s0 H0 => (pd_var 0 (pv 0))))) pas_nil)) (pssd_one (psd_append (i := 3) (pv 3) (pf_pd (pf_comp (blk_of (N := ["later", "step", "number", "row"]) (src := [none, some 1, some 5, some 0]) (defScope s_Z11) N_Z11 rfl rfl (by decide +kernel)) rfl (pid_range2 rfl z_range (pas_cons (pd_add (pd_var 4 (pv 4)) pd_int) (pas_cons (pd_lenB rfl z_len (pb_var 0 (pv 0))) pas_nil))) (fun C fp s0 H0 => (pgd_name (i := 0) (pg_name nd_later_steps_1 rfl (by first | exact Or.inl rfl | exact Or.inr rfl)))) (fun C fp s0 H0 => (ptsd_one (pc_cmp op_ge opd_ge (pd_sub (pd_var 2 (pv 2)) (pd_ix (pb_var 3 (pv 3)) (pd_var 0 (pv 0)))) (pd_var 1 (pv 1)) (nomark _)))) (fun C fp s0 H0 => (pd_var 0 (pv 0))))) (fun t ha => pe_bm PySem.F.plainAttrs_list PySem.F.slot_list_append PySem.F.type_list_append mt_append (pv 3) ha) (pas_cons (pf_pd (pf_comp (blk_of (N := ["later", "step", "number", "row"]) (src := [none, some 1, some 5, some 0]) (defScope s_Z11) N_Z11 rfl rfl (by decide +kernel)) rfl (pid_range2 rfl z_range (pas_cons (pd_add (pd_var 4 (pv 4)) pd_int) (pas_cons (pd_lenB rfl z_len (pb_var 0 (pv 0))) pas_nil))) (fun C fp s0 H0 => (pgd_name (i := 0) (pg_name nd_later_steps_1 rfl (by first | exact Or.inl rfl | exact Or.inr rfl)))) (fun C fp s0 H0 => (ptsd_one (pc_cmp op_ge opd_ge (pd_sub (pd_var 2 (pv 2)) (pd_ix (pb_var 3 (pv 3)) (pd_var 0 (pv 0)))) (pd_var 1 (pv 1)) (nomark _)))) (fun C fp s0 H0 => (pd_var 0 (pv 0))))) pas_nil))))) (pssd_freeze 3 (pssd_freeze 2 (pssd_one (psd_ret (pd_tup (pas_cons (pd_var 2 (pv 2)) (pas_cons (pd_var 3 (pv 3)) pas_nil))))))))))
noncomputable abbrev s_Z9 : Stmt := top 13
noncomputable abbrev N_Z9 : List Str := ["places"]
theorem sc_Z9 : FnScope N_Z9 ["places"] (defScope s_Z9) := ⟨rfl, rfl, rfl, by decide +kernel, rfl, by decide +kernel, by decide +kernel⟩
theorem ok_Z9 {P : Program} {w : World} {K : PySem.W.Frag} {mg : Str -> Option Value} {base : Heap} {f : Addr} {fd : FuncData} (Fn : Fun K "longer_first" "longer_first" s_Z9 f fd) (z_len : mg "len" = none) : FnOk P w K mg base CX0 1 f fd ["places"] (spR K 1 m_Z9) :=
 Fn.okD (k := 0) (m := b_Z9) sc_Z9 fun cdv A outer s H E hr => (pssd_one (psd_ret (pd_tup (pas_cons (pd_neg (pd_lenB rfl z_len (pb_var 0 (pv 0)))) (pas_cons (pd_var 0 (pv 0)) pas_nil)))))
noncomputable abbrev s_Z2 : Stmt := top 15
noncomputable abbrev N_Z2 : List Str := ["tails", "laters"]
theorem sc_Z2 : FnScope N_Z2 ["tails", "laters"] (defScope s_Z2) := ⟨rfl, rfl, rfl, by decide +kernel, rfl, by decide +kernel, by decide +kernel⟩
theorem nd_longest_behind_0 : List.Nodup (["later", "tails"] : List Str) := by decide +kernel
theorem ok_Z2 {P : Program} {w : World} {K : PySem.W.Frag} {mg : Str -> Option Value} {base : Heap} {f : Addr} {fd : FuncData} (Fn : Fun K "longest_behind" "longest_behind" s_Z2 f fd) (z_len : mg "len" = none) (z_max : mg "max" = none) : FnOk P w K mg base CX0 1 f fd ["tails", "laters"] (spR K 2 m_Z2) :=
 Fn.okD (k := 0) (m := b_Z2) sc_Z2 fun cdv A outer s H E hr => (pssd_one (psd_ret (pd_maxLen rfl hr.units rfl z_max rfl z_len (pf_pb (pf_comp (blk_of (N := ["later", "tails"]) (src := [none, some 0]) (defScope s_Z2) N_Z2 rfl rfl (by decide +kernel)) rfl (pid_seq (pd_var 1 (pv 1))) (fun C fp s0 H0 => (pgd_name (i := 0) (pg_name nd_longest_behind_0 rfl (by first | exact Or.inl rfl | exact Or.inr rfl)))) (fun C fp s0 H0 => ptsd_nil) (fun C fp s0 H0 => (pd_ix (pb_var 1 (pv 1)) (pd_var 0 (pv 0)))))) (pf_pd (pf_lst pas_nil)))))
noncomputable abbrev s_Z4 : Stmt := top 16
noncomputable abbrev N_Z4 : List Str := ["steps", "fewer", "above", "below", "fewer_ups", "fewer_downs", "ups", "downs", "risen", "fallen", "place"]
theorem sc_Z4 : FnScope N_Z4 ["steps", "fewer"] (defScope s_Z4) := ⟨rfl, rfl, rfl, by decide +kernel, rfl, by decide +kernel, by decide +kernel⟩
theorem ok_Z4 {P : Program} {w : World} {K : PySem.W.Frag} {mg : Str -> Option Value} {base : Heap} {f : Addr} {fd : FuncData} {x_Z9 : Addr} {d_Z9 : FuncData} {x_Z2 : Addr} {d_Z2 : FuncData} (Fn : Fun K "one_turn_more" "one_turn_more" s_Z4 f fd) (G_Z9 : FnOk P w K mg base CX0 1 x_Z9 d_Z9 ["places"] (spR K 1 m_Z9)) (b_Z9 : Binds K d_Z9 ["places"] []) (k_Z9 : PySem.W.keepIn K (.ref x_Z9) = true) (a_Z9 : mg "longer_first" = some (.ref x_Z9)) (G_Z2 : FnOk P w K mg base CX0 1 x_Z2 d_Z2 ["tails", "laters"] (spR K 2 m_Z2)) (b_Z2 : Binds K d_Z2 ["tails", "laters"] []) (k_Z2 : PySem.W.keepIn K (.ref x_Z2) = true) (a_Z2 : mg "longest_behind" = some (.ref x_Z2)) (z_len : mg "len" = none) (z_min : mg "min" = none) (z_range : mg "range" = none) (z_reversed : mg "reversed" = none) : FnOk P w K mg base CX0 3 f fd ["steps", "fewer"] (spR K 2 m_Z4) :=
 Fn.okD (k := 2) (m := b_Z4) sc_Z4 fun cdv A outer s H E hr => (pssd_cons (psd_asg (ps_asg (pd_var 0 (pv 0)) (pgd_tup (is := [2, 3]) (pg_tup rfl (pgs_cons (pg_name (i := 2) sc_Z4.nd rfl (by first | exact Or.inl rfl | exact Or.inr rfl)) (pgs_cons (pg_name (i := 3) sc_Z4.nd rfl (by first | exact Or.inl rfl | exact Or.inr rfl)) pgs_nil)))))) (pssd_cons (psd_asg (ps_asg (pd_var 1 (pv 1)) (pgd_tup (is := [4, 5]) (pg_tup rfl (pgs_cons (pg_name (i := 4) sc_Z4.nd rfl (by first | exact Or.inl rfl | exact Or.inr rfl)) (pgs_cons (pg_name (i := 5) sc_Z4.nd rfl (by first | exact Or.inl rfl | exact Or.inr rfl)) pgs_nil)))))) (pssd_cons (psd_setF (i := 6) sc_Z4.nd rfl (by first | exact Or.inl rfl | exact Or.inr rfl) (pf_rep (pf_lst (pas_cons (pf_pd (pf_lst pas_nil)) pas_nil)) (pd_lenB rfl z_len (pb_var 2 (pv 2))))) (pssd_cons (psd_setF (i := 7) sc_Z4.nd rfl (by first | exact Or.inl rfl | exact Or.inr rfl) (pf_rep (pf_lst (pas_cons (pf_pd (pf_lst pas_nil)) pas_nil)) (pd_lenB rfl z_len (pb_var 2 (pv 2))))) (pssd_cons (psd_setF (i := 8) sc_Z4.nd rfl (by first | exact Or.inl rfl | exact Or.inr rfl) (pf_rep (pf_lst (pas_cons (pf_pd (pf_lst pas_nil)) pas_nil)) (pd_lenB rfl z_len (pb_var 2 (pv 2))))) (pssd_cons (psd_setF (i := 9) sc_Z4.nd rfl (by first | exact Or.inl rfl | exact Or.inr rfl) (pf_rep (pf_lst (pas_cons (pf_pd (pf_lst pas_nil)) pas_nil)) (pd_lenB rfl z_len (pb_var 2 (pv 2))))) (pssd_cons (psd_for PassesOwn.never rfl (pid_revR1 rfl z_reversed rfl z_range (pas_cons (pd_lenB rfl z_len (pb_var 2 (pv 2))) pas_nil)) (pgd_name (i := 10) (pg_name sc_Z4.nd rfl (by first | exact Or.inl rfl | exact Or.inr rfl))) (pssd_cons (psd_setix (i := 6) (ps_asg (pf_pd (pf_cat (pf_pb (pf_lst (pas_cons (pd_var 10 (pv 10)) pas_nil))) (pd_pb (pd_borL 8 (pd_call (fun t ha => pe_call (G_Z2.mono (by decide)) hr rfl a_Z2 k_Z2 b_Z2 .nil pass0 ha) rfl (pas_cons (pd_var 8 (pv 8)) (pas_cons (pd_ix (pb_var 2 (pv 2)) (pd_var 10 (pv 10))) pas_nil)) (acons_len (acons_len anil_len))))))) (pg_sub (pv 6) (pd_var 10 (pv 10)) set_list))) (pssd_cons (psd_setix (i := 7) (ps_asg (pf_pd (pf_cat (pf_pb (pf_lst (pas_cons (pd_var 10 (pv 10)) pas_nil))) (pd_pb (pd_borL 9 (pd_call (fun t ha => pe_call (G_Z2.mono (by decide)) hr rfl a_Z2 k_Z2 b_Z2 .nil pass0 ha) rfl (pas_cons (pd_var 9 (pv 9)) (pas_cons (pd_ix (pb_var 3 (pv 3)) (pd_var 10 (pv 10))) pas_nil)) (acons_len (acons_len anil_len))))))) (pg_sub (pv 7) (pd_var 10 (pv 10)) set_list))) (pssd_cons (psd_setix (i := 8) (ps_asg (pd_min2K (keyAt_fn (G_Z9.mono (by decide)) hr.in1 b_Z9) rfl hr.units rfl z_min rfl a_Z9 (pas_cons (pd_ix (pb_var 6 (pv 6)) (pd_var 10 (pv 10))) (pas_cons (pd_ix (pb_var 5 (pv 5)) (pd_var 10 (pv 10))) pas_nil)) (acons_len (acons_len anil_len))) (pg_sub (pv 8) (pd_var 10 (pv 10)) set_list))) (pssd_one (psd_setix (i := 9) (ps_asg (pd_min2K (keyAt_fn (G_Z9.mono (by decide)) hr.in1 b_Z9) rfl hr.units rfl z_min rfl a_Z9 (pas_cons (pd_ix (pb_var 7 (pv 7)) (pd_var 10 (pv 10))) (pas_cons (pd_ix (pb_var 4 (pv 4)) (pd_var 10 (pv 10))) pas_nil)) (acons_len (acons_len anil_len))) (pg_sub (pv 9) (pd_var 10 (pv 10)) set_list)))))))) (pssd_freeze 6 (pssd_freeze 7 (pssd_one (psd_ret (pd_tup (pas_cons (pd_var 6 (pv 6)) (pas_cons (pd_var 7 (pv 7)) pas_nil))))))))))))))
noncomputable abbrev s_Z15 : Stmt := top 17
noncomputable abbrev N_Z15 : List Str := ["row"]
theorem sc_Z15 : FnScope N_Z15 ["row"] (defScope s_Z15) := ⟨rfl, rfl, rfl, by decide +kernel, rfl, by decide +kernel, by decide +kernel⟩
theorem ok_Z15 {P : Program} {w : World} {K : PySem.W.Frag} {mg : Str -> Option Value} {base : Heap} {f : Addr} {fd : FuncData} (Fn : Fun K "no_tails" "no_tails" s_Z15 f fd) (z_len : mg "len" = none) : FnOk P w K mg base CX0 1 f fd ["row"] (spR K 1 m_Z15) :=
 Fn.okD (k := 0) (m := b_Z15) sc_Z15 fun cdv A outer s H E hr => (pssd_one (psd_ret (pd_tup (pas_cons (pf_pd (pf_rep (pf_lst (pas_cons (pf_pd (pf_lst pas_nil)) pas_nil)) (pd_lenB rfl z_len (pb_var 0 (pv 0))))) (pas_cons (pf_pd (pf_rep (pf_lst (pas_cons (pf_pd (pf_lst pas_nil)) pas_nil)) (pd_lenB rfl z_len (pb_var 0 (pv 0))))) pas_nil)))))
noncomputable abbrev s_Z7 : Stmt := top 18
noncomputable abbrev N_Z7 : List Str := ["tails", "ups", "downs"]
theorem sc_Z7 : FnScope N_Z7 ["tails"] (defScope s_Z7) := ⟨rfl, rfl, rfl, by decide +kernel, rfl, by decide +kernel, by decide +kernel⟩
theorem ok_Z7 {P : Program} {w : World} {K : PySem.W.Frag} {mg : Str -> Option Value} {base : Heap} {f : Addr} {fd : FuncData} {x_Z9 : Addr} {d_Z9 : FuncData} (Fn : Fun K "longest_tail" "longest_tail" s_Z7 f fd) (G_Z9 : FnOk P w K mg base CX0 1 x_Z9 d_Z9 ["places"] (spR K 1 m_Z9)) (b_Z9 : Binds K d_Z9 ["places"] []) (k_Z9 : PySem.W.keepIn K (.ref x_Z9) = true) (a_Z9 : mg "longer_first" = some (.ref x_Z9)) (z_min : mg "min" = none) : FnOk P w K mg base CX0 3 f fd ["tails"] (spR K 1 m_Z7) :=
 Fn.okD (k := 2) (m := b_Z7) sc_Z7 fun cdv A outer s H E hr => (pssd_cons (psd_asg (ps_asg (pd_var 0 (pv 0)) (pgd_tup (is := [1, 2]) (pg_tup rfl (pgs_cons (pg_name (i := 1) sc_Z7.nd rfl (by first | exact Or.inl rfl | exact Or.inr rfl)) (pgs_cons (pg_name (i := 2) sc_Z7.nd rfl (by first | exact Or.inl rfl | exact Or.inr rfl)) pgs_nil)))))) (pssd_one (psd_ret (pd_minK (keyAt_fn (G_Z9.mono (by decide)) hr.in1 b_Z9) rfl hr.units rfl z_min rfl a_Z9 (pd_pb (pd_add (pd_var 1 (pv 1)) (pd_var 2 (pv 2)))) (pf_pd (pf_lst pas_nil))))))
noncomputable abbrev s_Z1 : Stmt := top 19
noncomputable abbrev N_Z1 : List Str := ["row", "step", "turns", "steps", "tails", "turn"]
theorem sc_Z1 : FnScope N_Z1 ["row", "step", "turns"] (defScope s_Z1) := ⟨rfl, rfl, rfl, by decide +kernel, rfl, by decide +kernel, by decide +kernel⟩
theorem ok_Z1 {P : Program} {w : World} {K : PySem.W.Frag} {mg : Str -> Option Value} {base : Heap} {f : Addr} {fd : FuncData} {x_Z11 : Addr} {d_Z11 : FuncData} {x_Z7 : Addr} {d_Z7 : FuncData} {x_Z15 : Addr} {d_Z15 : FuncData} {x_Z4 : Addr} {d_Z4 : FuncData} {x_Z13 : Addr} {d_Z13 : FuncData} (Fn : Fun K "longest_turning" "longest_turning" s_Z1 f fd) (G_Z11 : FnOk P w K mg base CX0 1 x_Z11 d_Z11 ["row", "step"] (spR K 2 m_Z11)) (b_Z11 : Binds K d_Z11 ["row", "step"] []) (k_Z11 : PySem.W.keepIn K (.ref x_Z11) = true) (a_Z11 : mg "later_steps" = some (.ref x_Z11)) (G_Z7 : FnOk P w K mg base CX0 3 x_Z7 d_Z7 ["tails"] (spR K 1 m_Z7)) (b_Z7 : Binds K d_Z7 ["tails"] []) (k_Z7 : PySem.W.keepIn K (.ref x_Z7) = true) (a_Z7 : mg "longest_tail" = some (.ref x_Z7)) (G_Z15 : FnOk P w K mg base CX0 1 x_Z15 d_Z15 ["row"] (spR K 1 m_Z15)) (b_Z15 : Binds K d_Z15 ["row"] []) (k_Z15 : PySem.W.keepIn K (.ref x_Z15) = true) (a_Z15 : mg "no_tails" = some (.ref x_Z15)) (G_Z4 : FnOk P w K mg base CX0 3 x_Z4 d_Z4 ["steps", "fewer"] (spR K 2 m_Z4)) (b_Z4 : Binds K d_Z4 ["steps", "fewer"] []) (k_Z4 : PySem.W.keepIn K (.ref x_Z4) = true) (a_Z4 : mg "one_turn_more" = some (.ref x_Z4)) (G_Z13 : FnOk P w K mg base CX0 1 x_Z13 d_Z13 ["step"] (spR K 1 m_Z13)) (b_Z13 : Binds K d_Z13 ["step"] []) (k_Z13 : PySem.W.keepIn K (.ref x_Z13) = true) (a_Z13 : mg "refuse_step" = some (.ref x_Z13)) (GX_Z13 : FnOk P w K mg base (CXx P w) 1 x_Z13 d_Z13 ["step"] (spX K 1 xm_Z13)) {y_NoNumber : Addr} (a_NoNumber : mg "NoNumber" = some (.ref y_NoNumber)) (xc_NoNumber : XC K "NoNumber" y_NoNumber) (q_NoNumber : PySem.W.excIn K y_NoNumber bmV "ValueError.__new__" = true) (z_len : mg "len" = none) (z_min : mg "min" = none) (z_range : mg "range" = none) : FnOk P w K mg base CX0 4 f fd ["row", "step", "turns"] (spR K 3 m_Z1) :=
 Fn.okD (k := 3) (m := b_Z1) sc_Z1 fun cdv A outer s H E hr => (pssd_cons (psd_expr (pd_call (fun t ha => pe_call (G_Z13.mono (by decide)) hr rfl a_Z13 k_Z13 b_Z13 .nil pass0 ha) rfl (pas_cons (pd_var 1 (pv 1)) pas_nil) (acons_len anil_len))) (pssd_cons (psd_if (pc_cmp op_lt opd_lt (pd_var 2 (pv 2)) pd_int (nomark _)) (pssd_one psd_never) pssd_nil) (pssd_cons (psd_set (i := 3) sc_Z1.nd rfl (by first | exact Or.inl rfl | exact Or.inr rfl) (pd_call (fun t ha => pe_call (G_Z11.mono (by decide)) hr rfl a_Z11 k_Z11 b_Z11 .nil pass0 ha) rfl (pas_cons (pd_var 0 (pv 0)) (pas_cons (pd_var 1 (pv 1)) pas_nil)) (acons_len (acons_len anil_len)))) (pssd_cons (psd_set (i := 4) sc_Z1.nd rfl (by first | exact Or.inl rfl | exact Or.inr rfl) (pd_call (fun t ha => pe_call (G_Z15.mono (by decide)) hr rfl a_Z15 k_Z15 b_Z15 .nil pass0 ha) rfl (pas_cons (pd_var 0 (pv 0)) pas_nil) (acons_len anil_len))) (pssd_cons (psd_for PassesOwn.never rfl (pid_range1 rfl z_range (pas_cons (pd_add (pd_min2 rfl rfl z_min (pas_cons (pd_var 2 (pv 2)) (pas_cons (pd_lenB rfl z_len (pb_var 0 (pv 0))) pas_nil))) pd_int) pas_nil)) (pgd_name (i := 5) (pg_name sc_Z1.nd rfl (by first | exact Or.inl rfl | exact Or.inr rfl))) (pssd_one (psd_set (i := 4) sc_Z1.nd rfl (by first | exact Or.inl rfl | exact Or.inr rfl) (pd_call (fun t ha => pe_call (G_Z4.mono (by decide)) hr rfl a_Z4 k_Z4 b_Z4 .nil pass0 ha) rfl (pas_cons (pd_var 3 (pv 3)) (pas_cons (pd_var 4 (pv 4)) pas_nil)) (acons_len (acons_len anil_len)))))) (pssd_one (psd_ret (pd_call (fun t ha => pe_call (G_Z7.mono (by decide)) hr rfl a_Z7 k_Z7 b_Z7 .nil pass0 ha) rfl (pas_cons (pd_var 4 (pv 4)) pas_nil) (acons_len anil_len)))))))))
theorem okx_Z1 {P : Program} {w : World} {K : PySem.W.Frag} {mg : Str -> Option Value} {base : Heap} {f : Addr} {fd : FuncData} {x_Z11 : Addr} {d_Z11 : FuncData} {x_Z7 : Addr} {d_Z7 : FuncData} {x_Z15 : Addr} {d_Z15 : FuncData} {x_Z4 : Addr} {d_Z4 : FuncData} {x_Z13 : Addr} {d_Z13 : FuncData} (Fn : Fun K "longest_turning" "longest_turning" s_Z1 f fd) (G_Z11 : FnOk P w K mg base CX0 1 x_Z11 d_Z11 ["row", "step"] (spR K 2 m_Z11)) (b_Z11 : Binds K d_Z11 ["row", "step"] []) (k_Z11 : PySem.W.keepIn K (.ref x_Z11) = true) (a_Z11 : mg "later_steps" = some (.ref x_Z11)) (G_Z7 : FnOk P w K mg base CX0 3 x_Z7 d_Z7 ["tails"] (spR K 1 m_Z7)) (b_Z7 : Binds K d_Z7 ["tails"] []) (k_Z7 : PySem.W.keepIn K (.ref x_Z7) = true) (a_Z7 : mg "longest_tail" = some (.ref x_Z7)) (G_Z15 : FnOk P w K mg base CX0 1 x_Z15 d_Z15 ["row"] (spR K 1 m_Z15)) (b_Z15 : Binds K d_Z15 ["row"] []) (k_Z15 : PySem.W.keepIn K (.ref x_Z15) = true) (a_Z15 : mg "no_tails" = some (.ref x_Z15)) (G_Z4 : FnOk P w K mg base CX0 3 x_Z4 d_Z4 ["steps", "fewer"] (spR K 2 m_Z4)) (b_Z4 : Binds K d_Z4 ["steps", "fewer"] []) (k_Z4 : PySem.W.keepIn K (.ref x_Z4) = true) (a_Z4 : mg "one_turn_more" = some (.ref x_Z4)) (G_Z13 : FnOk P w K mg base CX0 1 x_Z13 d_Z13 ["step"] (spR K 1 m_Z13)) (b_Z13 : Binds K d_Z13 ["step"] []) (k_Z13 : PySem.W.keepIn K (.ref x_Z13) = true) (a_Z13 : mg "refuse_step" = some (.ref x_Z13)) (GX_Z13 : FnOk P w K mg base (CXx P w) 1 x_Z13 d_Z13 ["step"] (spX K 1 xm_Z13)) {y_NoNumber : Addr} (a_NoNumber : mg "NoNumber" = some (.ref y_NoNumber)) (xc_NoNumber : XC K "NoNumber" y_NoNumber) (q_NoNumber : PySem.W.excIn K y_NoNumber bmV "ValueError.__new__" = true) (z_len : mg "len" = none) (z_min : mg "min" = none) (z_range : mg "range" = none) : FnOk P w K mg base (CXx P w) 4 f fd ["row", "step", "turns"] (spX K 3 xm_Z1) :=
 Fn.okX (k := 3) (m := bx_Z1) sc_Z1 fun cdv A outer s H E hr => (pssx_cons rfl (psd_expr (pd_call (fun t ha => pe_call (G_Z13.mono (by decide)) hr rfl a_Z13 k_Z13 b_Z13 .nil pass0 ha) rfl (pas_cons (pd_var 1 (pv 1)) pas_nil) (acons_len anil_len))) (psx_expr (pex_call rfl ⟨rfl, rfl, rfl⟩ (GX_Z13.mono (by decide)) hr rfl a_Z13 k_Z13 b_Z13 rfl (pas_cons (pd_var 1 (pv 1)) pas_nil) (acons_len anil_len))) (pssx_head (psx_if rfl (pc_cmp op_lt opd_lt (pd_var 2 (pv 2)) pd_int (nomark _)) (pssx_one (psx_raise rfl ⟨rfl, rfl, rfl⟩ rfl rfl a_NoNumber xc_NoNumber q_NoNumber (pas_cons pd_str pas_nil) (acons_len anil_len) (by decide))) pssx_none)))
noncomputable abbrev s_Z6 : Stmt := top 20
noncomputable abbrev N_Z6 : List Str := ["steps", "above", "below", "most", "place"]
theorem sc_Z6 : FnScope N_Z6 ["steps"] (defScope s_Z6) := ⟨rfl, rfl, rfl, by decide +kernel, rfl, by decide +kernel, by decide +kernel⟩
theorem nd_most_stepped_0 : List.Nodup (["later", "most"] : List Str) := by decide +kernel
theorem ok_Z6 {P : Program} {w : World} {K : PySem.W.Frag} {mg : Str -> Option Value} {base : Heap} {f : Addr} {fd : FuncData} (Fn : Fun K "most_stepped" "most_stepped" s_Z6 f fd) (z_len : mg "len" = none) (z_max : mg "max" = none) (z_range : mg "range" = none) (z_reversed : mg "reversed" = none) : FnOk P w K mg base CX0 1 f fd ["steps"] (spR K 1 m_Z6) :=
 Fn.okD (k := 0) (m := b_Z6) sc_Z6 fun cdv A outer s H E hr => (pssd_cons (psd_asg (ps_asg (pd_var 0 (pv 0)) (pgd_tup (is := [1, 2]) (pg_tup rfl (pgs_cons (pg_name (i := 1) sc_Z6.nd rfl (by first | exact Or.inl rfl | exact Or.inr rfl)) (pgs_cons (pg_name (i := 2) sc_Z6.nd rfl (by first | exact Or.inl rfl | exact Or.inr rfl)) pgs_nil)))))) (pssd_cons (psd_setF (i := 3) sc_Z6.nd rfl (by first | exact Or.inl rfl | exact Or.inr rfl) (pf_rep (pf_lst (pas_cons pd_int pas_nil)) (pd_lenB rfl z_len (pb_var 1 (pv 1))))) (pssd_cons (psd_for PassesOwn.never rfl (pid_revR1 rfl z_reversed rfl z_range (pas_cons (pd_lenB rfl z_len (pb_var 1 (pv 1))) pas_nil)) (pgd_name (i := 4) (pg_name sc_Z6.nd rfl (by first | exact Or.inl rfl | exact Or.inr rfl))) (pssd_one (psd_setix (i := 3) (ps_asg (pd_add pd_int (pd_maxE rfl hr.units rfl z_max (pf_pb (pf_compO (srcOk_of (by decide)) (blk_of (N := ["later", "most"]) (src := [none, some 3]) (defScope s_Z6) N_Z6 rfl rfl (by decide +kernel)) rfl (pid_seq (pd_add (pd_ix (pb_var 1 (pv 1)) (pd_var 4 (pv 4))) (pd_ix (pb_var 2 (pv 2)) (pd_var 4 (pv 4))))) (fun C fp s0 H0 => (pgd_name (i := 0) (pg_name nd_most_stepped_0 rfl (by first | exact Or.inl rfl | exact Or.inr rfl)))) (fun C fp s0 H0 => ptsd_nil) (fun C fp s0 H0 => (pd_ix (pb_var 1 (pv 1)) (pd_var 0 (pv 0)))))) pd_int)) (pg_sub (pv 3) (pd_var 4 (pv 4)) set_list))))) (pssd_freeze 3 (pssd_one (psd_ret (pd_maxE rfl hr.units rfl z_max (pb_var 3 (pv 3)) pd_int)))))))
noncomputable abbrev s_Z3 : Stmt := top 21
noncomputable abbrev N_Z3 : List Str := ["row", "step", "steps", "most", "tails", "kept"]
theorem sc_Z3 : FnScope N_Z3 ["row", "step"] (defScope s_Z3) := ⟨rfl, rfl, rfl, by decide +kernel, rfl, by decide +kernel, by decide +kernel⟩
theorem ok_Z3 {P : Program} {w : World} {K : PySem.W.Frag} {mg : Str -> Option Value} {base : Heap} {f : Addr} {fd : FuncData} {x_Z11 : Addr} {d_Z11 : FuncData} {x_Z7 : Addr} {d_Z7 : FuncData} {x_Z6 : Addr} {d_Z6 : FuncData} {x_Z15 : Addr} {d_Z15 : FuncData} {x_Z4 : Addr} {d_Z4 : FuncData} {x_Z13 : Addr} {d_Z13 : FuncData} (Fn : Fun K "kept_by_turns" "kept_by_turns" s_Z3 f fd) (G_Z11 : FnOk P w K mg base CX0 1 x_Z11 d_Z11 ["row", "step"] (spR K 2 m_Z11)) (b_Z11 : Binds K d_Z11 ["row", "step"] []) (k_Z11 : PySem.W.keepIn K (.ref x_Z11) = true) (a_Z11 : mg "later_steps" = some (.ref x_Z11)) (G_Z7 : FnOk P w K mg base CX0 3 x_Z7 d_Z7 ["tails"] (spR K 1 m_Z7)) (b_Z7 : Binds K d_Z7 ["tails"] []) (k_Z7 : PySem.W.keepIn K (.ref x_Z7) = true) (a_Z7 : mg "longest_tail" = some (.ref x_Z7)) (G_Z6 : FnOk P w K mg base CX0 1 x_Z6 d_Z6 ["steps"] (spR K 1 m_Z6)) (b_Z6 : Binds K d_Z6 ["steps"] []) (k_Z6 : PySem.W.keepIn K (.ref x_Z6) = true) (a_Z6 : mg "most_stepped" = some (.ref x_Z6)) (G_Z15 : FnOk P w K mg base CX0 1 x_Z15 d_Z15 ["row"] (spR K 1 m_Z15)) (b_Z15 : Binds K d_Z15 ["row"] []) (k_Z15 : PySem.W.keepIn K (.ref x_Z15) = true) (a_Z15 : mg "no_tails" = some (.ref x_Z15)) (G_Z4 : FnOk P w K mg base CX0 3 x_Z4 d_Z4 ["steps", "fewer"] (spR K 2 m_Z4)) (b_Z4 : Binds K d_Z4 ["steps", "fewer"] []) (k_Z4 : PySem.W.keepIn K (.ref x_Z4) = true) (a_Z4 : mg "one_turn_more" = some (.ref x_Z4)) (G_Z13 : FnOk P w K mg base CX0 1 x_Z13 d_Z13 ["step"] (spR K 1 m_Z13)) (b_Z13 : Binds K d_Z13 ["step"] []) (k_Z13 : PySem.W.keepIn K (.ref x_Z13) = true) (a_Z13 : mg "refuse_step" = some (.ref x_Z13)) (GX_Z13 : FnOk P w K mg base (CXx P w) 1 x_Z13 d_Z13 ["step"] (spX K 1 xm_Z13)) (z_len : mg "len" = none) : FnOk P w K mg base CX0 4 f fd ["row", "step"] (spR K 2 m_Z3) :=
 Fn.okD (k := 3) (m := b_Z3) sc_Z3 fun cdv A outer s H E hr => (pssd_cons (psd_expr (pd_call (fun t ha => pe_call (G_Z13.mono (by decide)) hr rfl a_Z13 k_Z13 b_Z13 .nil pass0 ha) rfl (pas_cons (pd_var 1 (pv 1)) pas_nil) (acons_len anil_len))) (pssd_cons (psd_set (i := 2) sc_Z3.nd rfl (by first | exact Or.inl rfl | exact Or.inr rfl) (pd_call (fun t ha => pe_call (G_Z11.mono (by decide)) hr rfl a_Z11 k_Z11 b_Z11 .nil pass0 ha) rfl (pas_cons (pd_var 0 (pv 0)) (pas_cons (pd_var 1 (pv 1)) pas_nil)) (acons_len (acons_len anil_len)))) (pssd_cons (psd_set (i := 3) sc_Z3.nd rfl (by first | exact Or.inl rfl | exact Or.inr rfl) (pd_call (fun t ha => pe_call (G_Z6.mono (by decide)) hr rfl a_Z6 k_Z6 b_Z6 .nil pass0 ha) rfl (pas_cons (pd_var 2 (pv 2)) pas_nil) (acons_len anil_len))) (pssd_cons (psd_set (i := 4) sc_Z3.nd rfl (by first | exact Or.inl rfl | exact Or.inr rfl) (pd_call (fun t ha => pe_call (G_Z4.mono (by decide)) hr rfl a_Z4 k_Z4 b_Z4 .nil pass0 ha) rfl (pas_cons (pd_var 2 (pv 2)) (pas_cons (pd_call (fun t ha => pe_call (G_Z15.mono (by decide)) hr rfl a_Z15 k_Z15 b_Z15 .nil pass0 ha) rfl (pas_cons (pd_var 0 (pv 0)) pas_nil) (acons_len anil_len)) pas_nil)) (acons_len (acons_len anil_len)))) (pssd_cons (psd_setF (i := 5) sc_Z3.nd rfl (by first | exact Or.inl rfl | exact Or.inr rfl) (pf_lst (pas_cons (pd_lenB rfl z_len (pd_pb (pd_call (fun t ha => pe_call (G_Z7.mono (by decide)) hr rfl a_Z7 k_Z7 b_Z7 .nil pass0 ha) rfl (pas_cons (pd_var 4 (pv 4)) pas_nil) (acons_len anil_len)))) pas_nil))) (pssd_cons (psd_while 1000 PassesOwn.never (pc_cmp op_lt opd_lt (pd_ix (pb_var 5 (pv 5)) (pd_neg pd_int)) (pd_var 3 (pv 3)) (nomark _)) (pssd_cons (psd_set (i := 4) sc_Z3.nd rfl (by first | exact Or.inl rfl | exact Or.inr rfl) (pd_call (fun t ha => pe_call (G_Z4.mono (by decide)) hr rfl a_Z4 k_Z4 b_Z4 .nil pass0 ha) rfl (pas_cons (pd_var 2 (pv 2)) (pas_cons (pd_var 4 (pv 4)) pas_nil)) (acons_len (acons_len anil_len)))) (pssd_one (psd_append (i := 5) (pv 5) (pd_lenB rfl z_len (pd_pb (pd_call (fun t ha => pe_call (G_Z7.mono (by decide)) hr rfl a_Z7 k_Z7 b_Z7 .nil pass0 ha) rfl (pas_cons (pd_var 4 (pv 4)) pas_nil) (acons_len anil_len)))) (fun t ha => pe_bm PySem.F.plainAttrs_list PySem.F.slot_list_append PySem.F.type_list_append mt_append (pv 5) ha) (pas_cons (pd_lenB rfl z_len (pd_pb (pd_call (fun t ha => pe_call (G_Z7.mono (by decide)) hr rfl a_Z7 k_Z7 b_Z7 .nil pass0 ha) rfl (pas_cons (pd_var 4 (pv 4)) pas_nil) (acons_len anil_len)))) pas_nil))))) (pssd_one (psd_retO 5 (pv 5)))))))))
theorem okx_Z3 {P : Program} {w : World} {K : PySem.W.Frag} {mg : Str -> Option Value} {base : Heap} {f : Addr} {fd : FuncData} {x_Z11 : Addr} {d_Z11 : FuncData} {x_Z7 : Addr} {d_Z7 : FuncData} {x_Z6 : Addr} {d_Z6 : FuncData} {x_Z15 : Addr} {d_Z15 : FuncData} {x_Z4 : Addr} {d_Z4 : FuncData} {x_Z13 : Addr} {d_Z13 : FuncData} (Fn : Fun K "kept_by_turns" "kept_by_turns" s_Z3 f fd) (G_Z11 : FnOk P w K mg base CX0 1 x_Z11 d_Z11 ["row", "step"] (spR K 2 m_Z11)) (b_Z11 : Binds K d_Z11 ["row", "step"] []) (k_Z11 : PySem.W.keepIn K (.ref x_Z11) = true) (a_Z11 : mg "later_steps" = some (.ref x_Z11)) (G_Z7 : FnOk P w K mg base CX0 3 x_Z7 d_Z7 ["tails"] (spR K 1 m_Z7)) (b_Z7 : Binds K d_Z7 ["tails"] []) (k_Z7 : PySem.W.keepIn K (.ref x_Z7) = true) (a_Z7 : mg "longest_tail" = some (.ref x_Z7)) (G_Z6 : FnOk P w K mg base CX0 1 x_Z6 d_Z6 ["steps"] (spR K 1 m_Z6)) (b_Z6 : Binds K d_Z6 ["steps"] []) (k_Z6 : PySem.W.keepIn K (.ref x_Z6) = true) (a_Z6 : mg "most_stepped" = some (.ref x_Z6)) (G_Z15 : FnOk P w K mg base CX0 1 x_Z15 d_Z15 ["row"] (spR K 1 m_Z15)) (b_Z15 : Binds K d_Z15 ["row"] []) (k_Z15 : PySem.W.keepIn K (.ref x_Z15) = true) (a_Z15 : mg "no_tails" = some (.ref x_Z15)) (G_Z4 : FnOk P w K mg base CX0 3 x_Z4 d_Z4 ["steps", "fewer"] (spR K 2 m_Z4)) (b_Z4 : Binds K d_Z4 ["steps", "fewer"] []) (k_Z4 : PySem.W.keepIn K (.ref x_Z4) = true) (a_Z4 : mg "one_turn_more" = some (.ref x_Z4)) (G_Z13 : FnOk P w K mg base CX0 1 x_Z13 d_Z13 ["step"] (spR K 1 m_Z13)) (b_Z13 : Binds K d_Z13 ["step"] []) (k_Z13 : PySem.W.keepIn K (.ref x_Z13) = true) (a_Z13 : mg "refuse_step" = some (.ref x_Z13)) (GX_Z13 : FnOk P w K mg base (CXx P w) 1 x_Z13 d_Z13 ["step"] (spX K 1 xm_Z13)) (z_len : mg "len" = none) : FnOk P w K mg base (CXx P w) 4 f fd ["row", "step"] (spX K 2 xm_Z3) :=
 Fn.okX (k := 3) (m := bx_Z3) sc_Z3 fun cdv A outer s H E hr => (pssx_head (psx_expr (pex_call rfl ⟨rfl, rfl, rfl⟩ (GX_Z13.mono (by decide)) hr rfl a_Z13 k_Z13 b_Z13 rfl (pas_cons (pd_var 1 (pv 1)) pas_nil) (acons_len anil_len))))
noncomputable abbrev s_Z10 : Stmt := top 22
noncomputable abbrev N_Z10 : List Str := ["row", "step", "many", "turns", "kept"]
theorem sc_Z10 : FnScope N_Z10 ["row", "step", "many"] (defScope s_Z10) := ⟨rfl, rfl, rfl, by decide +kernel, rfl, by decide +kernel, by decide +kernel⟩
theorem ok_Z10 {P : Program} {w : World} {K : PySem.W.Frag} {mg : Str -> Option Value} {base : Heap} {f : Addr} {fd : FuncData} {x_Z3 : Addr} {d_Z3 : FuncData} {x_Z13 : Addr} {d_Z13 : FuncData} (Fn : Fun K "fewest_turns" "fewest_turns" s_Z10 f fd) (G_Z3 : FnOk P w K mg base CX0 4 x_Z3 d_Z3 ["row", "step"] (spR K 2 m_Z3)) (b_Z3 : Binds K d_Z3 ["row", "step"] []) (k_Z3 : PySem.W.keepIn K (.ref x_Z3) = true) (a_Z3 : mg "kept_by_turns" = some (.ref x_Z3)) (G_Z13 : FnOk P w K mg base CX0 1 x_Z13 d_Z13 ["step"] (spR K 1 m_Z13)) (b_Z13 : Binds K d_Z13 ["step"] []) (k_Z13 : PySem.W.keepIn K (.ref x_Z13) = true) (a_Z13 : mg "refuse_step" = some (.ref x_Z13)) (GX_Z13 : FnOk P w K mg base (CXx P w) 1 x_Z13 d_Z13 ["step"] (spX K 1 xm_Z13)) {y_NoNumber : Addr} (a_NoNumber : mg "NoNumber" = some (.ref y_NoNumber)) (xc_NoNumber : XC K "NoNumber" y_NoNumber) (q_NoNumber : PySem.W.excIn K y_NoNumber bmV "ValueError.__new__" = true) (z_enumerate : mg "enumerate" = none) : FnOk P w K mg base CX0 5 f fd ["row", "step", "many"] (spR K 3 m_Z10) :=
 Fn.okD (k := 4) (m := b_Z10) sc_Z10 fun cdv A outer s H E hr => (pssd_cons (psd_expr (pd_call (fun t ha => pe_call (G_Z13.mono (by decide)) hr rfl a_Z13 k_Z13 b_Z13 .nil pass0 ha) rfl (pas_cons (pd_var 1 (pv 1)) pas_nil) (acons_len anil_len))) (pssd_cons (psd_if (pc_cmp op_lt opd_lt (pd_var 2 (pv 2)) pd_int (nomark _)) (pssd_one psd_never) pssd_nil) (pssd_cons (psd_for PassesOwn.never rfl (pid_enum rfl z_enumerate (pas_cons (pd_call (fun t ha => pe_call (G_Z3.mono (by decide)) hr rfl a_Z3 k_Z3 b_Z3 .nil pass0 ha) rfl (pas_cons (pd_var 0 (pv 0)) (pas_cons (pd_var 1 (pv 1)) pas_nil)) (acons_len (acons_len anil_len))) pas_nil)) (pgd_tup (is := [3, 4]) (pg_tup rfl (pgs_cons (pg_name (i := 3) sc_Z10.nd rfl (by first | exact Or.inl rfl | exact Or.inr rfl)) (pgs_cons (pg_name (i := 4) sc_Z10.nd rfl (by first | exact Or.inl rfl | exact Or.inr rfl)) pgs_nil)))) (pssd_one (psd_if (pc_cmp op_ge opd_ge (pd_var 4 (pv 4)) (pd_var 2 (pv 2)) (nomark _)) (pssd_one (psd_retO 3 (pv 3))) pssd_nil))) (pssd_one (psd_ret pd_non)))))
theorem okx_Z10 {P : Program} {w : World} {K : PySem.W.Frag} {mg : Str -> Option Value} {base : Heap} {f : Addr} {fd : FuncData} {x_Z3 : Addr} {d_Z3 : FuncData} {x_Z13 : Addr} {d_Z13 : FuncData} (Fn : Fun K "fewest_turns" "fewest_turns" s_Z10 f fd) (G_Z3 : FnOk P w K mg base CX0 4 x_Z3 d_Z3 ["row", "step"] (spR K 2 m_Z3)) (b_Z3 : Binds K d_Z3 ["row", "step"] []) (k_Z3 : PySem.W.keepIn K (.ref x_Z3) = true) (a_Z3 : mg "kept_by_turns" = some (.ref x_Z3)) (G_Z13 : FnOk P w K mg base CX0 1 x_Z13 d_Z13 ["step"] (spR K 1 m_Z13)) (b_Z13 : Binds K d_Z13 ["step"] []) (k_Z13 : PySem.W.keepIn K (.ref x_Z13) = true) (a_Z13 : mg "refuse_step" = some (.ref x_Z13)) (GX_Z13 : FnOk P w K mg base (CXx P w) 1 x_Z13 d_Z13 ["step"] (spX K 1 xm_Z13)) {y_NoNumber : Addr} (a_NoNumber : mg "NoNumber" = some (.ref y_NoNumber)) (xc_NoNumber : XC K "NoNumber" y_NoNumber) (q_NoNumber : PySem.W.excIn K y_NoNumber bmV "ValueError.__new__" = true) (z_enumerate : mg "enumerate" = none) : FnOk P w K mg base (CXx P w) 5 f fd ["row", "step", "many"] (spX K 3 xm_Z10) :=
 Fn.okX (k := 4) (m := bx_Z10) sc_Z10 fun cdv A outer s H E hr => (pssx_cons rfl (psd_expr (pd_call (fun t ha => pe_call (G_Z13.mono (by decide)) hr rfl a_Z13 k_Z13 b_Z13 .nil pass0 ha) rfl (pas_cons (pd_var 1 (pv 1)) pas_nil) (acons_len anil_len))) (psx_expr (pex_call rfl ⟨rfl, rfl, rfl⟩ (GX_Z13.mono (by decide)) hr rfl a_Z13 k_Z13 b_Z13 rfl (pas_cons (pd_var 1 (pv 1)) pas_nil) (acons_len anil_len))) (pssx_cons rfl (psd_if (pc_cmp op_lt opd_lt (pd_var 2 (pv 2)) pd_int (nomark _)) (pssd_one psd_never) pssd_nil) (psx_if rfl (pc_cmp op_lt opd_lt (pd_var 2 (pv 2)) pd_int (nomark _)) (pssx_one (psx_raise rfl ⟨rfl, rfl, rfl⟩ rfl rfl a_NoNumber xc_NoNumber q_NoNumber (pas_cons pd_str pas_nil) (acons_len anil_len) (by decide))) pssx_none) (pssx_head (psx_for rfl rfl (pid_enum rfl z_enumerate (pas_cons (pd_call (fun t ha => pe_call (G_Z3.mono (by decide)) hr rfl a_Z3 k_Z3 b_Z3 .nil pass0 ha) rfl (pas_cons (pd_var 0 (pv 0)) (pas_cons (pd_var 1 (pv 1)) pas_nil)) (acons_len (acons_len anil_len))) pas_nil)) (pgd_tup (is := [3, 4]) (pg_tup rfl (pgs_cons (pg_name (i := 3) sc_Z10.nd rfl (by first | exact Or.inl rfl | exact Or.inr rfl)) (pgs_cons (pg_name (i := 4) sc_Z10.nd rfl (by first | exact Or.inl rfl | exact Or.inr rfl)) pgs_nil)))) (pssd_one (psd_if (pc_cmp op_ge opd_ge (pd_var 4 (pv 4)) (pd_var 2 (pv 2)) (nomark _)) (pssd_one (psd_retO 3 (pv 3))) pssd_nil)) pssx_none))))
noncomputable abbrev s_Z16 : Stmt := top 24
noncomputable abbrev N_Z16 : List Str := ["pot", "many", "cell", "stir"]
theorem sc_Z16 : FnScope N_Z16 ["pot", "many"] (defScope s_Z16) := ⟨rfl, rfl, rfl, by decide +kernel, rfl, by decide +kernel, by decide +kernel⟩
theorem ok_Z16 {P : Program} {w : World} {K : PySem.W.Frag} {mg : Str -> Option Value} {base : Heap} {f : Addr} {fd : FuncData} (Fn : Fun K "_law_next" "_law_next" s_Z16 f fd) : FnOk P w K mg base CX0 1 f fd ["pot", "many"] (spG K 2 m_Z16) :=
 Fn.okGl (k := 0) (m := b_Z16) sc_Z16 (by decide) fun cdv A outer s H E hr => (pssd_cons (psd_setix (i := 0) (ps_asg (pd_add (pd_ix (pb_var 0 (pv 0)) pd_int) pd_int) (pg_sub (pv 0) pd_int set_list))) (pssd_cons (psd_set (i := 2) sc_Z16.nd rfl (by first | exact Or.inl rfl | exact Or.inr rfl) (pd_ix (pb_var 0 (pv 0)) pd_int)) (pssd_cons (psd_if (pc_cmp op_ge opd_ge (pd_var 2 (pv 2)) (pd_pow pd_int pd_int) (nomark _)) (pssd_cons (psd_setix (i := 0) (ps_asg (pd_fdiv (pd_var 2 (pv 2)) (pd_var 1 (pv 1))) (pg_sub (pv 0) pd_int set_list))) (pssd_one (psd_retG 0 (pdm_pure (pd_mod (pd_var 2 (pv 2)) (pd_var 1 (pv 1))))))) pssd_nil) (pssd_cons (psd_set (i := 3) sc_Z16.nd rfl (by first | exact Or.inl rfl | exact Or.inr rfl) (pd_mod (pd_add (pd_add (pd_mul (pd_var 2 (pv 2)) pd_int) (pd_mul (pd_ix (pb_var 0 (pv 0)) pd_int) pd_int)) pd_int) pd_int)) (pssd_cons (psd_set (i := 3) sc_Z16.nd rfl (by first | exact Or.inl rfl | exact Or.inr rfl) (pd_mod (pd_mul (pd_var 3 (pv 3)) (pd_var 3 (pv 3))) pd_int)) (pssd_one (psd_retG 0 (pdm_pure (pd_mod (pd_fdiv (pd_mod (pd_add (pd_mul (pd_var 3 (pv 3)) pd_int) (pd_mul (pd_ix (pb_var 0 (pv 0)) pd_int) pd_int)) pd_int) pd_int) (pd_var 1 (pv 1)))))))))))
noncomputable abbrev s_law_pots : Stmt := top 25
noncomputable abbrev N_law_pots : List Str := ["script"]
theorem sc_law_pots : FnScope N_law_pots ["script"] (defScope s_law_pots) := ⟨rfl, rfl, rfl, by decide +kernel, rfl, by decide +kernel, by decide +kernel⟩
theorem nd_law_pots_0 : List.Nodup (["cell"] : List Str) := by decide +kernel
theorem ok_law_pots {P : Program} {w : World} {K : PySem.W.Frag} {mg : Str -> Option Value} {base : Heap} {f : Addr} {fd : FuncData} (Fn : Fun K "_law_pots" "_law_pots" s_law_pots f fd) (z_len : mg "len" = none) : FnOk P w K mg base CX0 1 f fd ["script"] (spP K 1 m_law_pots) :=
 Fn.okP (k := 0) sc_law_pots rfl (fun cdv A outer s H E hr => (pc_cmp op_eq opd_eqS (pd_lenB rfl z_len (pb_var 0 (pv 0))) pd_int (nomark _))) (fun cdv A outer s H E hr => (pp_lst1 (pf_lst (pas_cons pd_int (pas_cons pd_int pas_nil))))) (fun cdv A outer s H E hr => (pp_comp (blk_of (N := ["cell"]) (src := [none]) (defScope s_law_pots) N_law_pots rfl rfl (by decide +kernel)) rfl (pid_seq (pf_pd (pf_sl (pb_var 0 (pv 0)) pos_none (pos_some pd_int)))) (fun C fp s0 H0 => (pgd_name (i := 0) (pg_name nd_law_pots_0 rfl (by first | exact Or.inl rfl | exact Or.inr rfl)))) (fun C fp s0 H0 => (pf_lst (pas_cons (pd_var 0 (pv 0)) (pas_cons pd_int pas_nil))))))
noncomputable abbrev s_Z0 : Stmt := top 26
noncomputable abbrev N_Z0 : List Str := ["pot", "kind"]
theorem sc_Z0 : FnScope N_Z0 ["pot", "kind"] (defScope s_Z0) := ⟨rfl, rfl, rfl, by decide +kernel, rfl, by decide +kernel, by decide +kernel⟩
theorem ok_Z0 {P : Program} {w : World} {K : PySem.W.Frag} {mg : Str -> Option Value} {base : Heap} {f : Addr} {fd : FuncData} {x_Z16 : Addr} {d_Z16 : FuncData} (Fn : Fun K "_law_some_number" "_law_some_number" s_Z0 f fd) (G_Z16 : FnOk P w K mg base CX0 1 x_Z16 d_Z16 ["pot", "many"] (spG K 2 m_Z16)) (b_Z16 : Binds K d_Z16 ["pot", "many"] []) (k_Z16 : PySem.W.keepIn K (.ref x_Z16) = true) (a_Z16 : mg "_law_next" = some (.ref x_Z16)) : FnOk P w K mg base CX0 2 f fd ["pot", "kind"] (spG K 2 m_Z0) :=
 Fn.okGl (k := 1) (m := b_Z0) sc_Z0 (by decide) fun cdv A outer s H E hr => (pssd_cons (psd_if (pc_cmp op_eq opd_eqS (pd_var 1 (pv 1)) pd_int (nomark _)) (pssd_one (psd_retG 0 (pdm_callG (i := 0) (fun t ha => pe_call (G_Z16.mono (by decide)) hr rfl a_Z16 k_Z16 b_Z16 .nil pass0 ha) rfl (pv 0) (pam_pure (pas_cons pd_int pas_nil)) (apu_len (acons_len anil_len))))) pssd_nil) (pssd_cons (psd_if (pc_cmp op_eq opd_eqS (pd_var 1 (pv 1)) pd_int (nomark _)) (pssd_one (psd_retG 0 (pdm_op op_sub opd_sub (pdm_callG (i := 0) (fun t ha => pe_call (G_Z16.mono (by decide)) hr rfl a_Z16 k_Z16 b_Z16 .nil pass0 ha) rfl (pv 0) (pam_pure (pas_cons pd_int pas_nil)) (apu_len (acons_len anil_len))) (pdm_pure pd_int)))) pssd_nil) (pssd_cons (psd_if (pc_cmp op_eq opd_eqS (pd_var 1 (pv 1)) pd_int (nomark _)) (pssd_one (psd_retG 0 (pdm_op op_sub opd_sub (pdm_callG (i := 0) (fun t ha => pe_call (G_Z16.mono (by decide)) hr rfl a_Z16 k_Z16 b_Z16 .nil pass0 ha) rfl (pv 0) (pam_pure (pas_cons pd_int pas_nil)) (apu_len (acons_len anil_len))) (pdm_pure pd_int)))) pssd_nil) (pssd_one (psd_retG 0 (pdm_op op_mul opd_mul (pdm_ix (pdm_pure (pf_pd (pf_lst (pas_cons (pd_neg pd_int) (pas_cons pd_int pas_nil))))) (pdm_callG (i := 0) (fun t ha => pe_call (G_Z16.mono (by decide)) hr rfl a_Z16 k_Z16 b_Z16 .nil pass0 ha) rfl (pv 0) (pam_pure (pas_cons pd_int pas_nil)) (apu_len (acons_len anil_len)))) (pdm_op (OpR.or op_add op_catS) opd_add (pdm_pure (pd_pow pd_int pd_int)) (pdm_callG (i := 0) (fun t ha => pe_call (G_Z16.mono (by decide)) hr rfl a_Z16 k_Z16 b_Z16 .nil pass0 ha) rfl (pv 0) (pam_pure (pas_cons pd_int pas_nil)) (apu_len (acons_len anil_len))))))))))
noncomputable abbrev s_Z8 : Stmt := top 27
noncomputable abbrev N_Z8 : List Str := ["pot", "most", "kind", "many", "found", "shape"]
theorem sc_Z8 : FnScope N_Z8 ["pot", "most"] (defScope s_Z8) := ⟨rfl, rfl, rfl, by decide +kernel, rfl, by decide +kernel, by decide +kernel⟩
theorem nd_law_some_row_0 : List.Nodup (["k", "pot", "kind"] : List Str) := by decide +kernel
theorem nd_law_some_row_1 : List.Nodup (["k", "number"] : List Str) := by decide +kernel
theorem ok_Z8 {P : Program} {w : World} {K : PySem.W.Frag} {mg : Str -> Option Value} {base : Heap} {f : Addr} {fd : FuncData} {x_Z16 : Addr} {d_Z16 : FuncData} {x_Z0 : Addr} {d_Z0 : FuncData} (Fn : Fun K "_law_some_row" "_law_some_row" s_Z8 f fd) (G_Z16 : FnOk P w K mg base CX0 1 x_Z16 d_Z16 ["pot", "many"] (spG K 2 m_Z16)) (b_Z16 : Binds K d_Z16 ["pot", "many"] []) (k_Z16 : PySem.W.keepIn K (.ref x_Z16) = true) (a_Z16 : mg "_law_next" = some (.ref x_Z16)) (G_Z0 : FnOk P w K mg base CX0 2 x_Z0 d_Z0 ["pot", "kind"] (spG K 2 m_Z0)) (b_Z0 : Binds K d_Z0 ["pot", "kind"] []) (k_Z0 : PySem.W.keepIn K (.ref x_Z0) = true) (a_Z0 : mg "_law_some_number" = some (.ref x_Z0)) (z_enumerate : mg "enumerate" = none) (z_min : mg "min" = none) (z_range : mg "range" = none) (z_sorted : mg "sorted" = none) : FnOk P w K mg base CX0 3 f fd ["pot", "most"] (spG K 2 m_Z8) :=
 Fn.okGl (k := 2) (m := b_Z8) sc_Z8 (by decide) fun cdv A outer s H E hr => (pssd_cons (psd_setm (i := 2) sc_Z8.nd rfl (by first | exact Or.inl rfl | exact Or.inr rfl) (pdm_callG (i := 0) (fun t ha => pe_call (G_Z16.mono (by decide)) hr rfl a_Z16 k_Z16 b_Z16 .nil pass0 ha) rfl (pv 0) (pam_pure (pas_cons pd_int pas_nil)) (apu_len (acons_len anil_len)))) (pssd_cons (psd_setm (i := 3) sc_Z8.nd rfl (by first | exact Or.inl rfl | exact Or.inr rfl) (pdm_callG (i := 0) (fun t ha => pe_call (G_Z16.mono (by decide)) hr rfl a_Z16 k_Z16 b_Z16 .nil pass0 ha) rfl (pv 0) (pam_cons (pdm_ix (pdm_pure (pf_pd (pf_lst (pas_cons (pd_min2 rfl rfl z_min (pas_cons pd_int (pas_cons (pd_add (pd_var 1 (pv 1)) pd_int) pas_nil))) (pas_cons (pd_min2 rfl rfl z_min (pas_cons pd_int (pas_cons (pd_add (pd_var 1 (pv 1)) pd_int) pas_nil))) (pas_cons (pd_add (pd_var 1 (pv 1)) pd_int) pas_nil)))))) (pdm_callG (i := 0) (fun t ha => pe_call (G_Z16.mono (by decide)) hr rfl a_Z16 k_Z16 b_Z16 .nil pass0 ha) rfl (pv 0) (pam_pure (pas_cons pd_int pas_nil)) (apu_len (acons_len anil_len)))) (pam_pure pas_nil)) (aconsm_len (apu_len anil_len)))) (pssd_cons (psd_setCmB (i := 0) (j := 1) rfl (by decide) (ps_setC (i := 4) sc_Z8.nd rfl (by first | exact Or.inl rfl | exact Or.inr rfl) (blk_of (N := ["k", "pot", "kind"]) (src := [none, some 0, some 2]) (defScope s_Z8) N_Z8 rfl rfl (by decide +kernel)) rfl (pid_range1 rfl z_range (pas_cons (pd_var 3 (pv 3)) pas_nil)) (fun C fp s0 H0 => (pg_name (i := 0) nd_law_some_row_0 rfl (by first | exact Or.inl rfl | exact Or.inr rfl))) (fun C fp s0 H0 => pts_nil) (fun C fp s0 H0 => (pdm_callG (i := 1) (fun t ha => pe_call (G_Z0.mono (by decide)) hr rfl a_Z0 k_Z0 b_Z0 .nil pass0 ha) rfl (pv 1) (pam_pure (pas_cons (pd_var 2 (pv 2)) pas_nil)) (apu_len (acons_len anil_len)))))) (pssd_cons (psd_setm (i := 5) sc_Z8.nd rfl (by first | exact Or.inl rfl | exact Or.inr rfl) (pdm_callG (i := 0) (fun t ha => pe_call (G_Z16.mono (by decide)) hr rfl a_Z16 k_Z16 b_Z16 .nil pass0 ha) rfl (pv 0) (pam_pure (pas_cons pd_int pas_nil)) (apu_len (acons_len anil_len)))) (pssd_cons (psd_if (pc_cmp op_eq opd_eqS (pd_var 5 (pv 5)) pd_int (nomark _)) (pssd_one (psd_set (i := 4) sc_Z8.nd rfl (by first | exact Or.inl rfl | exact Or.inr rfl) (pf_pd (pf_sorted rfl z_sorted (pb_var 4 (pv 4)) PyProof.Rows.boot_sorted)))) pssd_nil) (pssd_cons (psd_if (pc_cmp op_eq opd_eqS (pd_var 5 (pv 5)) pd_int (nomark _)) (pssd_one (psd_setCs (ps_setC (i := 4) sc_Z8.nd rfl (by first | exact Or.inl rfl | exact Or.inr rfl) (blk_of (N := ["k", "number"]) (src := [none, none]) (defScope s_Z8) N_Z8 rfl rfl (by decide +kernel)) rfl (pid_enum rfl z_enumerate (pas_cons (pd_var 4 (pv 4)) pas_nil)) (fun C fp s0 H0 => (pgd_tup (is := [0, 1]) (pg_tup rfl (pgs_cons (pg_name (i := 0) nd_law_some_row_1 rfl (by first | exact Or.inl rfl | exact Or.inr rfl)) (pgs_cons (pg_name (i := 1) nd_law_some_row_1 rfl (by first | exact Or.inl rfl | exact Or.inr rfl)) pgs_nil))))) (fun C fp s0 H0 => ptsd_nil) (fun C fp s0 H0 => (pd_add (pd_var 1 (pv 1)) (pd_ix (pf_pb (pf_lst (pas_cons pd_int (pas_cons (pd_neg pd_int) pas_nil)))) (pd_mod (pd_var 0 (pv 0)) pd_int))))))) pssd_nil) (pssd_cons (psd_if (pc_cmp op_eq opd_eqS (pd_var 5 (pv 5)) pd_int (nomark _)) (pssd_one (psd_set (i := 4) sc_Z8.nd rfl (by first | exact Or.inl rfl | exact Or.inr rfl) (pf_pd (pf_rep (pf_sl (pb_var 4 (pv 4)) pos_none (pos_some pd_int)) (pd_var 3 (pv 3)))))) pssd_nil) (pssd_one (psd_retG 0 (pdm_pure (pd_var 4 (pv 4))))))))))))
noncomputable abbrev s_Z5 : Stmt := top 28
noncomputable abbrev N_Z5 : List Str := ["pot"]
theorem sc_Z5 : FnScope N_Z5 ["pot"] (defScope s_Z5) := ⟨rfl, rfl, rfl, by decide +kernel, rfl, by decide +kernel, by decide +kernel⟩
theorem ok_Z5 {P : Program} {w : World} {K : PySem.W.Frag} {mg : Str -> Option Value} {base : Heap} {f : Addr} {fd : FuncData} {x_Z16 : Addr} {d_Z16 : FuncData} (Fn : Fun K "_law_some_step" "_law_some_step" s_Z5 f fd) (G_Z16 : FnOk P w K mg base CX0 1 x_Z16 d_Z16 ["pot", "many"] (spG K 2 m_Z16)) (b_Z16 : Binds K d_Z16 ["pot", "many"] []) (k_Z16 : PySem.W.keepIn K (.ref x_Z16) = true) (a_Z16 : mg "_law_next" = some (.ref x_Z16)) : FnOk P w K mg base CX0 2 f fd ["pot"] (spG K 1 m_Z5) :=
 Fn.okGl (k := 1) (m := b_Z5) sc_Z5 (by decide) fun cdv A outer s H E hr => (pssd_one (psd_retG 0 (pdm_ix (pdm_lst (pam_cons (pdm_pure pd_int) (pam_cons (pdm_pure pd_int) (pam_cons (pdm_op (OpR.or op_add op_catS) opd_add (pdm_pure pd_int) (pdm_callG (i := 0) (fun t ha => pe_call (G_Z16.mono (by decide)) hr rfl a_Z16 k_Z16 b_Z16 .nil pass0 ha) rfl (pv 0) (pam_pure (pas_cons pd_int pas_nil)) (apu_len (acons_len anil_len)))) (pam_cons (pdm_op (OpR.or op_add op_catS) opd_add (pdm_pure pd_int) (pdm_callG (i := 0) (fun t ha => pe_call (G_Z16.mono (by decide)) hr rfl a_Z16 k_Z16 b_Z16 .nil pass0 ha) rfl (pv 0) (pam_pure (pas_cons pd_int pas_nil)) (apu_len (acons_len anil_len)))) (pam_pure (pas_cons (pd_pow pd_int pd_int) pas_nil))))))) (pdm_callG (i := 0) (fun t ha => pe_call (G_Z16.mono (by decide)) hr rfl a_Z16 k_Z16 b_Z16 .nil pass0 ha) rfl (pv 0) (pam_pure (pas_cons pd_int pas_nil)) (apu_len (acons_len anil_len))))))
noncomputable abbrev s_Z14 : Stmt := top 29
noncomputable abbrev N_Z14 : List Str := ["e", "found"]
theorem sc_Z14 : FnScope N_Z14 ["e"] (defScope s_Z14) := ⟨rfl, rfl, rfl, by decide +kernel, rfl, by decide +kernel, by decide +kernel⟩
theorem ok_Z14 {P : Program} {w : World} {K : PySem.W.Frag} {mg : Str -> Option Value} {base : Heap} {f : Addr} {fd : FuncData} (Fn : Fun K "_law_flags" "_law_flags" s_Z14 f fd) {y_NoForm : Addr} (a_NoForm : mg "NoForm" = some (.ref y_NoForm)) {y_NoNumber : Addr} (a_NoNumber : mg "NoNumber" = some (.ref y_NoNumber)) {y_NoPlace : Addr} (a_NoPlace : mg "NoPlace" = some (.ref y_NoPlace)) {y_NoStep : Addr} (a_NoStep : mg "NoStep" = some (.ref y_NoStep)) {y_NoText : Addr} (a_NoText : mg "NoText" = some (.ref y_NoText)) {y_NoWeights : Addr} (a_NoWeights : mg "NoWeights" = some (.ref y_NoWeights)) {y_NoneYet : Addr} (a_NoneYet : mg "NoneYet" = some (.ref y_NoneYet)) (hi_NoForm : ∀ c k, ([("NoNumber", false), ("NoStep", false)] : List (Str × Bool)).lookup c = some k -> ∀ C, XC K c C -> XCls K C /\ PySem.W.kitOne K (.ref C) (.ref y_NoForm) = some k) (hi_NoNumber : ∀ c k, ([("NoNumber", true), ("NoStep", false)] : List (Str × Bool)).lookup c = some k -> ∀ C, XC K c C -> XCls K C /\ PySem.W.kitOne K (.ref C) (.ref y_NoNumber) = some k) (hi_NoPlace : ∀ c k, ([("NoNumber", false), ("NoStep", false)] : List (Str × Bool)).lookup c = some k -> ∀ C, XC K c C -> XCls K C /\ PySem.W.kitOne K (.ref C) (.ref y_NoPlace) = some k) (hi_NoStep : ∀ c k, ([("NoNumber", false), ("NoStep", true)] : List (Str × Bool)).lookup c = some k -> ∀ C, XC K c C -> XCls K C /\ PySem.W.kitOne K (.ref C) (.ref y_NoStep) = some k) (hi_NoText : ∀ c k, ([("NoNumber", false), ("NoStep", false)] : List (Str × Bool)).lookup c = some k -> ∀ C, XC K c C -> XCls K C /\ PySem.W.kitOne K (.ref C) (.ref y_NoText) = some k) (hi_NoWeights : ∀ c k, ([("NoNumber", false), ("NoStep", false)] : List (Str × Bool)).lookup c = some k -> ∀ C, XC K c C -> XCls K C /\ PySem.W.kitOne K (.ref C) (.ref y_NoWeights) = some k) (hi_NoneYet : ∀ c k, ([("NoNumber", false), ("NoStep", false)] : List (Str × Bool)).lookup c = some k -> ∀ C, XC K c C -> XCls K C /\ PySem.W.kitOne K (.ref C) (.ref y_NoneYet) = some k) (hb_ValueError : ∀ c k, ([("NoNumber", true), ("NoStep", true)] : List (Str × Bool)).lookup c = some k -> ∀ C, XC K c C -> XCls K C /\ PySem.W.kitOne K (.ref C) (.type "ValueError") = some k) (z_ValueError : mg "ValueError" = none) (z_isinstance : mg "isinstance" = none) : FnOkN P w K mg base CX0 1 f fd ["e"] (spR K 1 m_Z14) :=
 Fn.okN (k := 0) (m := b_Z14) sc_Z14 fun cdv A outer s H E hr => (pssd_cons (psd_set (i := 1) sc_Z14.nd rfl (by first | exact Or.inl rfl | exact Or.inr rfl) (pf_pd (pf_lst (pas_cons (pd_isX (tab := [("NoNumber", false), ("NoStep", true)]) rfl z_isinstance rfl a_NoStep (pd_var 0 (pv 0)) hi_NoStep) (pas_cons (pd_isX (tab := [("NoNumber", true), ("NoStep", false)]) rfl z_isinstance rfl a_NoNumber (pd_var 0 (pv 0)) hi_NoNumber) (pas_cons (pd_isX (tab := [("NoNumber", false), ("NoStep", false)]) rfl z_isinstance rfl a_NoWeights (pd_var 0 (pv 0)) hi_NoWeights) (pas_cons (pd_isX (tab := [("NoNumber", false), ("NoStep", false)]) rfl z_isinstance rfl a_NoPlace (pd_var 0 (pv 0)) hi_NoPlace) pas_nil))))))) (pssd_cons (psd_set (i := 1) sc_Z14.nd rfl (by first | exact Or.inl rfl | exact Or.inr rfl) (pf_pd (pf_cat (pb_var 1 (pv 1)) (pf_pb (pf_lst (pas_cons (pd_isX (tab := [("NoNumber", false), ("NoStep", false)]) rfl z_isinstance rfl a_NoText (pd_var 0 (pv 0)) hi_NoText) (pas_cons (pd_isX (tab := [("NoNumber", false), ("NoStep", false)]) rfl z_isinstance rfl a_NoForm (pd_var 0 (pv 0)) hi_NoForm) (pas_cons (pd_isX (tab := [("NoNumber", false), ("NoStep", false)]) rfl z_isinstance rfl a_NoneYet (pd_var 0 (pv 0)) hi_NoneYet) pas_nil)))))))) (pssd_one (psd_retF (pf_cat (pb_var 1 (pv 1)) (pf_pb (pf_lst (pas_cons (pd_not (pd_isXB (T := "ValueError") (tab := [("NoNumber", true), ("NoStep", true)]) rfl z_isinstance rfl z_ValueError (by rfl) (pd_var 0 (pv 0)) hb_ValueError)) pas_nil))))))))
noncomputable abbrev s_Z12 : Stmt := top 30
noncomputable abbrev N_Z12 : List Str := ["door", "row", "step", "number", "handed", "found", "e"]
theorem sc_Z12 : FnScope N_Z12 ["door", "row", "step", "number"] (defScope s_Z12) := ⟨rfl, rfl, rfl, by decide +kernel, rfl, by decide +kernel, by decide +kernel⟩
theorem ok_Z12 {P : Program} {w : World} {K : PySem.W.Frag} {mg : Str -> Option Value} {base : Heap} {f : Addr} {fd : FuncData} {x_Z14 : Addr} {d_Z14 : FuncData} {x_Z10 : Addr} {d_Z10 : FuncData} {x_Z3 : Addr} {d_Z3 : FuncData} {x_Z1 : Addr} {d_Z1 : FuncData} (Fn : Fun K "_law_refused" "_law_refused" s_Z12 f fd) (G_Z14 : FnOkN P w K mg base CX0 1 x_Z14 d_Z14 ["e"] (spR K 1 m_Z14)) (b_Z14 : Binds K d_Z14 ["e"] []) (k_Z14 : PySem.W.keepIn K (.ref x_Z14) = true) (a_Z14 : mg "_law_flags" = some (.ref x_Z14)) (G_Z10 : FnOk P w K mg base CX0 5 x_Z10 d_Z10 ["row", "step", "many"] (spR K 3 m_Z10)) (b_Z10 : Binds K d_Z10 ["row", "step", "many"] []) (k_Z10 : PySem.W.keepIn K (.ref x_Z10) = true) (a_Z10 : mg "fewest_turns" = some (.ref x_Z10)) (G_Z3 : FnOk P w K mg base CX0 4 x_Z3 d_Z3 ["row", "step"] (spR K 2 m_Z3)) (b_Z3 : Binds K d_Z3 ["row", "step"] []) (k_Z3 : PySem.W.keepIn K (.ref x_Z3) = true) (a_Z3 : mg "kept_by_turns" = some (.ref x_Z3)) (G_Z1 : FnOk P w K mg base CX0 4 x_Z1 d_Z1 ["row", "step", "turns"] (spR K 3 m_Z1)) (b_Z1 : Binds K d_Z1 ["row", "step", "turns"] []) (k_Z1 : PySem.W.keepIn K (.ref x_Z1) = true) (a_Z1 : mg "longest_turning" = some (.ref x_Z1)) (GX_Z10 : FnOk P w K mg base (CXx P w) 5 x_Z10 d_Z10 ["row", "step", "many"] (spX K 3 xm_Z10)) (GX_Z3 : FnOk P w K mg base (CXx P w) 4 x_Z3 d_Z3 ["row", "step"] (spX K 2 xm_Z3)) (GX_Z1 : FnOk P w K mg base (CXx P w) 4 x_Z1 d_Z1 ["row", "step", "turns"] (spX K 3 xm_Z1)) {y_WaveError : Addr} (a_WaveError : mg "WaveError" = some (.ref y_WaveError)) (hcl_WaveError : ∀ c ∈ (["NoNumber", "NoStep"] : List Str), ∀ C, XC K c C -> PySem.W.exmOne K (.ref C) (.ref y_WaveError) = some true) (z_int : mg "int" = none) (z_list : mg "list" = none) : FnOk P w K mg base CX0 6 f fd ["door", "row", "step", "number"] (spR K 4 m_Z12) :=
 Fn.okD (k := 5) (m := b_Z12) sc_Z12 fun cdv A outer s H E hr => (pssd_cons (psd_set (i := 4) sc_Z12.nd rfl (by first | exact Or.inl rfl | exact Or.inr rfl) (pf_pd (pf_list rfl z_list (pb_var 1 (pv 1)) PyProof.Rows.boot_list))) (pssd_cons (psd_setF (i := 5) sc_Z12.nd rfl (by first | exact Or.inl rfl | exact Or.inr rfl) (pf_lst pas_nil)) (pssd_cons (psd_try (names := ["NoNumber", "NoStep"]) (i := 6) rfl ⟨rfl, rfl, rfl⟩ rfl a_WaveError hcl_WaveError sc_Z12.nd rfl rfl (pssd_one (psd_if (pc_cmp op_eq opd_eqS (pd_var 0 (pv 0)) pd_int (nomark _)) (pssd_one (psd_expr (pd_call (fun t ha => pe_call (G_Z1.mono (by decide)) hr rfl a_Z1 k_Z1 b_Z1 .nil pass0 ha) rfl (pas_cons (pd_var 4 (pv 4)) (pas_cons (pd_var 2 (pv 2)) (pas_cons (pd_var 3 (pv 3)) pas_nil))) (acons_len (acons_len (acons_len anil_len)))))) (pssd_one (psd_if (pc_cmp op_eq opd_eqS (pd_var 0 (pv 0)) pd_int (nomark _)) (pssd_one (psd_expr (pd_call (fun t ha => pe_call (G_Z10.mono (by decide)) hr rfl a_Z10 k_Z10 b_Z10 .nil pass0 ha) rfl (pas_cons (pd_var 4 (pv 4)) (pas_cons (pd_var 2 (pv 2)) (pas_cons (pd_var 3 (pv 3)) pas_nil))) (acons_len (acons_len (acons_len anil_len)))))) (pssd_one (psd_expr (pd_call (fun t ha => pe_call (G_Z3.mono (by decide)) hr rfl a_Z3 k_Z3 b_Z3 .nil pass0 ha) rfl (pas_cons (pd_var 4 (pv 4)) (pas_cons (pd_var 2 (pv 2)) pas_nil)) (acons_len (acons_len anil_len))))))))) (pssx_one (psx_if rfl (pc_cmp op_eq opd_eqS (pd_var 0 (pv 0)) pd_int (nomark _)) (pssx_one (psx_expr (pex_call rfl ⟨rfl, rfl, rfl⟩ (GX_Z1.mono (by decide)) hr rfl a_Z1 k_Z1 b_Z1 rfl (pas_cons (pd_var 4 (pv 4)) (pas_cons (pd_var 2 (pv 2)) (pas_cons (pd_var 3 (pv 3)) pas_nil))) (acons_len (acons_len (acons_len anil_len)))))) (pssx_one (psx_if rfl (pc_cmp op_eq opd_eqS (pd_var 0 (pv 0)) pd_int (nomark _)) (pssx_one (psx_expr (pex_call rfl ⟨rfl, rfl, rfl⟩ (GX_Z10.mono (by decide)) hr rfl a_Z10 k_Z10 b_Z10 rfl (pas_cons (pd_var 4 (pv 4)) (pas_cons (pd_var 2 (pv 2)) (pas_cons (pd_var 3 (pv 3)) pas_nil))) (acons_len (acons_len (acons_len anil_len)))))) (pssx_one (psx_expr (pex_call rfl ⟨rfl, rfl, rfl⟩ (GX_Z3.mono (by decide)) hr rfl a_Z3 k_Z3 b_Z3 rfl (pas_cons (pd_var 4 (pv 4)) (pas_cons (pd_var 2 (pv 2)) pas_nil)) (acons_len (acons_len anil_len))))))))) (fun a => (pssd_one (psd_setF (i := 5) sc_Z12.nd rfl (by first | exact Or.inl rfl | exact Or.inr rfl) (pf_call (fun t ha => pe_callN (G_Z14.mono (by decide)) (hr.mark _) rfl a_Z14 k_Z14 b_Z14 .nil pass0 ha) rfl (pas_cons (pd_var 6 (pv 6)) pas_nil) (acons_len anil_len)))))) (pssd_one (psd_retF (pf_repO (pv 5) (pd_intc rfl z_int (pas_cons (pd_eqB (op_eqF hr.units) (pb_var 4 (pv 4)) (pb_var 1 (pv 1)) (nomark _)) pas_nil) PyProof.Rows.boot_int)))))))
noncomputable abbrev s_Z17 : Stmt := top 31
noncomputable abbrev N_Z17 : List Str := ["script", "pot", "row", "far", "good", "bad", "number", "door"]
theorem sc_Z17 : FnScope N_Z17 ["script"] (defScope s_Z17) := ⟨rfl, rfl, rfl, by decide +kernel, rfl, by decide +kernel, by decide +kernel⟩
theorem nd_law_0 : List.Nodup (["k"] : List Str) := by decide +kernel
theorem nd_law_1 : List.Nodup (["k"] : List Str) := by decide +kernel
theorem nd_law_2 : List.Nodup (["door", "row", "good", "number"] : List Str) := by decide +kernel
theorem ok_Z17 {P : Program} {w : World} {K : PySem.W.Frag} {mg : Str -> Option Value} {base : Heap} {f : Addr} {fd : FuncData} {x_Z16 : Addr} {d_Z16 : FuncData} {x_law_pots : Addr} {d_law_pots : FuncData} {x_Z12 : Addr} {d_Z12 : FuncData} {x_Z8 : Addr} {d_Z8 : FuncData} {x_Z5 : Addr} {d_Z5 : FuncData} (Fn : Fun K "law" "law" s_Z17 f fd) (G_Z16 : FnOk P w K mg base CX0 1 x_Z16 d_Z16 ["pot", "many"] (spG K 2 m_Z16)) (b_Z16 : Binds K d_Z16 ["pot", "many"] []) (k_Z16 : PySem.W.keepIn K (.ref x_Z16) = true) (a_Z16 : mg "_law_next" = some (.ref x_Z16)) (G_law_pots : FnOk P w K mg base CX0 1 x_law_pots d_law_pots ["script"] (spP K 1 m_law_pots)) (b_law_pots : Binds K d_law_pots ["script"] []) (k_law_pots : PySem.W.keepIn K (.ref x_law_pots) = true) (a_law_pots : mg "_law_pots" = some (.ref x_law_pots)) (G_Z12 : FnOk P w K mg base CX0 6 x_Z12 d_Z12 ["door", "row", "step", "number"] (spR K 4 m_Z12)) (b_Z12 : Binds K d_Z12 ["door", "row", "step", "number"] []) (k_Z12 : PySem.W.keepIn K (.ref x_Z12) = true) (a_Z12 : mg "_law_refused" = some (.ref x_Z12)) (G_Z8 : FnOk P w K mg base CX0 3 x_Z8 d_Z8 ["pot", "most"] (spG K 2 m_Z8)) (b_Z8 : Binds K d_Z8 ["pot", "most"] []) (k_Z8 : PySem.W.keepIn K (.ref x_Z8) = true) (a_Z8 : mg "_law_some_row" = some (.ref x_Z8)) (G_Z5 : FnOk P w K mg base CX0 2 x_Z5 d_Z5 ["pot"] (spG K 1 m_Z5)) (b_Z5 : Binds K d_Z5 ["pot"] []) (k_Z5 : PySem.W.keepIn K (.ref x_Z5) = true) (a_Z5 : mg "_law_some_step" = some (.ref x_Z5)) (z_range : mg "range" = none) : FnOk P w K mg base CX0 7 f fd ["script"] (spR K 1 m_Z17) :=
 Fn.okD (k := 6) (m := b_Z17) sc_Z17 fun cdv A outer s H E hr => (pssd_cons (psd_forP PassesOwn.never rfl (pp_call (fun t ha => pe_call (G_law_pots.mono (by decide)) hr rfl a_law_pots k_law_pots b_law_pots .nil pass0 ha) rfl (pas_cons (pf_pd (pf_sl (pb_var 0 (pv 0)) pos_none (pos_some pd_int))) pas_nil) (acons_len anil_len)) (pg_name (i := 1) sc_Z17.nd rfl (by first | exact Or.inl rfl | exact Or.inr rfl)) (pssd_cons (psd_setm (i := 2) sc_Z17.nd rfl (by first | exact Or.inl rfl | exact Or.inr rfl) (pdm_callG (i := 1) (fun t ha => pe_call (G_Z8.mono (by decide)) hr rfl a_Z8 k_Z8 b_Z8 .nil pass0 ha) rfl (pv 1) (pam_pure (pas_cons pd_int pas_nil)) (apu_len (acons_len anil_len)))) (pssd_cons (psd_setm (i := 3) sc_Z17.nd rfl (by first | exact Or.inl rfl | exact Or.inr rfl) (pdm_ix (pdm_lst (pam_cons (pdm_pure pd_int) (pam_cons (pdm_pure pd_int) (pam_cons (pdm_pure pd_int) (pam_cons (pdm_pure (pd_pow pd_int pd_int)) (pam_cons (pdm_op (OpR.or op_add op_catS) opd_add (pdm_pure pd_int) (pdm_callG (i := 1) (fun t ha => pe_call (G_Z16.mono (by decide)) hr rfl a_Z16 k_Z16 b_Z16 .nil pass0 ha) rfl (pv 1) (pam_pure (pas_cons (pd_pow pd_int pd_int) pas_nil)) (apu_len (acons_len anil_len)))) (pam_pure pas_nil))))))) (pdm_callG (i := 1) (fun t ha => pe_call (G_Z16.mono (by decide)) hr rfl a_Z16 k_Z16 b_Z16 .nil pass0 ha) rfl (pv 1) (pam_pure (pas_cons pd_int pas_nil)) (apu_len (acons_len anil_len))))) (pssd_cons (psd_setm (i := 4) sc_Z17.nd rfl (by first | exact Or.inl rfl | exact Or.inr rfl) (pdm_callG (i := 1) (fun t ha => pe_call (G_Z5.mono (by decide)) hr rfl a_Z5 k_Z5 b_Z5 .nil pass0 ha) rfl (pv 1) (pam_pure pas_nil) (apu_len anil_len))) (pssd_cons (psd_for PassesOwn.never rfl (pid_seq (pf_pd (pf_lst (pas_cons pd_int (pas_cons (pd_neg pd_int) (pas_cons (pd_sub pd_int (pd_var 3 (pv 3))) pas_nil)))))) (pgd_name (i := 5) (pg_name sc_Z17.nd rfl (by first | exact Or.inl rfl | exact Or.inr rfl))) (pssd_one (psd_for PassesOwn.never rfl (pid_seq (pf_pd (pf_lst (pas_cons pd_int (pas_cons pd_int (pas_cons (pd_neg pd_int) (pas_cons (pd_sub pd_int (pd_var 3 (pv 3))) pas_nil))))))) (pgd_name (i := 6) (pg_name sc_Z17.nd rfl (by first | exact Or.inl rfl | exact Or.inr rfl))) (pssd_one (psd_for PassesOwn.never rfl (pid_range1 rfl z_range (pas_cons pd_int pas_nil)) (pgd_name (i := 7) (pg_name sc_Z17.nd rfl (by first | exact Or.inl rfl | exact Or.inr rfl))) (pssd_one (psd_if (pc_eqB (op_neF hr.units) (pd_pb (pd_call (fun t ha => pe_call (G_Z12.mono (by decide)) hr rfl a_Z12 k_Z12 b_Z12 .nil pass0 ha) rfl (pas_cons (pd_var 7 (pv 7)) (pas_cons (pd_var 2 (pv 2)) (pas_cons (pd_var 5 (pv 5)) (pas_cons (pd_var 6 (pv 6)) pas_nil)))) (acons_len (acons_len (acons_len (acons_len anil_len)))))) (pf_pb (pf_comp (blk_of (N := ["k"]) (src := [none]) (defScope s_Z17) N_Z17 rfl rfl (by decide +kernel)) rfl (pid_range1 rfl z_range (pas_cons pd_int pas_nil)) (fun C fp s0 H0 => (pgd_name (i := 0) (pg_name nd_law_0 rfl (by first | exact Or.inl rfl | exact Or.inr rfl)))) (fun C fp s0 H0 => ptsd_nil) (fun C fp s0 H0 => (pd_cmp op_eq opd_eqS (pd_var 0 (pv 0)) pd_int (nomark _))))) (nomark _)) (pssd_one (psd_ret pd_bl)) pssd_nil))))))) (pssd_cons (psd_for PassesOwn.never rfl (pid_seq (pf_pd (pf_lst (pas_cons (pd_neg pd_int) (pas_cons (pd_sub pd_int (pd_var 3 (pv 3))) pas_nil))))) (pgd_name (i := 5) (pg_name sc_Z17.nd rfl (by first | exact Or.inl rfl | exact Or.inr rfl))) (pssd_one (psd_for PassesOwn.never rfl (pid_range1 rfl z_range (pas_cons pd_int pas_nil)) (pgd_name (i := 7) (pg_name sc_Z17.nd rfl (by first | exact Or.inl rfl | exact Or.inr rfl))) (pssd_one (psd_if (pc_eqB (op_neF hr.units) (pd_pb (pd_call (fun t ha => pe_call (G_Z12.mono (by decide)) hr rfl a_Z12 k_Z12 b_Z12 .nil pass0 ha) rfl (pas_cons (pd_var 7 (pv 7)) (pas_cons (pd_var 2 (pv 2)) (pas_cons (pd_var 4 (pv 4)) (pas_cons (pd_var 5 (pv 5)) pas_nil)))) (acons_len (acons_len (acons_len (acons_len anil_len)))))) (pf_pb (pf_comp (blk_of (N := ["k"]) (src := [none]) (defScope s_Z17) N_Z17 rfl rfl (by decide +kernel)) rfl (pid_range1 rfl z_range (pas_cons pd_int pas_nil)) (fun C fp s0 H0 => (pgd_name (i := 0) (pg_name nd_law_1 rfl (by first | exact Or.inl rfl | exact Or.inr rfl)))) (fun C fp s0 H0 => ptsd_nil) (fun C fp s0 H0 => (pd_cmp op_eq opd_eqS (pd_var 0 (pv 0)) pd_int (nomark _))))) (nomark _)) (pssd_one (psd_ret pd_bl)) pssd_nil))))) (pssd_one (psd_for PassesOwn.never rfl (pid_seq (pf_pd (pf_lst (pas_cons pd_int (pas_cons pd_int (pas_cons (pd_var 3 (pv 3)) pas_nil)))))) (pgd_name (i := 6) (pg_name sc_Z17.nd rfl (by first | exact Or.inl rfl | exact Or.inr rfl))) (pssd_one (psd_if (pc_eqB (op_neF hr.units) (pf_pb (pf_comp (blk_of (N := ["door", "row", "good", "number"]) (src := [none, some 2, some 4, some 6]) (defScope s_Z17) N_Z17 rfl rfl (by decide +kernel)) rfl (pid_range1 rfl z_range (pas_cons pd_int pas_nil)) (fun C fp s0 H0 => (pgd_name (i := 0) (pg_name nd_law_2 rfl (by first | exact Or.inl rfl | exact Or.inr rfl)))) (fun C fp s0 H0 => (ptsd_one (pc_eqB (op_neF hr.units) (pd_pb (pd_call (fun t ha => pe_call (G_Z12.mono (by decide)) hr rfl a_Z12 k_Z12 b_Z12 .nil pass0 ha) rfl (pas_cons (pd_var 0 (pv 0)) (pas_cons (pd_var 1 (pv 1)) (pas_cons (pd_var 2 (pv 2)) (pas_cons (pd_var 3 (pv 3)) pas_nil)))) (acons_len (acons_len (acons_len (acons_len anil_len)))))) (pf_pb (pf_lst pas_nil)) (nomark _)))) (fun C fp s0 H0 => (pd_var 0 (pv 0))))) (pf_pb (pf_lst pas_nil)) (nomark _)) (pssd_one (psd_ret pd_bl)) pssd_nil)))))))))) (pssd_one (psd_ret pd_bl)))
theorem all_mk {l : PySem.W.OpenLaw} {w : World} {K : PySem.W.Frag} {h : Heap} {mg : Str -> Option Value} {fa x_Z13 x_Z11 x_Z9 x_Z2 x_Z4 x_Z15 x_Z7 x_Z1 x_Z6 x_Z3 x_Z10 x_Z16 x_law_pots x_Z0 x_Z8 x_Z5 x_Z14 x_Z12 x_Z17 : Addr} (X : K.In h) (G : h.Ns mainGlobals mg) (hfa : mg "law" = some (.ref fa)) {o1_Z13 o2_Z13 : Option Addr} {sl_Z13 : Array (Option Value)} {oc_Z13 kV_Z13 dc_Z13 pm_Z13 cd_Z13 ct_Z13 : Value} {o1_Z11 o2_Z11 : Option Addr} {sl_Z11 : Array (Option Value)} {oc_Z11 kV_Z11 dc_Z11 pm_Z11 cd_Z11 ct_Z11 : Value} {o1_Z9 o2_Z9 : Option Addr} {sl_Z9 : Array (Option Value)} {oc_Z9 kV_Z9 dc_Z9 pm_Z9 cd_Z9 ct_Z9 : Value} {o1_Z2 o2_Z2 : Option Addr} {sl_Z2 : Array (Option Value)} {oc_Z2 kV_Z2 dc_Z2 pm_Z2 cd_Z2 ct_Z2 : Value} {o1_Z4 o2_Z4 : Option Addr} {sl_Z4 : Array (Option Value)} {oc_Z4 kV_Z4 dc_Z4 pm_Z4 cd_Z4 ct_Z4 : Value} {o1_Z15 o2_Z15 : Option Addr} {sl_Z15 : Array (Option Value)} {oc_Z15 kV_Z15 dc_Z15 pm_Z15 cd_Z15 ct_Z15 : Value} {o1_Z7 o2_Z7 : Option Addr} {sl_Z7 : Array (Option Value)} {oc_Z7 kV_Z7 dc_Z7 pm_Z7 cd_Z7 ct_Z7 : Value} {o1_Z1 o2_Z1 : Option Addr} {sl_Z1 : Array (Option Value)} {oc_Z1 kV_Z1 dc_Z1 pm_Z1 cd_Z1 ct_Z1 : Value} {o1_Z6 o2_Z6 : Option Addr} {sl_Z6 : Array (Option Value)} {oc_Z6 kV_Z6 dc_Z6 pm_Z6 cd_Z6 ct_Z6 : Value} {o1_Z3 o2_Z3 : Option Addr} {sl_Z3 : Array (Option Value)} {oc_Z3 kV_Z3 dc_Z3 pm_Z3 cd_Z3 ct_Z3 : Value} {o1_Z10 o2_Z10 : Option Addr} {sl_Z10 : Array (Option Value)} {oc_Z10 kV_Z10 dc_Z10 pm_Z10 cd_Z10 ct_Z10 : Value} {o1_Z16 o2_Z16 : Option Addr} {sl_Z16 : Array (Option Value)} {oc_Z16 kV_Z16 dc_Z16 pm_Z16 cd_Z16 ct_Z16 : Value} {o1_law_pots o2_law_pots : Option Addr} {sl_law_pots : Array (Option Value)} {oc_law_pots kV_law_pots dc_law_pots pm_law_pots cd_law_pots ct_law_pots : Value} {o1_Z0 o2_Z0 : Option Addr} {sl_Z0 : Array (Option Value)} {oc_Z0 kV_Z0 dc_Z0 pm_Z0 cd_Z0 ct_Z0 : Value} {o1_Z8 o2_Z8 : Option Addr} {sl_Z8 : Array (Option Value)} {oc_Z8 kV_Z8 dc_Z8 pm_Z8 cd_Z8 ct_Z8 : Value} {o1_Z5 o2_Z5 : Option Addr} {sl_Z5 : Array (Option Value)} {oc_Z5 kV_Z5 dc_Z5 pm_Z5 cd_Z5 ct_Z5 : Value} {o1_Z14 o2_Z14 : Option Addr} {sl_Z14 : Array (Option Value)} {oc_Z14 kV_Z14 dc_Z14 pm_Z14 cd_Z14 ct_Z14 : Value} {o1_Z12 o2_Z12 : Option Addr} {sl_Z12 : Array (Option Value)} {oc_Z12 kV_Z12 dc_Z12 pm_Z12 cd_Z12 ct_Z12 : Value} {o1_Z17 o2_Z17 : Option Addr} {sl_Z17 : Array (Option Value)} {oc_Z17 kV_Z17 dc_Z17 pm_Z17 cd_Z17 ct_Z17 : Value}
  (e_Z13 : PySem.W.nsIn K mainGlobals "refuse_step" = some (some (.ref x_Z13))) (l_Z13 : K.lookup x_Z13 = some ⟨oc_Z13, o1_Z13, .func (PySem.W.fnOf "refuse_step" "refuse_step" (defArgs s_Z13) (defBody s_Z13) (defScope s_Z13) .none kV_Z13 dc_Z13 pm_Z13 o2_Z13 cd_Z13 ct_Z13), sl_Z13⟩) (c_Z13 : PySem.W.codeIn K cd_Z13 "refuse_step" = true) (k_Z13 : PySem.W.keepIn K (.ref x_Z13) = true)
  (e_Z11 : PySem.W.nsIn K mainGlobals "later_steps" = some (some (.ref x_Z11))) (l_Z11 : K.lookup x_Z11 = some ⟨oc_Z11, o1_Z11, .func (PySem.W.fnOf "later_steps" "later_steps" (defArgs s_Z11) (defBody s_Z11) (defScope s_Z11) .none kV_Z11 dc_Z11 pm_Z11 o2_Z11 cd_Z11 ct_Z11), sl_Z11⟩) (c_Z11 : PySem.W.codeIn K cd_Z11 "later_steps" = true) (k_Z11 : PySem.W.keepIn K (.ref x_Z11) = true)
  (e_Z9 : PySem.W.nsIn K mainGlobals "longer_first" = some (some (.ref x_Z9))) (l_Z9 : K.lookup x_Z9 = some ⟨oc_Z9, o1_Z9, .func (PySem.W.fnOf "longer_first" "longer_first" (defArgs s_Z9) (defBody s_Z9) (defScope s_Z9) .none kV_Z9 dc_Z9 pm_Z9 o2_Z9 cd_Z9 ct_Z9), sl_Z9⟩) (c_Z9 : PySem.W.codeIn K cd_Z9 "longer_first" = true) (k_Z9 : PySem.W.keepIn K (.ref x_Z9) = true)
  (e_Z2 : PySem.W.nsIn K mainGlobals "longest_behind" = some (some (.ref x_Z2))) (l_Z2 : K.lookup x_Z2 = some ⟨oc_Z2, o1_Z2, .func (PySem.W.fnOf "longest_behind" "longest_behind" (defArgs s_Z2) (defBody s_Z2) (defScope s_Z2) .none kV_Z2 dc_Z2 pm_Z2 o2_Z2 cd_Z2 ct_Z2), sl_Z2⟩) (c_Z2 : PySem.W.codeIn K cd_Z2 "longest_behind" = true) (k_Z2 : PySem.W.keepIn K (.ref x_Z2) = true)
  (e_Z4 : PySem.W.nsIn K mainGlobals "one_turn_more" = some (some (.ref x_Z4))) (l_Z4 : K.lookup x_Z4 = some ⟨oc_Z4, o1_Z4, .func (PySem.W.fnOf "one_turn_more" "one_turn_more" (defArgs s_Z4) (defBody s_Z4) (defScope s_Z4) .none kV_Z4 dc_Z4 pm_Z4 o2_Z4 cd_Z4 ct_Z4), sl_Z4⟩) (c_Z4 : PySem.W.codeIn K cd_Z4 "one_turn_more" = true) (k_Z4 : PySem.W.keepIn K (.ref x_Z4) = true)
  (e_Z15 : PySem.W.nsIn K mainGlobals "no_tails" = some (some (.ref x_Z15))) (l_Z15 : K.lookup x_Z15 = some ⟨oc_Z15, o1_Z15, .func (PySem.W.fnOf "no_tails" "no_tails" (defArgs s_Z15) (defBody s_Z15) (defScope s_Z15) .none kV_Z15 dc_Z15 pm_Z15 o2_Z15 cd_Z15 ct_Z15), sl_Z15⟩) (c_Z15 : PySem.W.codeIn K cd_Z15 "no_tails" = true) (k_Z15 : PySem.W.keepIn K (.ref x_Z15) = true)
  (e_Z7 : PySem.W.nsIn K mainGlobals "longest_tail" = some (some (.ref x_Z7))) (l_Z7 : K.lookup x_Z7 = some ⟨oc_Z7, o1_Z7, .func (PySem.W.fnOf "longest_tail" "longest_tail" (defArgs s_Z7) (defBody s_Z7) (defScope s_Z7) .none kV_Z7 dc_Z7 pm_Z7 o2_Z7 cd_Z7 ct_Z7), sl_Z7⟩) (c_Z7 : PySem.W.codeIn K cd_Z7 "longest_tail" = true) (k_Z7 : PySem.W.keepIn K (.ref x_Z7) = true)
  (e_Z1 : PySem.W.nsIn K mainGlobals "longest_turning" = some (some (.ref x_Z1))) (l_Z1 : K.lookup x_Z1 = some ⟨oc_Z1, o1_Z1, .func (PySem.W.fnOf "longest_turning" "longest_turning" (defArgs s_Z1) (defBody s_Z1) (defScope s_Z1) .none kV_Z1 dc_Z1 pm_Z1 o2_Z1 cd_Z1 ct_Z1), sl_Z1⟩) (c_Z1 : PySem.W.codeIn K cd_Z1 "longest_turning" = true) (k_Z1 : PySem.W.keepIn K (.ref x_Z1) = true)
  (e_Z6 : PySem.W.nsIn K mainGlobals "most_stepped" = some (some (.ref x_Z6))) (l_Z6 : K.lookup x_Z6 = some ⟨oc_Z6, o1_Z6, .func (PySem.W.fnOf "most_stepped" "most_stepped" (defArgs s_Z6) (defBody s_Z6) (defScope s_Z6) .none kV_Z6 dc_Z6 pm_Z6 o2_Z6 cd_Z6 ct_Z6), sl_Z6⟩) (c_Z6 : PySem.W.codeIn K cd_Z6 "most_stepped" = true) (k_Z6 : PySem.W.keepIn K (.ref x_Z6) = true)
  (e_Z3 : PySem.W.nsIn K mainGlobals "kept_by_turns" = some (some (.ref x_Z3))) (l_Z3 : K.lookup x_Z3 = some ⟨oc_Z3, o1_Z3, .func (PySem.W.fnOf "kept_by_turns" "kept_by_turns" (defArgs s_Z3) (defBody s_Z3) (defScope s_Z3) .none kV_Z3 dc_Z3 pm_Z3 o2_Z3 cd_Z3 ct_Z3), sl_Z3⟩) (c_Z3 : PySem.W.codeIn K cd_Z3 "kept_by_turns" = true) (k_Z3 : PySem.W.keepIn K (.ref x_Z3) = true)
  (e_Z10 : PySem.W.nsIn K mainGlobals "fewest_turns" = some (some (.ref x_Z10))) (l_Z10 : K.lookup x_Z10 = some ⟨oc_Z10, o1_Z10, .func (PySem.W.fnOf "fewest_turns" "fewest_turns" (defArgs s_Z10) (defBody s_Z10) (defScope s_Z10) .none kV_Z10 dc_Z10 pm_Z10 o2_Z10 cd_Z10 ct_Z10), sl_Z10⟩) (c_Z10 : PySem.W.codeIn K cd_Z10 "fewest_turns" = true) (k_Z10 : PySem.W.keepIn K (.ref x_Z10) = true)
  (e_Z16 : PySem.W.nsIn K mainGlobals "_law_next" = some (some (.ref x_Z16))) (l_Z16 : K.lookup x_Z16 = some ⟨oc_Z16, o1_Z16, .func (PySem.W.fnOf "_law_next" "_law_next" (defArgs s_Z16) (defBody s_Z16) (defScope s_Z16) .none kV_Z16 dc_Z16 pm_Z16 o2_Z16 cd_Z16 ct_Z16), sl_Z16⟩) (c_Z16 : PySem.W.codeIn K cd_Z16 "_law_next" = true) (k_Z16 : PySem.W.keepIn K (.ref x_Z16) = true)
  (e_law_pots : PySem.W.nsIn K mainGlobals "_law_pots" = some (some (.ref x_law_pots))) (l_law_pots : K.lookup x_law_pots = some ⟨oc_law_pots, o1_law_pots, .func (PySem.W.fnOf "_law_pots" "_law_pots" (defArgs s_law_pots) (defBody s_law_pots) (defScope s_law_pots) .none kV_law_pots dc_law_pots pm_law_pots o2_law_pots cd_law_pots ct_law_pots), sl_law_pots⟩) (c_law_pots : PySem.W.codeIn K cd_law_pots "_law_pots" = true) (k_law_pots : PySem.W.keepIn K (.ref x_law_pots) = true)
  (e_Z0 : PySem.W.nsIn K mainGlobals "_law_some_number" = some (some (.ref x_Z0))) (l_Z0 : K.lookup x_Z0 = some ⟨oc_Z0, o1_Z0, .func (PySem.W.fnOf "_law_some_number" "_law_some_number" (defArgs s_Z0) (defBody s_Z0) (defScope s_Z0) .none kV_Z0 dc_Z0 pm_Z0 o2_Z0 cd_Z0 ct_Z0), sl_Z0⟩) (c_Z0 : PySem.W.codeIn K cd_Z0 "_law_some_number" = true) (k_Z0 : PySem.W.keepIn K (.ref x_Z0) = true)
  (e_Z8 : PySem.W.nsIn K mainGlobals "_law_some_row" = some (some (.ref x_Z8))) (l_Z8 : K.lookup x_Z8 = some ⟨oc_Z8, o1_Z8, .func (PySem.W.fnOf "_law_some_row" "_law_some_row" (defArgs s_Z8) (defBody s_Z8) (defScope s_Z8) .none kV_Z8 dc_Z8 pm_Z8 o2_Z8 cd_Z8 ct_Z8), sl_Z8⟩) (c_Z8 : PySem.W.codeIn K cd_Z8 "_law_some_row" = true) (k_Z8 : PySem.W.keepIn K (.ref x_Z8) = true)
  (e_Z5 : PySem.W.nsIn K mainGlobals "_law_some_step" = some (some (.ref x_Z5))) (l_Z5 : K.lookup x_Z5 = some ⟨oc_Z5, o1_Z5, .func (PySem.W.fnOf "_law_some_step" "_law_some_step" (defArgs s_Z5) (defBody s_Z5) (defScope s_Z5) .none kV_Z5 dc_Z5 pm_Z5 o2_Z5 cd_Z5 ct_Z5), sl_Z5⟩) (c_Z5 : PySem.W.codeIn K cd_Z5 "_law_some_step" = true) (k_Z5 : PySem.W.keepIn K (.ref x_Z5) = true)
  (e_Z14 : PySem.W.nsIn K mainGlobals "_law_flags" = some (some (.ref x_Z14))) (l_Z14 : K.lookup x_Z14 = some ⟨oc_Z14, o1_Z14, .func (PySem.W.fnOf "_law_flags" "_law_flags" (defArgs s_Z14) (defBody s_Z14) (defScope s_Z14) .none kV_Z14 dc_Z14 pm_Z14 o2_Z14 cd_Z14 ct_Z14), sl_Z14⟩) (c_Z14 : PySem.W.codeIn K cd_Z14 "_law_flags" = true) (k_Z14 : PySem.W.keepIn K (.ref x_Z14) = true)
  (e_Z12 : PySem.W.nsIn K mainGlobals "_law_refused" = some (some (.ref x_Z12))) (l_Z12 : K.lookup x_Z12 = some ⟨oc_Z12, o1_Z12, .func (PySem.W.fnOf "_law_refused" "_law_refused" (defArgs s_Z12) (defBody s_Z12) (defScope s_Z12) .none kV_Z12 dc_Z12 pm_Z12 o2_Z12 cd_Z12 ct_Z12), sl_Z12⟩) (c_Z12 : PySem.W.codeIn K cd_Z12 "_law_refused" = true) (k_Z12 : PySem.W.keepIn K (.ref x_Z12) = true)
  (e_Z17 : PySem.W.nsIn K mainGlobals "law" = some (some (.ref x_Z17))) (l_Z17 : K.lookup x_Z17 = some ⟨oc_Z17, o1_Z17, .func (PySem.W.fnOf "law" "law" (defArgs s_Z17) (defBody s_Z17) (defScope s_Z17) .none kV_Z17 dc_Z17 pm_Z17 o2_Z17 cd_Z17 ct_Z17), sl_Z17⟩) (c_Z17 : PySem.W.codeIn K cd_Z17 "law" = true) (k_Z17 : PySem.W.keepIn K (.ref x_Z17) = true) {y_NoForm : Addr} {y_NoNumber : Addr} {y_NoPlace : Addr} {y_NoStep : Addr} {y_NoText : Addr} {y_NoWeights : Addr} {y_NoneYet : Addr} {y_WaveError : Addr}
  (e_NoForm : PySem.W.nsIn K mainGlobals "NoForm" = some (some (.ref y_NoForm)))
  (e_NoNumber : PySem.W.nsIn K mainGlobals "NoNumber" = some (some (.ref y_NoNumber)))
  (e_NoPlace : PySem.W.nsIn K mainGlobals "NoPlace" = some (some (.ref y_NoPlace)))
  (e_NoStep : PySem.W.nsIn K mainGlobals "NoStep" = some (some (.ref y_NoStep)))
  (e_NoText : PySem.W.nsIn K mainGlobals "NoText" = some (some (.ref y_NoText)))
  (e_NoWeights : PySem.W.nsIn K mainGlobals "NoWeights" = some (some (.ref y_NoWeights)))
  (e_NoneYet : PySem.W.nsIn K mainGlobals "NoneYet" = some (some (.ref y_NoneYet)))
  (e_WaveError : PySem.W.nsIn K mainGlobals "WaveError" = some (some (.ref y_WaveError)))
  (n_NoNumber : xName K y_NoNumber = some "NoNumber")
  (q_NoNumber : PySem.W.excIn K y_NoNumber bmV "ValueError.__new__" = true)
  (w_NoNumber : xclsB K y_NoNumber = true)
  (n_NoStep : xName K y_NoStep = some "NoStep")
  (q_NoStep : PySem.W.excIn K y_NoStep bmV "ValueError.__new__" = true)
  (w_NoStep : xclsB K y_NoStep = true)
  (m_NoNumber_WaveError : PySem.W.exmOne K (.ref y_NoNumber) (.ref y_WaveError) = some true)
  (m_NoStep_WaveError : PySem.W.exmOne K (.ref y_NoStep) (.ref y_WaveError) = some true)
  (i_NoNumber_NoForm : PySem.W.kitOne K (.ref y_NoNumber) (.ref y_NoForm) = some false)
  (i_NoStep_NoForm : PySem.W.kitOne K (.ref y_NoStep) (.ref y_NoForm) = some false)
  (i_NoNumber_NoNumber : PySem.W.kitOne K (.ref y_NoNumber) (.ref y_NoNumber) = some true)
  (i_NoStep_NoNumber : PySem.W.kitOne K (.ref y_NoStep) (.ref y_NoNumber) = some false)
  (i_NoNumber_NoPlace : PySem.W.kitOne K (.ref y_NoNumber) (.ref y_NoPlace) = some false)
  (i_NoStep_NoPlace : PySem.W.kitOne K (.ref y_NoStep) (.ref y_NoPlace) = some false)
  (i_NoNumber_NoStep : PySem.W.kitOne K (.ref y_NoNumber) (.ref y_NoStep) = some false)
  (i_NoStep_NoStep : PySem.W.kitOne K (.ref y_NoStep) (.ref y_NoStep) = some true)
  (i_NoNumber_NoText : PySem.W.kitOne K (.ref y_NoNumber) (.ref y_NoText) = some false)
  (i_NoStep_NoText : PySem.W.kitOne K (.ref y_NoStep) (.ref y_NoText) = some false)
  (i_NoNumber_NoWeights : PySem.W.kitOne K (.ref y_NoNumber) (.ref y_NoWeights) = some false)
  (i_NoStep_NoWeights : PySem.W.kitOne K (.ref y_NoStep) (.ref y_NoWeights) = some false)
  (i_NoNumber_NoneYet : PySem.W.kitOne K (.ref y_NoNumber) (.ref y_NoneYet) = some false)
  (i_NoStep_NoneYet : PySem.W.kitOne K (.ref y_NoStep) (.ref y_NoneYet) = some false)
  (j_NoNumber_ValueError : PySem.W.kitOne K (.ref y_NoNumber) (.type "ValueError") = some true)
  (j_NoStep_ValueError : PySem.W.kitOne K (.ref y_NoStep) (.type "ValueError") = some true)
  (y_ValueError : PySem.W.nsIn K mainGlobals "ValueError" = some none)
  (y_enumerate : PySem.W.nsIn K mainGlobals "enumerate" = some none)
  (y_int : PySem.W.nsIn K mainGlobals "int" = some none)
  (y_isinstance : PySem.W.nsIn K mainGlobals "isinstance" = some none)
  (y_len : PySem.W.nsIn K mainGlobals "len" = some none)
  (y_list : PySem.W.nsIn K mainGlobals "list" = some none)
  (y_max : PySem.W.nsIn K mainGlobals "max" = some none)
  (y_min : PySem.W.nsIn K mainGlobals "min" = some none)
  (y_range : PySem.W.nsIn K mainGlobals "range" = some none)
  (y_reversed : PySem.W.nsIn K mainGlobals "reversed" = some none)
  (y_sorted : PySem.W.nsIn K mainGlobals "sorted" = some none) :
  ∃ fd : FuncData, (∀ (s : Shared) (v : Value), BindsTo s fd ⟨[v], []⟩ [("script", v)]) /\ ∀ base : Heap, K.In base -> base.Ns mainGlobals mg -> FnOk l.prog w K mg base CX0 7 fa fd ["script"] (spR K 1 m_Z17) := by
 have e := hfa.symm.trans (PySem.W.mg_of X G e_Z17)
 cases e
 have F_Z13 := fun_mk (st := s_Z13) l_Z13 c_Z13 k_Z13
 have b_Z13 := F_Z13.binds (ps := ["step"]) fun _ _ _ _ _ _ us hl => by refine us1 (P := fun vs => bindArgs _ { pos := vs } = pure (List.zip _ vs)) ?_ us hl; intros; rfl
 have a_Z13 := PySem.W.mg_of X G e_Z13
 have F_Z11 := fun_mk (st := s_Z11) l_Z11 c_Z11 k_Z11
 have b_Z11 := F_Z11.binds (ps := ["row", "step"]) fun _ _ _ _ _ _ us hl => by refine us2 (P := fun vs => bindArgs _ { pos := vs } = pure (List.zip _ vs)) ?_ us hl; intros; rfl
 have a_Z11 := PySem.W.mg_of X G e_Z11
 have F_Z9 := fun_mk (st := s_Z9) l_Z9 c_Z9 k_Z9
 have b_Z9 := F_Z9.binds (ps := ["places"]) fun _ _ _ _ _ _ us hl => by refine us1 (P := fun vs => bindArgs _ { pos := vs } = pure (List.zip _ vs)) ?_ us hl; intros; rfl
 have a_Z9 := PySem.W.mg_of X G e_Z9
 have F_Z2 := fun_mk (st := s_Z2) l_Z2 c_Z2 k_Z2
 have b_Z2 := F_Z2.binds (ps := ["tails", "laters"]) fun _ _ _ _ _ _ us hl => by refine us2 (P := fun vs => bindArgs _ { pos := vs } = pure (List.zip _ vs)) ?_ us hl; intros; rfl
 have a_Z2 := PySem.W.mg_of X G e_Z2
 have F_Z4 := fun_mk (st := s_Z4) l_Z4 c_Z4 k_Z4
 have b_Z4 := F_Z4.binds (ps := ["steps", "fewer"]) fun _ _ _ _ _ _ us hl => by refine us2 (P := fun vs => bindArgs _ { pos := vs } = pure (List.zip _ vs)) ?_ us hl; intros; rfl
 have a_Z4 := PySem.W.mg_of X G e_Z4
 have F_Z15 := fun_mk (st := s_Z15) l_Z15 c_Z15 k_Z15
 have b_Z15 := F_Z15.binds (ps := ["row"]) fun _ _ _ _ _ _ us hl => by refine us1 (P := fun vs => bindArgs _ { pos := vs } = pure (List.zip _ vs)) ?_ us hl; intros; rfl
 have a_Z15 := PySem.W.mg_of X G e_Z15
 have F_Z7 := fun_mk (st := s_Z7) l_Z7 c_Z7 k_Z7
 have b_Z7 := F_Z7.binds (ps := ["tails"]) fun _ _ _ _ _ _ us hl => by refine us1 (P := fun vs => bindArgs _ { pos := vs } = pure (List.zip _ vs)) ?_ us hl; intros; rfl
 have a_Z7 := PySem.W.mg_of X G e_Z7
 have F_Z1 := fun_mk (st := s_Z1) l_Z1 c_Z1 k_Z1
 have b_Z1 := F_Z1.binds (ps := ["row", "step", "turns"]) fun _ _ _ _ _ _ us hl => by refine us3 (P := fun vs => bindArgs _ { pos := vs } = pure (List.zip _ vs)) ?_ us hl; intros; rfl
 have a_Z1 := PySem.W.mg_of X G e_Z1
 have F_Z6 := fun_mk (st := s_Z6) l_Z6 c_Z6 k_Z6
 have b_Z6 := F_Z6.binds (ps := ["steps"]) fun _ _ _ _ _ _ us hl => by refine us1 (P := fun vs => bindArgs _ { pos := vs } = pure (List.zip _ vs)) ?_ us hl; intros; rfl
 have a_Z6 := PySem.W.mg_of X G e_Z6
 have F_Z3 := fun_mk (st := s_Z3) l_Z3 c_Z3 k_Z3
 have b_Z3 := F_Z3.binds (ps := ["row", "step"]) fun _ _ _ _ _ _ us hl => by refine us2 (P := fun vs => bindArgs _ { pos := vs } = pure (List.zip _ vs)) ?_ us hl; intros; rfl
 have a_Z3 := PySem.W.mg_of X G e_Z3
 have F_Z10 := fun_mk (st := s_Z10) l_Z10 c_Z10 k_Z10
 have b_Z10 := F_Z10.binds (ps := ["row", "step", "many"]) fun _ _ _ _ _ _ us hl => by refine us3 (P := fun vs => bindArgs _ { pos := vs } = pure (List.zip _ vs)) ?_ us hl; intros; rfl
 have a_Z10 := PySem.W.mg_of X G e_Z10
 have F_Z16 := fun_mk (st := s_Z16) l_Z16 c_Z16 k_Z16
 have b_Z16 := F_Z16.binds (ps := ["pot", "many"]) fun _ _ _ _ _ _ us hl => by refine us2 (P := fun vs => bindArgs _ { pos := vs } = pure (List.zip _ vs)) ?_ us hl; intros; rfl
 have a_Z16 := PySem.W.mg_of X G e_Z16
 have F_law_pots := fun_mk (st := s_law_pots) l_law_pots c_law_pots k_law_pots
 have b_law_pots := F_law_pots.binds (ps := ["script"]) fun _ _ _ _ _ _ us hl => by refine us1 (P := fun vs => bindArgs _ { pos := vs } = pure (List.zip _ vs)) ?_ us hl; intros; rfl
 have a_law_pots := PySem.W.mg_of X G e_law_pots
 have F_Z0 := fun_mk (st := s_Z0) l_Z0 c_Z0 k_Z0
 have b_Z0 := F_Z0.binds (ps := ["pot", "kind"]) fun _ _ _ _ _ _ us hl => by refine us2 (P := fun vs => bindArgs _ { pos := vs } = pure (List.zip _ vs)) ?_ us hl; intros; rfl
 have a_Z0 := PySem.W.mg_of X G e_Z0
 have F_Z8 := fun_mk (st := s_Z8) l_Z8 c_Z8 k_Z8
 have b_Z8 := F_Z8.binds (ps := ["pot", "most"]) fun _ _ _ _ _ _ us hl => by refine us2 (P := fun vs => bindArgs _ { pos := vs } = pure (List.zip _ vs)) ?_ us hl; intros; rfl
 have a_Z8 := PySem.W.mg_of X G e_Z8
 have F_Z5 := fun_mk (st := s_Z5) l_Z5 c_Z5 k_Z5
 have b_Z5 := F_Z5.binds (ps := ["pot"]) fun _ _ _ _ _ _ us hl => by refine us1 (P := fun vs => bindArgs _ { pos := vs } = pure (List.zip _ vs)) ?_ us hl; intros; rfl
 have a_Z5 := PySem.W.mg_of X G e_Z5
 have F_Z14 := fun_mk (st := s_Z14) l_Z14 c_Z14 k_Z14
 have b_Z14 := F_Z14.binds (ps := ["e"]) fun _ _ _ _ _ _ us hl => by refine us1 (P := fun vs => bindArgs _ { pos := vs } = pure (List.zip _ vs)) ?_ us hl; intros; rfl
 have a_Z14 := PySem.W.mg_of X G e_Z14
 have F_Z12 := fun_mk (st := s_Z12) l_Z12 c_Z12 k_Z12
 have b_Z12 := F_Z12.binds (ps := ["door", "row", "step", "number"]) fun _ _ _ _ _ _ us hl => by refine us4 (P := fun vs => bindArgs _ { pos := vs } = pure (List.zip _ vs)) ?_ us hl; intros; rfl
 have a_Z12 := PySem.W.mg_of X G e_Z12
 have F_Z17 := fun_mk (st := s_Z17) l_Z17 c_Z17 k_Z17
 have b_Z17 := F_Z17.binds (ps := ["script"]) fun _ _ _ _ _ _ us hl => by refine us1 (P := fun vs => bindArgs _ { pos := vs } = pure (List.zip _ vs)) ?_ us hl; intros; rfl
 have a_Z17 := PySem.W.mg_of X G e_Z17
 have z_ValueError := PySem.W.mg_none_of X G y_ValueError
 have z_enumerate := PySem.W.mg_none_of X G y_enumerate
 have z_int := PySem.W.mg_none_of X G y_int
 have z_isinstance := PySem.W.mg_none_of X G y_isinstance
 have z_len := PySem.W.mg_none_of X G y_len
 have z_list := PySem.W.mg_none_of X G y_list
 have z_max := PySem.W.mg_none_of X G y_max
 have z_min := PySem.W.mg_none_of X G y_min
 have z_range := PySem.W.mg_none_of X G y_range
 have z_reversed := PySem.W.mg_none_of X G y_reversed
 have z_sorted := PySem.W.mg_none_of X G y_sorted
 have a_NoForm := PySem.W.mg_of X G e_NoForm
 have a_NoNumber := PySem.W.mg_of X G e_NoNumber
 have a_NoPlace := PySem.W.mg_of X G e_NoPlace
 have a_NoStep := PySem.W.mg_of X G e_NoStep
 have a_NoText := PySem.W.mg_of X G e_NoText
 have a_NoWeights := PySem.W.mg_of X G e_NoWeights
 have a_NoneYet := PySem.W.mg_of X G e_NoneYet
 have a_WaveError := PySem.W.mg_of X G e_WaveError
 have xc_NoNumber : XC K "NoNumber" y_NoNumber := ⟨e_NoNumber, n_NoNumber⟩
 have xc_NoStep : XC K "NoStep" y_NoStep := ⟨e_NoStep, n_NoStep⟩
 have hcl_WaveError : ∀ c ∈ (["NoNumber", "NoStep"] : List Str), ∀ C, XC K c C -> PySem.W.exmOne K (.ref C) (.ref y_WaveError) = some true := by
  intro c hc C h
  simp only [List.mem_cons, List.not_mem_nil, or_false] at hc
  rcases hc with rfl | rfl
  ·rw [h.eq e_NoNumber]; exact m_NoNumber_WaveError
  ·rw [h.eq e_NoStep]; exact m_NoStep_WaveError
 have hi_NoForm : ∀ c k, ([("NoNumber", false), ("NoStep", false)] : List (Str × Bool)).lookup c = some k -> ∀ C, XC K c C -> XCls K C /\ PySem.W.kitOne K (.ref C) (.ref y_NoForm) = some k := lookup_all (P := fun c k => ∀ C, XC K c C -> XCls K C /\ PySem.W.kitOne K (.ref C) (.ref y_NoForm) = some k) (by
  intro p hp
  simp only [List.mem_cons, List.not_mem_nil, or_false] at hp
  rcases hp with rfl | rfl
  ·intro C h; rw [h.eq e_NoNumber]; exact ⟨xcls_of w_NoNumber, i_NoNumber_NoForm⟩
  ·intro C h; rw [h.eq e_NoStep]; exact ⟨xcls_of w_NoStep, i_NoStep_NoForm⟩
  )
 have hi_NoNumber : ∀ c k, ([("NoNumber", true), ("NoStep", false)] : List (Str × Bool)).lookup c = some k -> ∀ C, XC K c C -> XCls K C /\ PySem.W.kitOne K (.ref C) (.ref y_NoNumber) = some k := lookup_all (P := fun c k => ∀ C, XC K c C -> XCls K C /\ PySem.W.kitOne K (.ref C) (.ref y_NoNumber) = some k) (by
  intro p hp
  simp only [List.mem_cons, List.not_mem_nil, or_false] at hp
  rcases hp with rfl | rfl
  ·intro C h; rw [h.eq e_NoNumber]; exact ⟨xcls_of w_NoNumber, i_NoNumber_NoNumber⟩
  ·intro C h; rw [h.eq e_NoStep]; exact ⟨xcls_of w_NoStep, i_NoStep_NoNumber⟩
  )
 have hi_NoPlace : ∀ c k, ([("NoNumber", false), ("NoStep", false)] : List (Str × Bool)).lookup c = some k -> ∀ C, XC K c C -> XCls K C /\ PySem.W.kitOne K (.ref C) (.ref y_NoPlace) = some k := lookup_all (P := fun c k => ∀ C, XC K c C -> XCls K C /\ PySem.W.kitOne K (.ref C) (.ref y_NoPlace) = some k) (by
  intro p hp
  simp only [List.mem_cons, List.not_mem_nil, or_false] at hp
  rcases hp with rfl | rfl
  ·intro C h; rw [h.eq e_NoNumber]; exact ⟨xcls_of w_NoNumber, i_NoNumber_NoPlace⟩
  ·intro C h; rw [h.eq e_NoStep]; exact ⟨xcls_of w_NoStep, i_NoStep_NoPlace⟩
  )
 have hi_NoStep : ∀ c k, ([("NoNumber", false), ("NoStep", true)] : List (Str × Bool)).lookup c = some k -> ∀ C, XC K c C -> XCls K C /\ PySem.W.kitOne K (.ref C) (.ref y_NoStep) = some k := lookup_all (P := fun c k => ∀ C, XC K c C -> XCls K C /\ PySem.W.kitOne K (.ref C) (.ref y_NoStep) = some k) (by
  intro p hp
  simp only [List.mem_cons, List.not_mem_nil, or_false] at hp
  rcases hp with rfl | rfl
  ·intro C h; rw [h.eq e_NoNumber]; exact ⟨xcls_of w_NoNumber, i_NoNumber_NoStep⟩
  ·intro C h; rw [h.eq e_NoStep]; exact ⟨xcls_of w_NoStep, i_NoStep_NoStep⟩
  )
 have hi_NoText : ∀ c k, ([("NoNumber", false), ("NoStep", false)] : List (Str × Bool)).lookup c = some k -> ∀ C, XC K c C -> XCls K C /\ PySem.W.kitOne K (.ref C) (.ref y_NoText) = some k := lookup_all (P := fun c k => ∀ C, XC K c C -> XCls K C /\ PySem.W.kitOne K (.ref C) (.ref y_NoText) = some k) (by
  intro p hp
  simp only [List.mem_cons, List.not_mem_nil, or_false] at hp
  rcases hp with rfl | rfl
  ·intro C h; rw [h.eq e_NoNumber]; exact ⟨xcls_of w_NoNumber, i_NoNumber_NoText⟩
  ·intro C h; rw [h.eq e_NoStep]; exact ⟨xcls_of w_NoStep, i_NoStep_NoText⟩
  )
 have hi_NoWeights : ∀ c k, ([("NoNumber", false), ("NoStep", false)] : List (Str × Bool)).lookup c = some k -> ∀ C, XC K c C -> XCls K C /\ PySem.W.kitOne K (.ref C) (.ref y_NoWeights) = some k := lookup_all (P := fun c k => ∀ C, XC K c C -> XCls K C /\ PySem.W.kitOne K (.ref C) (.ref y_NoWeights) = some k) (by
  intro p hp
  simp only [List.mem_cons, List.not_mem_nil, or_false] at hp
  rcases hp with rfl | rfl
  ·intro C h; rw [h.eq e_NoNumber]; exact ⟨xcls_of w_NoNumber, i_NoNumber_NoWeights⟩
  ·intro C h; rw [h.eq e_NoStep]; exact ⟨xcls_of w_NoStep, i_NoStep_NoWeights⟩
  )
 have hi_NoneYet : ∀ c k, ([("NoNumber", false), ("NoStep", false)] : List (Str × Bool)).lookup c = some k -> ∀ C, XC K c C -> XCls K C /\ PySem.W.kitOne K (.ref C) (.ref y_NoneYet) = some k := lookup_all (P := fun c k => ∀ C, XC K c C -> XCls K C /\ PySem.W.kitOne K (.ref C) (.ref y_NoneYet) = some k) (by
  intro p hp
  simp only [List.mem_cons, List.not_mem_nil, or_false] at hp
  rcases hp with rfl | rfl
  ·intro C h; rw [h.eq e_NoNumber]; exact ⟨xcls_of w_NoNumber, i_NoNumber_NoneYet⟩
  ·intro C h; rw [h.eq e_NoStep]; exact ⟨xcls_of w_NoStep, i_NoStep_NoneYet⟩
  )
 have hb_ValueError : ∀ c k, ([("NoNumber", true), ("NoStep", true)] : List (Str × Bool)).lookup c = some k -> ∀ C, XC K c C -> XCls K C /\ PySem.W.kitOne K (.ref C) (.type "ValueError") = some k := lookup_all (P := fun c k => ∀ C, XC K c C -> XCls K C /\ PySem.W.kitOne K (.ref C) (.type "ValueError") = some k) (by
  intro p hp
  simp only [List.mem_cons, List.not_mem_nil, or_false] at hp
  rcases hp with rfl | rfl
  ·intro C h; rw [h.eq e_NoNumber]; exact ⟨xcls_of w_NoNumber, j_NoNumber_ValueError⟩
  ·intro C h; rw [h.eq e_NoStep]; exact ⟨xcls_of w_NoStep, j_NoStep_ValueError⟩
  )
 refine ⟨PySem.W.fnOf "law" "law" (defArgs s_Z17) (defBody s_Z17) (defScope s_Z17) .none kV_Z17 dc_Z17 pm_Z17 o2_Z17 cd_Z17 ct_Z17, fun s v => .of_eq rfl, fun base _ _ => ?_⟩
 have G_Z13 := ok_Z13 (P := l.prog) (w := w) (mg := mg) (base := base) F_Z13   a_NoStep xc_NoStep q_NoStep
 have GX_Z13 := okx_Z13 (P := l.prog) (w := w) (mg := mg) (base := base) F_Z13   a_NoStep xc_NoStep q_NoStep
 have G_Z11 := ok_Z11 (P := l.prog) (w := w) (mg := mg) (base := base) F_Z11      z_enumerate z_len z_range
 have G_Z9 := ok_Z9 (P := l.prog) (w := w) (mg := mg) (base := base) F_Z9      z_len
 have G_Z2 := ok_Z2 (P := l.prog) (w := w) (mg := mg) (base := base) F_Z2      z_len z_max
 have G_Z4 := ok_Z4 (P := l.prog) (w := w) (mg := mg) (base := base) F_Z4 G_Z9 b_Z9 k_Z9 a_Z9 G_Z2 b_Z2 k_Z2 a_Z2     z_len z_min z_range z_reversed
 have G_Z15 := ok_Z15 (P := l.prog) (w := w) (mg := mg) (base := base) F_Z15      z_len
 have G_Z7 := ok_Z7 (P := l.prog) (w := w) (mg := mg) (base := base) F_Z7 G_Z9 b_Z9 k_Z9 a_Z9     z_min
 have G_Z1 := ok_Z1 (P := l.prog) (w := w) (mg := mg) (base := base) F_Z1 G_Z11 b_Z11 k_Z11 a_Z11 G_Z7 b_Z7 k_Z7 a_Z7 G_Z15 b_Z15 k_Z15 a_Z15 G_Z4 b_Z4 k_Z4 a_Z4 G_Z13 b_Z13 k_Z13 a_Z13 GX_Z13 a_NoNumber xc_NoNumber q_NoNumber   z_len z_min z_range
 have GX_Z1 := okx_Z1 (P := l.prog) (w := w) (mg := mg) (base := base) F_Z1 G_Z11 b_Z11 k_Z11 a_Z11 G_Z7 b_Z7 k_Z7 a_Z7 G_Z15 b_Z15 k_Z15 a_Z15 G_Z4 b_Z4 k_Z4 a_Z4 G_Z13 b_Z13 k_Z13 a_Z13 GX_Z13 a_NoNumber xc_NoNumber q_NoNumber   z_len z_min z_range
 have G_Z6 := ok_Z6 (P := l.prog) (w := w) (mg := mg) (base := base) F_Z6      z_len z_max z_range z_reversed
 have G_Z3 := ok_Z3 (P := l.prog) (w := w) (mg := mg) (base := base) F_Z3 G_Z11 b_Z11 k_Z11 a_Z11 G_Z7 b_Z7 k_Z7 a_Z7 G_Z6 b_Z6 k_Z6 a_Z6 G_Z15 b_Z15 k_Z15 a_Z15 G_Z4 b_Z4 k_Z4 a_Z4 G_Z13 b_Z13 k_Z13 a_Z13 GX_Z13    z_len
 have GX_Z3 := okx_Z3 (P := l.prog) (w := w) (mg := mg) (base := base) F_Z3 G_Z11 b_Z11 k_Z11 a_Z11 G_Z7 b_Z7 k_Z7 a_Z7 G_Z6 b_Z6 k_Z6 a_Z6 G_Z15 b_Z15 k_Z15 a_Z15 G_Z4 b_Z4 k_Z4 a_Z4 G_Z13 b_Z13 k_Z13 a_Z13 GX_Z13    z_len
 have G_Z10 := ok_Z10 (P := l.prog) (w := w) (mg := mg) (base := base) F_Z10 G_Z3 b_Z3 k_Z3 a_Z3 G_Z13 b_Z13 k_Z13 a_Z13 GX_Z13 a_NoNumber xc_NoNumber q_NoNumber   z_enumerate
 have GX_Z10 := okx_Z10 (P := l.prog) (w := w) (mg := mg) (base := base) F_Z10 G_Z3 b_Z3 k_Z3 a_Z3 G_Z13 b_Z13 k_Z13 a_Z13 GX_Z13 a_NoNumber xc_NoNumber q_NoNumber   z_enumerate
 have G_Z16 := ok_Z16 (P := l.prog) (w := w) (mg := mg) (base := base) F_Z16
 have G_law_pots := ok_law_pots (P := l.prog) (w := w) (mg := mg) (base := base) F_law_pots      z_len
 have G_Z0 := ok_Z0 (P := l.prog) (w := w) (mg := mg) (base := base) F_Z0 G_Z16 b_Z16 k_Z16 a_Z16
 have G_Z8 := ok_Z8 (P := l.prog) (w := w) (mg := mg) (base := base) F_Z8 G_Z16 b_Z16 k_Z16 a_Z16 G_Z0 b_Z0 k_Z0 a_Z0     z_enumerate z_min z_range z_sorted
 have G_Z5 := ok_Z5 (P := l.prog) (w := w) (mg := mg) (base := base) F_Z5 G_Z16 b_Z16 k_Z16 a_Z16
 have G_Z14 := ok_Z14 (P := l.prog) (w := w) (mg := mg) (base := base) F_Z14   a_NoForm a_NoNumber a_NoPlace a_NoStep a_NoText a_NoWeights a_NoneYet hi_NoForm hi_NoNumber hi_NoPlace hi_NoStep hi_NoText hi_NoWeights hi_NoneYet hb_ValueError   z_ValueError z_isinstance
 have G_Z12 := ok_Z12 (P := l.prog) (w := w) (mg := mg) (base := base) F_Z12 G_Z14 b_Z14 k_Z14 a_Z14 G_Z10 b_Z10 k_Z10 a_Z10 G_Z3 b_Z3 k_Z3 a_Z3 G_Z1 b_Z1 k_Z1 a_Z1 GX_Z10 GX_Z3 GX_Z1 a_WaveError hcl_WaveError   z_int z_list
 have G_Z17 := ok_Z17 (P := l.prog) (w := w) (mg := mg) (base := base) F_Z17 G_Z16 b_Z16 k_Z16 a_Z16 G_law_pots b_law_pots k_law_pots a_law_pots G_Z12 b_Z12 k_Z12 a_Z12 G_Z8 b_Z8 k_Z8 a_Z8 G_Z5 b_Z5 k_Z5 a_Z5     z_range
 exact G_Z17
theorem walk {l : PySem.W.OpenLaw} {q : Program} {loose : List Str} {XP : (Str -> Option Value) -> Heap -> Prop} {YP : World -> Heap -> Prop} {d : DefRec} {K : Params -> PySem.W.Frag} (hn : l.most = some 63) (hdf : d.params.defaults = [])
  (law : ∀ ns : List Int, ns.length <= 63 -> m_Z17 [.lst (ns.map .int)] = some (.sh (.bl true)))
  (hY : ∀ (w : World) (h : Heap), YP w h -> (K w.params).In h)
  (F : ∀ (w : World) (mg : Str -> Option Value) (fa : Addr) (h : Heap), (K w.params).In h -> h.Ns mainGlobals mg -> mg d.name = some (.ref fa) ->
   ∃ fd : FuncData, (∀ (s : Shared) (u : Value), BindsTo s fd ⟨[u], []⟩ [("script", u)]) /\ ∀ base : Heap, (K w.params).In base -> base.Ns mainGlobals mg -> FnOk l.prog w (K w.params) mg base CX0 7 fa fd ["script"] (spR (K w.params) 1 m_Z17)) :
  PySem.W.WalkO q loose XP YP l.row.toRowW d [] (fun f vs => PySem.call f vs) :=
 L2.walk_of (n := 63) (k := 7) (x := "script") (CX := fun _ => CX0) (sp := fun w => spR (K w.params) 1 m_Z17) hn (by decide) hdf ⟨rfl, by decide, by decide⟩ hY F (fun w H a ns hl _ hS => sp_Z17 law H a ns hl hS _) fun _ _ _ _ _ z => z
end Lw
open PySem PySem.W PyProof.Rows
set_option maxRecDepth 100000 in
set_option maxHeartbeats 0 in
theorem PySem.Challenge.cw_wavyrow_k29_turns_refused_holds : PySem.Challenge.rw_wavyrow_k29_turns_refused.Holds := by
 w_on; o_law; k_head; (case hw => w_witness2)
 k_fill
 refine Lw.walk (l := PySem.Challenge.rw_wavyrow_k29_turns_refused) rfl rfl Lw.law_true (fun w h Y => PySem.W.kIn_of Y) ?F
 case F =>
  intro w mg fa h KX G hmg
  refine' Lw.all_mk KX G hmg ?e_Z13 ?l_Z13 ?c_Z13 ?k_Z13 ?e_Z11 ?l_Z11 ?c_Z11 ?k_Z11 ?e_Z9 ?l_Z9 ?c_Z9 ?k_Z9 ?e_Z2 ?l_Z2 ?c_Z2 ?k_Z2 ?e_Z4 ?l_Z4 ?c_Z4 ?k_Z4 ?e_Z15 ?l_Z15 ?c_Z15 ?k_Z15 ?e_Z7 ?l_Z7 ?c_Z7 ?k_Z7 ?e_Z1 ?l_Z1 ?c_Z1 ?k_Z1 ?e_Z6 ?l_Z6 ?c_Z6 ?k_Z6 ?e_Z3 ?l_Z3 ?c_Z3 ?k_Z3 ?e_Z10 ?l_Z10 ?c_Z10 ?k_Z10 ?e_Z16 ?l_Z16 ?c_Z16 ?k_Z16 ?e_law_pots ?l_law_pots ?c_law_pots ?k_law_pots ?e_Z0 ?l_Z0 ?c_Z0 ?k_Z0 ?e_Z8 ?l_Z8 ?c_Z8 ?k_Z8 ?e_Z5 ?l_Z5 ?c_Z5 ?k_Z5 ?e_Z14 ?l_Z14 ?c_Z14 ?k_Z14 ?e_Z12 ?l_Z12 ?c_Z12 ?k_Z12 ?e_Z17 ?l_Z17 ?c_Z17 ?k_Z17   ?e_NoForm ?e_NoNumber ?e_NoPlace ?e_NoStep ?e_NoText ?e_NoWeights ?e_NoneYet ?e_WaveError ?n_NoNumber ?q_NoNumber ?w_NoNumber ?n_NoStep ?q_NoStep ?w_NoStep ?m_NoNumber_WaveError ?m_NoStep_WaveError ?i_NoNumber_NoForm ?i_NoStep_NoForm ?i_NoNumber_NoNumber ?i_NoStep_NoNumber ?i_NoNumber_NoPlace ?i_NoStep_NoPlace ?i_NoNumber_NoStep ?i_NoStep_NoStep ?i_NoNumber_NoText ?i_NoStep_NoText ?i_NoNumber_NoWeights ?i_NoStep_NoWeights ?i_NoNumber_NoneYet ?i_NoStep_NoneYet ?j_NoNumber_ValueError ?j_NoStep_ValueError ?y_ValueError ?y_enumerate ?y_int ?y_isinstance ?y_len ?y_list ?y_max ?y_min ?y_range ?y_reversed ?y_sorted
  (case e_Z13 => k_is); (case l_Z13 => k_is); (case c_Z13 => k_is); (case k_Z13 => k_is)
  (case e_Z11 => k_is); (case l_Z11 => k_is); (case c_Z11 => k_is); (case k_Z11 => k_is)
  (case e_Z9 => k_is); (case l_Z9 => k_is); (case c_Z9 => k_is); (case k_Z9 => k_is)
  (case e_Z2 => k_is); (case l_Z2 => k_is); (case c_Z2 => k_is); (case k_Z2 => k_is)
  (case e_Z4 => k_is); (case l_Z4 => k_is); (case c_Z4 => k_is); (case k_Z4 => k_is)
  (case e_Z15 => k_is); (case l_Z15 => k_is); (case c_Z15 => k_is); (case k_Z15 => k_is)
  (case e_Z7 => k_is); (case l_Z7 => k_is); (case c_Z7 => k_is); (case k_Z7 => k_is)
  (case e_Z1 => k_is); (case l_Z1 => k_is); (case c_Z1 => k_is); (case k_Z1 => k_is)
  (case e_Z6 => k_is); (case l_Z6 => k_is); (case c_Z6 => k_is); (case k_Z6 => k_is)
  (case e_Z3 => k_is); (case l_Z3 => k_is); (case c_Z3 => k_is); (case k_Z3 => k_is)
  (case e_Z10 => k_is); (case l_Z10 => k_is); (case c_Z10 => k_is); (case k_Z10 => k_is)
  (case e_Z16 => k_is); (case l_Z16 => k_is); (case c_Z16 => k_is); (case k_Z16 => k_is)
  (case e_law_pots => k_is); (case l_law_pots => k_is); (case c_law_pots => k_is); (case k_law_pots => k_is)
  (case e_Z0 => k_is); (case l_Z0 => k_is); (case c_Z0 => k_is); (case k_Z0 => k_is)
  (case e_Z8 => k_is); (case l_Z8 => k_is); (case c_Z8 => k_is); (case k_Z8 => k_is)
  (case e_Z5 => k_is); (case l_Z5 => k_is); (case c_Z5 => k_is); (case k_Z5 => k_is)
  (case e_Z14 => k_is); (case l_Z14 => k_is); (case c_Z14 => k_is); (case k_Z14 => k_is)
  (case e_Z12 => k_is); (case l_Z12 => k_is); (case c_Z12 => k_is); (case k_Z12 => k_is)
  (case e_Z17 => k_is); (case l_Z17 => k_is); (case c_Z17 => k_is); (case k_Z17 => k_is)
  (case e_NoForm => first | k_is | rfl | k_exc | (unfold L2.bmV; k_exc))
  (case e_NoNumber => first | k_is | rfl | k_exc | (unfold L2.bmV; k_exc))
  (case e_NoPlace => first | k_is | rfl | k_exc | (unfold L2.bmV; k_exc))
  (case e_NoStep => first | k_is | rfl | k_exc | (unfold L2.bmV; k_exc))
  (case e_NoText => first | k_is | rfl | k_exc | (unfold L2.bmV; k_exc))
  (case e_NoWeights => first | k_is | rfl | k_exc | (unfold L2.bmV; k_exc))
  (case e_NoneYet => first | k_is | rfl | k_exc | (unfold L2.bmV; k_exc))
  (case e_WaveError => first | k_is | rfl | k_exc | (unfold L2.bmV; k_exc))
  (case n_NoNumber => first | k_is | rfl | k_exc | (unfold L2.bmV; k_exc))
  (case q_NoNumber => first | k_is | rfl | k_exc | (unfold L2.bmV; k_exc))
  (case w_NoNumber => first | k_is | rfl | k_exc | (unfold L2.bmV; k_exc))
  (case n_NoStep => first | k_is | rfl | k_exc | (unfold L2.bmV; k_exc))
  (case q_NoStep => first | k_is | rfl | k_exc | (unfold L2.bmV; k_exc))
  (case w_NoStep => first | k_is | rfl | k_exc | (unfold L2.bmV; k_exc))
  (case m_NoNumber_WaveError => first | k_is | rfl | k_exc | (unfold L2.bmV; k_exc))
  (case m_NoStep_WaveError => first | k_is | rfl | k_exc | (unfold L2.bmV; k_exc))
  (case i_NoNumber_NoForm => first | k_is | rfl | k_exc | (unfold L2.bmV; k_exc))
  (case i_NoStep_NoForm => first | k_is | rfl | k_exc | (unfold L2.bmV; k_exc))
  (case i_NoNumber_NoNumber => first | k_is | rfl | k_exc | (unfold L2.bmV; k_exc))
  (case i_NoStep_NoNumber => first | k_is | rfl | k_exc | (unfold L2.bmV; k_exc))
  (case i_NoNumber_NoPlace => first | k_is | rfl | k_exc | (unfold L2.bmV; k_exc))
  (case i_NoStep_NoPlace => first | k_is | rfl | k_exc | (unfold L2.bmV; k_exc))
  (case i_NoNumber_NoStep => first | k_is | rfl | k_exc | (unfold L2.bmV; k_exc))
  (case i_NoStep_NoStep => first | k_is | rfl | k_exc | (unfold L2.bmV; k_exc))
  (case i_NoNumber_NoText => first | k_is | rfl | k_exc | (unfold L2.bmV; k_exc))
  (case i_NoStep_NoText => first | k_is | rfl | k_exc | (unfold L2.bmV; k_exc))
  (case i_NoNumber_NoWeights => first | k_is | rfl | k_exc | (unfold L2.bmV; k_exc))
  (case i_NoStep_NoWeights => first | k_is | rfl | k_exc | (unfold L2.bmV; k_exc))
  (case i_NoNumber_NoneYet => first | k_is | rfl | k_exc | (unfold L2.bmV; k_exc))
  (case i_NoStep_NoneYet => first | k_is | rfl | k_exc | (unfold L2.bmV; k_exc))
  (case j_NoNumber_ValueError => first | k_is | rfl | k_exc | (unfold L2.bmV; k_exc))
  (case j_NoStep_ValueError => first | k_is | rfl | k_exc | (unfold L2.bmV; k_exc))
  (case y_ValueError => k_is)
  (case y_enumerate => k_is)
  (case y_int => k_is)
  (case y_isinstance => k_is)
  (case y_len => k_is)
  (case y_list => k_is)
  (case y_max => k_is)
  (case y_min => k_is)
  (case y_range => k_is)
  (case y_reversed => k_is)
  (case y_sorted => k_is)
