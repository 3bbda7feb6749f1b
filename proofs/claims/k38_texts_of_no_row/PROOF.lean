import PyProof.Rows.All
import Wide.All
import OpenK.AllK
import Wide.FinOn
import Lean
import PyProof.EqAt
import PyProof.EqKinds
import PyProof.TupleCall
import PyProof.NeKinds
import KE.IntBitsLaws
import PyProof.FitsBits
import PySem.Challenge.RW_wavyrow_k38_texts_of_no_row
set_option Elab.async false
set_option linter.all false
set_option maxRecDepth 100000
namespace L2
open List
open PySem PySem.Spec PyProof.Rows
section
noncomputable abbrev Key := Sum Int Str
noncomputable def keyIs : Key -> Value -> Bool
 | .inl k, v => Value.isInt k v
 | .inr x, v => Value.isStrOf x v
noncomputable def keyH (w : World) : Key -> Int
 | .inl k => hashInt k
 | .inr x => hashStr w x
theorem keyIs_shape : ∀ {k : Key} {v : Value}, keyIs k v = true -> (∃ i t, k = Sum.inl i /\ v = Value.int i t) \/ (∃ x t, k = Sum.inr x /\ v = Value.str x t)
 | .inl i, v, h => by
  obtain ⟨t, e⟩ := Value.isInt_shape (k := i) (v := v) h
  exact .inl ⟨i, t, rfl, e⟩
 | .inr x, v, h => by
  obtain ⟨t, e⟩ := Value.isStrOf_shape (x := x) (v := v) h
  exact .inr ⟨x, t, rfl, e⟩
theorem key_ll (a b : Int) : decide ((Sum.inl a : Key) = Sum.inl b) = (a == b) := by
 by_cases e : a = b
 ·subst e; simp
 ·have h : ¬ (Sum.inl a : Key) = Sum.inl b := fun q => e (Sum.inl.inj q)
  rw [decide_eq_false h]
  exact (beq_eq_false_iff_ne.mpr e).symm
theorem key_rr (a b : Str) : decide ((Sum.inr a : Key) = Sum.inr b) = decide (a = b) := by
 by_cases e : a = b
 ·subst e; simp
 ·have h : ¬ (Sum.inr a : Key) = Sum.inr b := fun q => e (Sum.inr.inj q)
  rw [decide_eq_false h, decide_eq_false e]
theorem key_lr (a : Int) (b : Str) : decide ((Sum.inl a : Key) = Sum.inr b) = false := decide_eq_false (fun q => nomatch q)
theorem key_rl (a : Str) (b : Int) : decide ((Sum.inr a : Key) = Sum.inl b) = false := decide_eq_false (fun q => nomatch q)
noncomputable def mixKind (prog : Program) (w : World) : PySem.KeyKind prog w Key where
 is := keyIs
 hash := keyH w
 inj := fun v a b ha hb => by
  rcases keyIs_shape ha with ⟨i, t, rfl, rfl⟩ | ⟨x, t, rfl, rfl⟩
  ·rcases keyIs_shape hb with ⟨j, u, rfl, e⟩ | ⟨y, u, rfl, e⟩
   ·injection e with e1 _; rw [e1]
   ·exact nomatch e
  ·rcases keyIs_shape hb with ⟨j, u, rfl, e⟩ | ⟨y, u, rfl, e⟩
   ·exact nomatch e
   ·injection e with e1 _; rw [e1]
 byValue := fun k v h => by
  rcases keyIs_shape h with ⟨i, t, rfl, rfl⟩ | ⟨x, t, rfl, rfl⟩ <;> rfl
 pyHash := fun hv h => by
  rcases keyIs_shape hv with ⟨i, t, rfl, rfl⟩ | ⟨x, t, rfl, rfl⟩
  ·exact wpAny_pyHash_int h
  ·exact wpAny_pyHash_str h
 eqBool := fun hu hv h => by
  rcases keyIs_shape hu with ⟨i, t, rfl, rfl⟩ | ⟨x, t, rfl, rfl⟩
  ·rcases keyIs_shape hv with ⟨j, u, rfl, rfl⟩ | ⟨y, u, rfl, rfl⟩
   ·rw [key_ll] at h; exact wpAny_eqBool_int h
   ·rw [key_lr] at h; exact SeqAt.EqAt.int_str i t y u _ _ _ _ h
  ·rcases keyIs_shape hv with ⟨j, u, rfl, rfl⟩ | ⟨y, u, rfl, rfl⟩
   ·rw [key_rl] at h; exact SeqAt.EqAt.str_int x t j u _ _ _ _ h
   ·rw [key_rr] at h; exact wpAny_eqBool_str h
 «strs» := fun k x t v h => by
  rcases keyIs_shape h with ⟨i, u, rfl, e⟩ | ⟨y, u, rfl, e⟩
  ·exact nomatch e
  ·injection e with e1 _
   subst e1
   cases v <;> rfl
end
section
inductive V where
 | non | bl (b : Bool) | int (i : Int) | str (x : Str) | byt (b : Array UInt8) | flt (b : UInt64) | ref (a : Addr) | ty (n : String)
 deriving DecidableEq
noncomputable def RelV : V -> Value -> Prop
 | .non, u => u = Value.none
 | .bl b, u => u = Value.bool b
 | .int i, u => ∃ t, u = Value.int i t
 | .str x, u => ∃ t, u = Value.str x t
 | .byt b, u => ∃ t, u = Value.bytes b t
 | .flt b, u => ∃ t, u = Value.float b t
 | .ref a, u => u = Value.ref a
 | .ty n, u => u = Value.type n
abbrev Vals : List V -> List Value -> Prop := Paired RelV
theorem Vals.length {xs : List V} {us : List Value} (r : Vals xs us) : xs.length = us.length := Paired.length r
theorem Vals.get : ∀ {xs : List V} {us : List Value} {i : Nat} {x : V}, Vals xs us -> xs[i]? = some x -> ∃ u, us[i]? = some u /\ RelV x u
 | _, _, _, _, .nil, e => by simp at e
 | _, _, 0, _, .cons r _, e => by simp at e; subst e; exact ⟨_, rfl, r⟩
 | _, _, i + 1, x, .cons _ t, e => by
  obtain ⟨u, h1, h2⟩ := Vals.get (i := i) (x := x) t (by simpa using e)
  exact ⟨u, by simpa using h1, h2⟩
theorem Vals.set {x : V} {u : Value} (r : RelV x u) : ∀ {xs : List V} {us : List Value} (i : Nat), Vals xs us -> Vals (xs.set i x) (us.set i u)
 | _, _, _, .nil => .nil
 | _, _, 0, .cons _ t => .cons r t
 | _, _, i + 1, .cons q t => .cons q (Vals.set r i t)
theorem Vals.append : ∀ {xs ys : List V} {us ws : List Value}, Vals xs us -> Vals ys ws -> Vals (xs ++ ys) (us ++ ws)
 | _, _, _, _, .nil, s => s
 | _, _, _, _, .cons r t, s => .cons r (Vals.append t s)
theorem Vals.take : ∀ {xs : List V} {us : List Value} (n : Nat), Vals xs us -> Vals (xs.take n) (us.take n)
 | _, _, 0, _ => .nil
 | _, _, _ + 1, .nil => .nil
 | _, _, n + 1, .cons r t => .cons r (Vals.take n t)
theorem Vals.drop : ∀ {xs : List V} {us : List Value} (n : Nat), Vals xs us -> Vals (xs.drop n) (us.drop n)
 | _, _, 0, r => r
 | _, _, _ + 1, .nil => .nil
 | _, _, n + 1, .cons _ t => Vals.drop n t
noncomputable def RelO : Option V -> Option Value -> Prop
 | some v, some u => RelV v u
 | none, none => True
 | _, _ => False
def KV {κ : Type} : List (κ × V) -> List (κ × Value) -> Prop := Paired fun (p : κ × V) (q : κ × Value) => p.1 = q.1 /\ RelV p.2 q.2
noncomputable def kV : Key -> V
 | .inl i => .int i
 | .inr x => .str x
inductive HO where
 | lst (xs : List V)
 | tup (xs : List V)
 | dK (kvs : List (Key × V)) | dT (kvs : List (List Key × V))
 | set (S : Int -> Bool) (n : Nat)
 | ins (C dx : Addr) (fs : List (Str × V))
 | own (x : Addr)
 | xd (fs : List (Str × V))
 | met (f x : Addr)
 | rng (lo hi : Int)
 | frz (o : Obj) (u : HO)
 | tbl (ps : Array Value)
 | ext (φ : Heap -> Prop)
noncomputable abbrev Hp := Addr -> Option HO
noncomputable def upd (H : Hp) (a : Addr) (o : HO) : Hp := fun b => if b = a then some o else H b
theorem upd_same {H : Hp} {a : Addr} {o : HO} : upd H a o a = some o := by unfold upd; rw [if_pos rfl]
theorem upd_ne {H : Hp} {a b : Addr} {o : HO} (h : b ≠ a) : upd H a o b = H b := by unfold upd; rw [if_neg h]
theorem ne_of_none {H : Hp} {a b : Addr} {o : HO} (h : H a = some o) (h' : H b = none) : a ≠ b := by
 intro e; subst e; rw [h] at h'; cases h'
section
variable (P : Program) (w : World)
noncomputable def ObjOk (H : Hp) (h : Heap) (a : Addr) : HO -> Prop
 | .lst xs => xs.length <= sizeLine /\ ∃ (its : List Value) (n : Nat), Vals xs its /\ h.get? a = some { cls := .type "list", data := .seq its.toArray n }
 | .tup xs => xs.length <= sizeLine /\ ∃ its : List Value, Vals xs its /\ IsTup h a its.toArray
 | .dK kvs => kvs.length <= sizeLine /\ (a == sysModules) = false /\ ∃ vs, KV kvs vs /\ h.DictOf (mixKind P w) a vs
 | .dT kvs => kvs.length <= sizeLine /\ (a == sysModules) = false /\ ∃ xs : List (List Key × Addr × Value),
   Paired (fun (p : List Key × V) (q : List Key × Addr × Value) => p.1 = q.1 /\ H q.2.1 = some (.tup (p.1.map kV)) /\ RelV p.2 q.2.2) kvs xs /\
   ∃ o es ep, h.get? a = some o /\ o.ExactDict /\ o.data = .dict es ep /\ es.toList = xs.map (entryOfKey (tupleKind (mixKind P w))) /\ (xs.map (·.1)).Nodup
 | .set S n => h.SetOf (intKind P w) a S n
 | .ins C dx fs => H dx = some (.own a) /\ fs.length <= 1000 /\ dx ≠ a /\ h.get? a = some (W.instObj C dx) /\
   ∃ mA, h.Ns1 dx mA /\ (∀ f, RelO (fs.lookup f) (mA f)) /\ PySem.Within mA (fs.map (·.1))
 | .own _ => ∃ o, h.get? a = some o
 | .xd fs => ∃ mA, h.Ns1 a mA /\ ∀ f, RelO (fs.lookup f) (mA f)
 | .rng lo hi => ∃ t u v, h.get? a = some { cls := .type "range", data := .fields #[.int lo t, .int hi u, .int 1 v] }
 | .frz o u => h.get? a = some o /\ ObjOk H h a u
 | .tbl ps => h.get? a = some { cls := .none, data := .fields ps }
 | .met f x => h.get? a = some (W.methodObj (.ref f) (.ref x))
 | .ext φ => φ h /\ (∃ o, h.get? a = some o) /\ ∀ h1 h2 : Heap, φ h1 -> (∀ o, h1.get? a = some o -> h2.get? a = some o) -> φ h2
def HOk (H : Hp) (h : Heap) : Prop := ∀ a o, H a = some o -> ObjOk P w H h a o
end
section
variable {P : Program} {w : World} {H H' : Hp} {h h' : Heap} {a : Addr} {o : HO}
theorem ObjOk.lt (x : ObjOk P w H h a o) : a < h.objs.size := by
 cases o with
 | lst xs => obtain ⟨_, _, _, _, e⟩ := x; exact Heap.lt_size e
 | tup xs => obtain ⟨_, _, _, p⟩ := x; exact p.lt
 | dK kvs => obtain ⟨_, _, _, _, o, _, _, e, _⟩ := x; exact Heap.lt_size e
 | dT kvs => obtain ⟨_, _, _, _, o, _, _, e, _⟩ := x; exact Heap.lt_size e
 | set S n => obtain ⟨o, _, _, _, e, _⟩ := x; exact Heap.lt_size e
 | ins C dx fs => obtain ⟨_, _, _, e, _⟩ := x; exact Heap.lt_size e
 | own y => obtain ⟨_, e⟩ := x; exact Heap.lt_size e
 | xd fs => obtain ⟨_, ⟨_, _, _, e, _⟩, _⟩ := x; exact Heap.lt_size e
 | rng lo hi => obtain ⟨_, _, _, e⟩ := x; exact Heap.lt_size e
 | frz ob u => obtain ⟨e, _⟩ := x; exact Heap.lt_size e
 | tbl ps => exact Heap.lt_size (show h.get? a = some _ from x)
 | met f y => exact Heap.lt_size (show h.get? a = some _ from x)
 | ext φ => obtain ⟨_, ⟨_, e⟩, _⟩ := x; exact Heap.lt_size e
theorem Paired.mapP {α β : Type} {F G : α -> β -> Prop} : ∀ {l₁ : List α} {l₂ : List β}, Paired F l₁ l₂ -> (∀ a b, F a b -> G a b) -> Paired G l₁ l₂
 | _, _, .nil, _ => .nil
 | _, _, .cons r t, f => .cons (f _ _ r) (Paired.mapP t f)
theorem ObjOk.stay (x : ObjOk P w H h a o) (k : ∀ b u, (b = a \/ H b = some (.own a)) -> h.get? b = some u -> h'.get? b = some u)
  (ho : ∀ b, H b = some (.own a) -> H' b = some (.own a)) (ht : ∀ b xs, H b = some (.tup xs) -> H' b = some (.tup xs)) : ObjOk P w H' h' a o := by
 induction o with
 | lst xs => obtain ⟨z, its, n, r, e⟩ := x; exact ⟨z, its, n, r, k _ _ (.inl rfl) e⟩
 | tup xs => obtain ⟨z, its, r, ob, e, c⟩ := x; exact ⟨z, its, r, ob, k _ _ (.inl rfl) e, c⟩
 | dK kvs => obtain ⟨z, y, vs, r, ob, es, ep, e, c⟩ := x; exact ⟨z, y, vs, r, ob, es, ep, k _ _ (.inl rfl) e, c⟩
 | dT kvs =>
  obtain ⟨z, y, xs, r, ob, es, ep, e, c⟩ := x
  exact ⟨z, y, xs, Paired.mapP r fun p q z => ⟨z.1, ht _ _ z.2.1, z.2.2⟩, ob, es, ep, k _ _ (.inl rfl) e, c⟩
 | set S n => obtain ⟨ob, es, ep, t, e, c⟩ := x; exact ⟨ob, es, ep, t, k _ _ (.inl rfl) e, c⟩
 | ins C dx fs =>
  obtain ⟨d, z, ne, e, mA, ⟨od, es, ep, e2, c⟩, r⟩ := x
  exact ⟨ho _ d, z, ne, k _ _ (.inl rfl) e, mA, ⟨od, es, ep, k _ _ (.inr d) e2, c⟩, r⟩
 | own y => obtain ⟨ob, e⟩ := x; exact ⟨ob, k _ _ (.inl rfl) e⟩
 | xd fs => obtain ⟨mA, ⟨od, es, ep, e, c⟩, r⟩ := x; exact ⟨mA, ⟨od, es, ep, k _ _ (.inl rfl) e, c⟩, r⟩
 | rng lo hi => obtain ⟨t, u, v, e⟩ := x; exact ⟨t, u, v, k _ _ (.inl rfl) e⟩
 | frz ob u ih => obtain ⟨e, q⟩ := x; exact ⟨k _ _ (.inl rfl) e, ih q⟩
 | tbl ps =>
  have e : h.get? a = some { cls := .none, data := .fields ps } := x
  show h'.get? a = some { cls := .none, data := .fields ps }
  exact k a _ (.inl rfl) e
 | met f y =>
  have e : h.get? a = some (W.methodObj (.ref f) (.ref y)) := x
  show h'.get? a = some (W.methodObj (.ref f) (.ref y))
  exact k a _ (.inl rfl) e
 | ext φ => obtain ⟨p, ⟨o, e⟩, st⟩ := x; exact ⟨st _ _ p fun o q => k _ _ (.inl rfl) q, ⟨o, k _ _ (.inl rfl) e⟩, st⟩
theorem HOk.lt (x : HOk P w H h) (e : H a = some o) : a < h.objs.size := (x a o e).lt
theorem HOk.fresh (x : HOk P w H h) (e : h.objs.size <= a) : H a = none := by
 cases q : H a with
 | none => rfl
 | some u => exact absurd (Nat.lt_of_lt_of_le (x.lt q) e) (Nat.lt_irrefl _)
theorem HOk.kept (x : HOk P w H h) (k : ∀ b u, h.get? b = some u -> h'.get? b = some u) : HOk P w H h' := fun a o e =>
 (x a o e).stay (fun b u _ q => k b u q) (fun _ q => q) fun _ _ q => q
theorem HOk.laid (x : HOk P w H h) (k : ∀ b u, h.get? b = some u -> h'.get? b = some u) (hp : h.objs.size <= a) (new : ObjOk P w (upd H a o) h' a o) : HOk P w (upd H a o) h' := fun b u e => by
 have hn := x.fresh hp
 by_cases hb : b = a
 ·subst hb; rw [upd_same] at e; cases e; exact new
 ·rw [upd_ne hb] at e
  exact (x b u e).stay (fun c v _ q => k c v q) (fun c q => by rw [upd_ne (ne_of_none q hn)]; exact q) fun c xs q => by rw [upd_ne (ne_of_none q hn)]; exact q
end
def Rd (H : Hp) (a : Addr) (u : HO) : Prop := H a = some u \/ ∃ o, H a = some (.frz o u)
theorem Rd.ok {P : Program} {w : World} {H : Hp} {h : Heap} {a : Addr} {u : HO} (r : Rd H a u) (x : HOk P w H h) : ObjOk P w H h a u := by
 rcases r with r | ⟨o, r⟩
 ·exact x a u r
 ·obtain ⟨_, q⟩ := x a _ r
  exact q
noncomputable def Mut : Option HO -> Prop
 | some (.lst _) => True
 | some (.dK _) => True
 | some (.dT _) => True
 | some (.set _ _) => True
 | some (.ins _ _ _) => True
 | some (.ext _) => True
 | _ => False
section
variable {P : Program} {w : World} {H : Hp} {h h' : Heap} {x e : Addr} {o' : HO}
theorem HOk.write (ok : HOk P w H h) (mu : Mut (H x)) (he : e = x \/ H e = some (.own x)) (k : ∀ b u, b ≠ e -> h.get? b = some u -> h'.get? b = some u) (heo : ∃ u, h'.get? e = some u)
  (new : ObjOk P w (upd H x o') h' x o') : HOk P w (upd H x o') h' := fun b u q => by
 have nown : ∀ c y, H c = some (.own y) -> c ≠ x := fun c y r z => by subst z; rw [r] at mu; exact mu
 have ntup : ∀ c xs, H c = some (.tup xs) -> c ≠ x := fun c xs r z => by subst z; rw [r] at mu; exact mu
 by_cases hb : b = x
 ·subst hb; rw [upd_same] at q; cases q; exact new
 ·rw [upd_ne hb] at q
  by_cases hbe : b = e
  ·have q' : H b = some (.own x) := by
    rcases he with z | z
    ·exact absurd (hbe.trans z) hb
    ·rw [hbe]; exact z
   rw [q] at q'; cases q'
   obtain ⟨v, hv⟩ := heo
   exact ⟨v, by rw [hbe]; exact hv⟩
  ·refine (ok b u q).stay (fun c v hc r => k c v ?_ r) (fun c r => by rw [upd_ne (nown c b r)]; exact r) fun c xs r => by rw [upd_ne (ntup c xs r)]; exact r
   rcases hc with rfl | hc
   ·exact hbe
   ·rintro rfl
    rcases he with z | z
    ·exact nown c b hc z
    ·rw [hc] at z; cases z; exact hb rfl
end
structure Un (fs ex : List Addr) (H H' : Hp) (h h' : Heap) : Prop where
 keep : ∀ b o, h.get? b = some o -> H b = none -> b ∉ fs -> b ∉ ex -> h'.get? b = some o
 slot : ∀ b o, h.get? b = some o -> H b = none -> b ∈ fs -> b ∉ ex -> ∃ sl, h'.get? b = some { o with slots := sl }
 free : ∀ b o, h.get? b = some o -> H b = none -> b ∉ ex -> H' b = none
 there : ∀ b o, h.get? b = some o -> b ∉ ex -> ∃ o', h'.get? b = some o'
 tups : ∀ b xs, H b = some (.tup xs) -> H' b = some (.tup xs)
 frzs : ∀ b o u, H b = some (.frz o u) -> H' b = some (.frz o u)
 tbls : ∀ b ps, H b = some (.tbl ps) -> ∃ more, H' b = some (.tbl (ps ++ more))
section
variable {fs fs' ex ex' : List Addr} {H H1 H2 : Hp} {h h1 h2 h' : Heap} {a x e : Addr} {o : HO}
theorem Un.any (u : Un fs ex H H1 h h1) {b : Addr} {ob : Obj} (q : h.get? b = some ob) (n : H b = none) (hx : b ∉ ex) : ∃ sl, h1.get? b = some { ob with slots := sl } := by
 by_cases hb : b ∈ fs
 ·exact u.slot b ob q n hb hx
 ·exact ⟨ob.slots, u.keep b ob q n hb hx⟩
theorem Un.kept (k : ∀ b u, h.get? b = some u -> h'.get? b = some u) : Un fs ex H H h h' :=
 ⟨fun b ob q _ _ _ => k b ob q, fun b ob q _ _ _ => ⟨ob.slots, k b ob q⟩, fun _ _ _ n _ => n, fun b ob q _ => ⟨ob, k b ob q⟩, fun _ _ q => q, fun _ _ _ q => q, fun _ ps q => ⟨#[], by rw [q]; simp⟩⟩
theorem Un.refl : Un fs ex H H h h := Un.kept fun _ _ q => q
theorem Un.laid (k : ∀ b u, h.get? b = some u -> h'.get? b = some u) (hp : h.objs.size <= a) (hn : H a = none) : Un fs ex H (upd H a o) h h' where
 keep := fun b u q _ _ _ => k b u q
 slot := fun b u q _ _ _ => ⟨u.slots, k b u q⟩
 free := fun b u q n _ => by rw [upd_ne (Nat.ne_of_lt (Nat.lt_of_lt_of_le (Heap.lt_size q) hp))]; exact n
 there := fun b u q _ => ⟨u, k b u q⟩
 tups := fun b xs q => by rw [upd_ne (ne_of_none q hn)]; exact q
 frzs := fun b u xs q => by rw [upd_ne (ne_of_none q hn)]; exact q
 tbls := fun b ps q => ⟨#[], by rw [upd_ne (ne_of_none q hn), q]; simp⟩
theorem Un.write (mu : Mut (H x)) (he : e = x \/ H e = some (.own x)) (k : ∀ b u, b ≠ e -> h.get? b = some u -> h'.get? b = some u) (heo : ∃ u, h'.get? e = some u) : Un fs ex H (upd H x o) h h' := by
 have hx : ∀ b, H b = none -> b ≠ x := fun b n z => by subst z; rw [n] at mu; exact mu
 have hb : ∀ b, H b = none -> b ≠ e := fun b n z => by
  subst z
  rcases he with r | r
  ·exact hx b n r
  ·rw [n] at r; cases r
 have hm : ∀ b u, H b = some u -> ¬ Mut (some u) -> b ≠ x := fun b u q nm z => by subst z; rw [q] at mu; exact nm mu
 refine ⟨fun b u q n _ _ => k b u (hb b n) q, fun b u q n _ _ => ⟨u.slots, k b u (hb b n) q⟩, fun b u q n _ => by rw [upd_ne (hx b n)]; exact n, fun b u q _ => ?_,
  fun b xs q => by rw [upd_ne (hm b _ q fun z => z)]; exact q, fun b u xs q => by rw [upd_ne (hm b _ q fun z => z)]; exact q, fun b ps q => ⟨#[], by rw [upd_ne (hm b _ q fun z => z), q]; simp⟩⟩
 by_cases hbe : b = e
 ·subst hbe; exact heo
 ·exact ⟨u, k b u hbe q⟩
end
noncomputable def trk (h : Heap) (H : Hp) : List Addr := (List.range h.objs.size).filter fun a => (H a).isSome
noncomputable def hidT (h : Heap) (H : Hp) : Heap := W.hideAll h (trk h H)
theorem hidT_size (h : Heap) (H : Hp) : (hidT h H).objs.size = h.objs.size := W.hideAll_size _ _
theorem hidT_get {h : Heap} {H : Hp} {b : Addr} {o : Obj} (e : h.get? b = some o) (n : H b = none) : (hidT h H).get? b = some o :=
 W.hideAll_get _ e fun hm => by
  have q : (H b).isSome = true := (List.mem_filter.mp hm).2
  rw [n] at q; simp at q
theorem of_hidT {h : Heap} {H : Hp} {b : Addr} {o : Obj} (e : (hidT h H).get? b = some o) : h.get? b = some o /\ H b = none := by
 have e' : h.get? b = some o := W.of_hideAll (trk h H) e
 refine ⟨e', ?_⟩
 cases q : H b with
 | none => rfl
 | some x =>
  have hm : b ∈ trk h H := List.mem_filter.mpr ⟨List.mem_range.mpr (Heap.lt_size e'), by simp [q]⟩
  have z : (hidT h H).get? b = none := W.hideAll_none (trk h H) hm
  rw [z] at e; cases e
noncomputable def allNews (g h : Heap) (L : Addr) : List (Addr × Obj) := (List.range h.objs.size).filterMap fun a => if a = L \/ (g.get? a).isSome = true then none else (h.get? a).map fun o => (a, o)
noncomputable def rest (g h : Heap) (L d : Addr) : List (Addr × Obj) := (allNews g h L).filter fun p => decide (p.1 ≠ d)
end
section
structure Mod (K : W.Frag) (mg : Str -> Option Value) (base : Heap) : Prop where
 kin : K.In base
 glob : base.Ns mainGlobals mg
 blt : ∃ mb, base.Ns builtinsNs mb /\ ∀ x : Str, x ≠ "__name__" -> mb x = bootBuiltins x
 nolimit : base.NoLimit
structure Cx where
 prog : Program
 w : World
 K : W.Frag
 mg : Str -> Option Value
 base : Heap
 A : Around
 N : List Str
 s₀ : Shared
 H₀ : Hp
 env : Env
 outer : List Env
 stack : List Env
 ex : List Addr
 fn : Str -> Bool
 calm : Bool
 pn : List (Addr × Obj)
 xe : Value -> Shared -> Prop
noncomputable def frs (l : List Env) : List Addr := l.filterMap (·.frame)
noncomputable abbrev Cx.fs (X : Cx) : List Addr := frs X.outer
def Vis (sc : Scope) (x : Str) : Prop := sc.names.lookup x = some .local \/ sc.names.lookup x = some .cell \/ sc.names.lookup x = some .free
def Loc (sc : Scope) (x : Str) : Prop := sc.names.lookup x = some .local \/ sc.names.lookup x = some .cell
def Look (env : Env) (h : Heap) (m : Str -> Option Value) (x : Str) (u : Value) : Prop :=
 (env.kindOf x = some .local /\ m x = some u) \/ ((env.kindOf x = some .cell \/ env.kindOf x = some .free) /\ ∃ c, env.cells.lookup x = some c /\ h.IsCell c (some u))
structure Cx.Ok (X : Cx) : Prop where
 mod : Mod X.K X.mg X.base
 kind : X.env.scope.kind = .function
 glob : X.env.globals = mainGlobals
 blt : X.env.builtins = builtinsNs
 above : X.s₀.heap.objs.size <= X.env.locals
 inj : ∀ x y c, X.env.cells.lookup x = some c -> X.env.cells.lookup y = some c -> x = y
 has : ∀ x, (X.env.kindOf x = some .cell \/ X.env.kindOf x = some .free) -> ∃ c, X.env.cells.lookup x = some c
 cab : ∀ x c, X.fn x = true -> X.env.cells.lookup x = some c -> X.s₀.heap.objs.size <= c
 hd : X.calm = true -> X.A.handled = none
 frames : X.A.frames = some X.stack
 stk : X.stack = X.outer \/ (X.stack = X.env :: X.outer /\ X.env.frame = some X.env.locals)
 exf : ∀ b ∈ X.ex, b ≠ X.env.locals /\ ∀ x c, X.env.cells.lookup x = some c -> c ≠ b
 bs : ∀ b o, X.base.get? b = some o -> X.s₀.heap.get? b = some o /\ X.H₀ b = none
 bsz : X.base.objs.size <= X.s₀.heap.objs.size
 noex : ∀ b o, X.base.get? b = some o -> b ∉ X.ex
 exfs : ∀ b ∈ X.ex, b ∉ X.fs
 funs : X.s₀.heap.FunFrames X.base X.outer
 frf : ∀ b ∈ X.fs, X.H₀ b = none
structure Inv (X : Cx) (pins : List (Addr × Obj)) (σ : List (Option V)) (H : Hp) (s : Shared) : Prop where
 ok : X.Ok
 os : s.os = X.s₀.os
 bare : AllBare s.gens
 base : Un X.fs X.ex X.H₀ H X.s₀.heap s.heap
 loc : ∃ m, s.heap.Ns X.env.locals m /\ ∀ (i : Nat) (x : Str) (v : V), X.N[i]? = some x -> σ[i]? = some (some v) -> Vis X.env.scope x -> ∃ u, RelV v u /\ Look X.env s.heap m x u
 cell : ∀ x c, X.env.cells.lookup x = some c -> ∃ v, s.heap.IsCell c v
 free : H X.env.locals = none
 freeC : ∀ x c, X.env.cells.lookup x = some c -> H c = none
 pin : ∀ p ∈ X.pn ++ pins, s.heap.get? p.1 = some p.2 /\ H p.1 = none /\ p.1 ≠ X.env.locals /\ p.1 ∉ X.fs /\ ∀ v, p.2.data ≠ .cell v
 hok : HOk X.prog X.w H s.heap
 len : σ.length = X.N.length
section
variable {X : Cx} {pins : List (Addr × Obj)} {σ : List (Option V)} {H H' : Hp} {s : Shared} {h' : Heap}
theorem Cx.Ok.nofr (ok : X.Ok) {b : Addr} {o : Obj} (e : X.base.get? b = some o) : b ∉ X.fs := fun hb => by
 have := (ok.funs.mem hb).1
 rw [e] at this; cases this
theorem Inv.bs (I : Inv X pins σ H s) : ∀ b o, X.base.get? b = some o -> s.heap.get? b = some o /\ H b = none := fun b o e =>
 ⟨I.base.keep b o (I.ok.bs b o e).1 (I.ok.bs b o e).2 (I.ok.nofr e) (I.ok.noex b o e), I.base.free b o (I.ok.bs b o e).1 (I.ok.bs b o e).2 (I.ok.noex b o e)⟩
theorem Inv.bk (I : Inv X pins σ H s) : ∀ b o, X.base.get? b = some o -> s.heap.get? b = some o := fun b o e => (I.bs b o e).1
theorem Inv.mod (I : Inv X pins σ H s) : Mod X.K X.mg X.base := I.ok.mod
theorem Inv.kIn (I : Inv X pins σ H s) : X.K.In s.heap := I.ok.mod.kin.keeps I.bk
theorem Inv.lt (I : Inv X pins σ H s) : X.env.locals < s.heap.objs.size := let ⟨_, hn, _⟩ := I.loc; hn.lt
theorem Inv.sz (I : Inv X pins σ H s) : X.s₀.heap.objs.size <= s.heap.objs.size := Nat.le_trans I.ok.above (Nat.le_of_lt I.lt)
theorem Inv.nofs (I : Inv X pins σ H s) {a : Addr} (h : s.heap.objs.size <= a) : a ∉ X.fs := fun hb => by
 obtain ⟨_, o, ho, _⟩ := I.ok.funs.mem hb
 exact absurd (Nat.lt_of_lt_of_le (Heap.lt_size ho) (Nat.le_trans I.sz h)) (Nat.lt_irrefl _)
theorem Inv.cne (I : Inv X pins σ H s) : ∀ x c, X.env.cells.lookup x = some c -> c ≠ X.env.locals := fun x c e z => by
 obtain ⟨v, o, ho, hd⟩ := I.cell x c e
 obtain ⟨m, ⟨o', es, ep, ho', hd', _⟩, _⟩ := I.loc
 rw [z, ho'] at ho; cases ho; rw [hd'] at hd; cases hd
theorem Inv.funs (I : Inv X pins σ H s) : s.heap.FunFrames X.base X.outer := by
 have all : ∀ (l : List Env), (∀ b ∈ frs l, b ∈ X.fs) -> X.s₀.heap.FunFrames X.base l -> s.heap.FunFrames X.base l := by
  intro l
  induction l with
  | nil => intro _ _; trivial
  | cons env r ih =>
   intro hs hl
   obtain ⟨hk, ⟨L, o, hf, hn, ho, hd⟩, hr⟩ := hl
   have hL : L ∈ X.fs := hs L (by unfold frs; rw [filterMap_cons, hf]; exact mem_cons_self)
   obtain ⟨sl, e⟩ := I.base.slot L o ho (I.ok.frf L hL) hL fun z => I.ok.exfs L z hL
   exact ⟨hk, ⟨L, _, hf, hn, e, hd⟩, ih (fun b hb => hs b (by unfold frs; rw [filterMap_cons, hf]; exact mem_cons_of_mem _ hb)) hr⟩
 exact all X.outer (fun _ hb => hb) I.ok.funs
theorem Inv.stack (I : Inv X pins σ H s) : s.heap.FunFrames X.base X.stack := by
 rcases I.ok.stk with e | ⟨e, hf⟩
 ·rw [e]; exact I.funs
 ·rw [e]
  obtain ⟨m, hn, _⟩ := I.loc
  refine .cons (by rw [I.ok.kind]; decide) hf hn ?_ I.funs
  exact Heap.get?_none_of_le (Nat.le_trans I.ok.bsz I.ok.above)
theorem Inv.stkSub (I : Inv X pins σ H s) : ∀ b ∈ frs X.stack, b ∈ X.env.locals :: X.fs := fun b hb => by
 rcases I.ok.stk with e | ⟨e, hf⟩
 ·rw [e] at hb; exact mem_cons_of_mem _ hb
 ·rw [e] at hb
  unfold frs at hb
  rw [filterMap_cons, hf] at hb
  exact hb
theorem Inv.stkFree (I : Inv X pins σ H s) : ∀ b ∈ frs X.stack, H b = none := fun b hb => by
 rcases List.mem_cons.mp (I.stkSub b hb) with e | hb
 ·rw [e]; exact I.free
 ·obtain ⟨_, o, ho, _⟩ := I.ok.funs.mem hb
  exact I.base.free b o ho (I.ok.frf b hb) fun z => I.ok.exfs b z hb
theorem Inv.step {g' : Array GenState} {t' : Nat} {d' : Drawn} {ch : List Addr} (I : Inv X pins σ H s)
  (hch : ∀ b ∈ ch, (b ∈ X.ex \/ X.s₀.heap.objs.size <= b) /\ b ≠ X.env.locals /\ (∀ x c, X.env.cells.lookup x = some c -> c ≠ b) /\ ∀ p ∈ X.pn ++ pins, p.1 ≠ b)
  (keep : ∀ b o, b ≠ X.env.locals -> b ∉ X.fs -> b ∉ ch -> s.heap.get? b = some o -> H b = none -> h'.get? b = some o)
  (slot : ∀ b o, b ≠ X.env.locals -> b ∈ X.fs -> b ∉ ch -> s.heap.get? b = some o -> H b = none -> ∃ sl, h'.get? b = some { o with slots := sl }) (free : ∀ b o, b ∉ ch -> s.heap.get? b = some o -> H b = none -> H' b = none)
  (there : ∀ b o, b ∉ ch -> s.heap.get? b = some o -> ∃ o', h'.get? b = some o')
  (tups : ∀ b xs, H b = some (.tup xs) -> H' b = some (.tup xs)) (frzs : ∀ b o u, H b = some (.frz o u) -> H' b = some (.frz o u)) (tbls : ∀ b ps, H b = some (.tbl ps) -> ∃ more, H' b = some (.tbl (ps ++ more)))
  (ns : ∀ m, s.heap.Ns X.env.locals m -> h'.Ns X.env.locals m) (hok : HOk X.prog X.w H' h') (hg : AllBare g') :
  Inv X pins σ H' { s with heap := h', gens := g', drawn := d', toks := t' } := by
 have neL : ∀ b o, X.s₀.heap.get? b = some o -> b ≠ X.env.locals := fun b o e => Nat.ne_of_lt (Nat.lt_of_lt_of_le (Heap.lt_size e) I.ok.above)
 have neC : ∀ b o, X.s₀.heap.get? b = some o -> b ∉ X.ex -> b ∉ ch := fun b o e hx hb => by
  rcases (hch b hb).1 with z | z
  ·exact hx z
  ·exact absurd (Nat.lt_of_lt_of_le (Heap.lt_size e) z) (Nat.lt_irrefl _)
 have cellK : ∀ x c, X.env.cells.lookup x = some c -> ∀ v, s.heap.IsCell c v -> h'.IsCell c v := fun x c e v hpat => by
  obtain ⟨o, ho, hd⟩ := hpat
  have nch : c ∉ ch := fun z => (hch c z).2.2.1 x c e rfl
  by_cases hc : c ∈ X.fs
  ·obtain ⟨sl, q⟩ := slot c o (I.cne x c e) hc nch ho (I.freeC x c e)
   exact ⟨_, q, hd⟩
  ·exact ⟨o, keep c o (I.cne x c e) hc nch ho (I.freeC x c e), hd⟩
 refine ⟨I.ok, I.os, hg, ⟨fun b o e n hb hx => ?_, fun b o e n hb hx => ?_, fun b o e n hx => ?_, fun b o e hx => ?_, fun b xs e => tups b xs (I.base.tups b xs e), fun b o xs e => frzs b o xs (I.base.frzs b o xs e), fun b ps e => ?_⟩, ?_, fun x c e => ?_, ?_, fun x c e => ?_, fun p hp => ?_, hok, I.len⟩
 ·exact keep b o (neL b o e) hb (neC b o e hx) (I.base.keep b o e n hb hx) (I.base.free b o e n hx)
 ·obtain ⟨sl, e1⟩ := I.base.slot b o e n hb hx
  obtain ⟨sl', e2⟩ := slot b _ (neL b o e) hb (neC b o e hx) e1 (I.base.free b o e n hx)
  exact ⟨sl', e2⟩
 ·obtain ⟨o', e1⟩ := I.base.there b o e hx
  exact free b o' (neC b o e hx) e1 (I.base.free b o e n hx)
 ·obtain ⟨o', e1⟩ := I.base.there b o e hx
  exact there b o' (neC b o e hx) e1
 ·obtain ⟨m1, e1⟩ := I.base.tbls b ps e
  obtain ⟨m2, e2⟩ := tbls b _ e1
  exact ⟨m1 ++ m2, by rw [e2, Array.append_assoc]⟩
 ·obtain ⟨m, hn, hl⟩ := I.loc
  refine ⟨m, ns m hn, fun i x v e1 e2 e3 => ?_⟩
  obtain ⟨u, r, l⟩ := hl i x v e1 e2 e3
  refine ⟨u, r, ?_⟩
  rcases l with l | ⟨k, c, e, z⟩
  ·exact .inl l
  ·exact .inr ⟨k, c, e, cellK x c e _ z⟩
 ·obtain ⟨v, z⟩ := I.cell x c e
  exact ⟨v, cellK x c e v z⟩
 ·obtain ⟨m, ⟨o, _, _, ho, _⟩, _⟩ := I.loc
  exact free _ o (fun z => (hch _ z).2.1 rfl) ho I.free
 ·obtain ⟨v, o, ho, hd⟩ := I.cell x c e
  exact free c o (fun z => (hch c z).2.2.1 x c e rfl) ho (I.freeC x c e)
 ·obtain ⟨e, n, ne, nf, d⟩ := I.pin p hp
  have nch : p.1 ∉ ch := fun z => (hch p.1 z).2.2.2 p hp rfl
  exact ⟨keep p.1 p.2 ne nf nch e n, free p.1 p.2 nch e n, ne, nf, d⟩
theorem Inv.un {t' : Nat} (I : Inv X pins σ H s) (u : Un X.fs [] H H' s.heap h') (hok : HOk X.prog X.w H' h') : Inv X pins σ H' { s with heap := h', toks := t' } := by
 obtain ⟨m, ⟨o, es, ep, ho, r⟩, _⟩ := id I.loc
 obtain ⟨sl, hL⟩ := u.any ho I.free (by simp)
 exact I.step (g' := s.gens) (d' := s.drawn) (ch := []) (fun _ z => nomatch z) (fun b o _ hb _ e n => u.keep b o e n hb (by simp)) (fun b o _ hb _ e n => u.slot b o e n hb (by simp)) (fun b o _ e n => u.free b o e n (by simp)) (fun b o _ e => u.there b o e (by simp)) u.tups u.frzs u.tbls (fun m' hm => by
  obtain ⟨o', es', ep', ho', r'⟩ := hm
  rw [ho] at ho'; cases ho'
  exact ⟨_, es', ep', hL, r'⟩) hok I.bare
theorem Inv.call {g' : Array GenState} {t' : Nat} {d' : Drawn} {ch : List Addr} (I : Inv X pins σ H s) (u : Un (frs X.stack) ch H H' s.heap h') (hok : HOk X.prog X.w H' h') (hg : AllBare g')
  (hch : ∀ b ∈ ch, (b ∈ X.ex \/ X.s₀.heap.objs.size <= b) /\ b ≠ X.env.locals /\ (∀ x c, X.env.cells.lookup x = some c -> c ≠ b) /\ ∀ p ∈ X.pn ++ pins, p.1 ≠ b) :
  Inv X pins σ H' { s with heap := h', gens := g', drawn := d', toks := t' } := by
 obtain ⟨m, ⟨o, es, ep, ho, r⟩, _⟩ := id I.loc
 obtain ⟨sl, hL⟩ := u.any ho I.free fun z => (hch _ z).2.1 rfl
 exact I.step (ch := ch) hch (fun b o hL hb hc e n => u.keep b o e n (fun z => (List.mem_cons.mp (I.stkSub b z)).elim hL hb) hc) (fun b o _ _ hc e n => u.any e n hc) (fun b o hc e n => u.free b o e n hc) (fun b o hc e => u.there b o e hc) u.tups u.frzs u.tbls (fun m' hm => by
  obtain ⟨o', es', ep', ho', r'⟩ := hm
  rw [ho] at ho'; cases ho'
  exact ⟨_, es', ep', hL, r'⟩) hok hg
theorem Inv.turned {t' : Nat} {it : Addr} (I : Inv X pins σ H s) (k : ∀ b o, b ≠ it -> s.heap.get? b = some o -> h'.get? b = some o) (hn : H it = none) (hL : it ≠ X.env.locals)
  (h1 : it ∈ X.ex \/ X.s₀.heap.objs.size <= it) (h2 : ∀ x c, X.env.cells.lookup x = some c -> c ≠ it) (h3 : ∀ p ∈ X.pn ++ pins, p.1 ≠ it) : Inv X pins σ H { s with heap := h', toks := t' } := by
 have nit : ∀ b u, H b = some u -> b ≠ it := fun b u e z => by rw [z, hn] at e; cases e
 refine I.step (g' := s.gens) (d' := s.drawn) (ch := [it]) (fun b hb => ?_) (fun b o _ _ hc e _ => k b o (fun z => hc (by simp [z])) e) (fun b o _ _ hc e _ => ⟨o.slots, k b o (fun z => hc (by simp [z])) e⟩) (fun _ _ _ _ n => n)
  (fun b o hc e => ⟨o, k b o (fun z => hc (by simp [z])) e⟩) (fun _ _ e => e) (fun _ _ _ e => e) (fun b ps e => ⟨#[], by rw [e]; simp⟩) (fun m hm => ?_) (fun b u e => ?_) I.bare
 ·have e : b = it := by simpa using hb
  subst e
  exact ⟨h1, hL, h2, h3⟩
 ·obtain ⟨o, es, ep, ho, r⟩ := hm
  exact ⟨o, es, ep, k _ o (Ne.symm hL) ho, r⟩
 ·refine (I.hok b u e).stay (fun c v hc q => k c v ?_ q) (fun _ q => q) fun _ _ q => q
  rcases hc with z | z
  ·rw [z]; exact nit b u e
  ·exact nit c _ z
theorem Inv.tok (I : Inv X pins σ H s) (t : Nat) : Inv X pins σ H { s with toks := t } := I.un (h' := s.heap) (t' := t) Un.refl I.hok
theorem Inv.kept {t' : Nat} (I : Inv X pins σ H s) (k : ∀ b u, s.heap.get? b = some u -> h'.get? b = some u) : Inv X pins σ H { s with heap := h', toks := t' } := I.un (Un.kept k) (I.hok.kept k)
theorem Inv.laid {a : Addr} {o : HO} {t' : Nat} (I : Inv X pins σ H s) (k : ∀ b u, s.heap.get? b = some u -> h'.get? b = some u) (hp : s.heap.objs.size <= a) (new : ObjOk X.prog X.w (upd H a o) h' a o) :
  Inv X pins σ (upd H a o) { s with heap := h', toks := t' } := I.un (Un.laid k hp (I.hok.fresh hp)) (I.hok.laid k hp new)
theorem Inv.write {x e : Addr} {o : HO} {t' : Nat} (I : Inv X pins σ H s) (mu : Mut (H x)) (he : e = x \/ H e = some (.own x)) (k : ∀ b u, b ≠ e -> s.heap.get? b = some u -> h'.get? b = some u) (heo : ∃ u, h'.get? e = some u)
  (new : ObjOk X.prog X.w (upd H x o) h' x o) : Inv X pins σ (upd H x o) { s with heap := h', toks := t' } := I.un (Un.write mu he k heo) (I.hok.write mu he k heo new)
theorem Inv.pins_of {pins' : List (Addr × Obj)} (I : Inv X pins σ H s) (h : ∀ p ∈ pins', s.heap.get? p.1 = some p.2 /\ H p.1 = none /\ p.1 ≠ X.env.locals /\ p.1 ∉ X.fs /\ ∀ v, p.2.data ≠ .cell v) : Inv X pins' σ H s :=
 ⟨I.ok, I.os, I.bare, I.base, I.loc, I.cell, I.free, I.freeC, fun p hp => (List.mem_append.mp hp).elim (fun z => I.pin p (mem_append_left _ z)) (h p), I.hok, I.len⟩
theorem nodup_ix {N : List Str} (hN : N.Nodup) {i j : Nat} {x : Str} (a : N[i]? = some x) (b : N[j]? = some x) : i = j := by
 obtain ⟨h1, e1⟩ := List.getElem?_eq_some_iff.mp a
 obtain ⟨h2, e2⟩ := List.getElem?_eq_some_iff.mp b
 exact (getElem_inj hN).mp (e1.trans e2.symm)
theorem store_ok2 {M : Model} {A : Around} {E : Value -> Shared -> Prop} {i : Nat} {x : Str} {v : V} {u : Value} {Q : Unit -> Shared -> Prop} (I : Inv X pins σ H s) (hN : X.N.Nodup) (hi : X.N[i]? = some x) (hx : Loc X.env.scope x) (r : RelV v u)
  (h : ∀ s', Inv X pins (σ.set i (some v)) H s' -> (∃ a, Heap.SameBut a s.heap s'.heap /\ (a = X.env.locals \/ X.env.cells.lookup x = some a)) -> Q () s') (hf : X.fn x = true \/ X.env.scope.names.lookup x = some .local := by first | exact .inl rfl | exact .inr rfl | assumption) : wpAny M A (storeName X.env x u) Q E s := by
 obtain ⟨m, hn, hl⟩ := id I.loc
 have hcls : (X.env.scope.kind == .class || (X.env.scope.kind == .module && X.env.locals != X.env.globals)) = false := by rw [I.ok.kind]; rfl
 have hiσ : i < σ.length := by rw [I.len]; exact (List.getElem?_eq_some_iff.mp hi).1
 have cne := I.cne
 have tracked : ∀ {a : Addr} {h' : Heap}, (∃ o, s.heap.get? a = some o /\ H a = none) -> Heap.SameBut a s.heap h' -> HOk X.prog X.w H h' := fun {a h'} ha hs b ob e => by
  obtain ⟨_, _, hfree⟩ := ha
  refine (I.hok b ob e).stay (fun c w' hc q => (hs.2 c ?_).trans q) (fun _ q => q) fun _ _ q => q
  rintro rfl
  rcases hc with rfl | hc
  ·rw [hfree] at e; cases e
  ·rw [hfree] at hc; cases hc
 rcases hx with hk | hk
 ·refine wpAny_storeName_local hk hn (fun h' hn' hs => ?_) hcls
  obtain ⟨oL, _, _, hoL, _⟩ := id hn
  refine h _ ⟨I.ok, I.os, I.bare, ⟨fun b o e n hb hx => ?_, fun b o e n hb hx => ?_, I.base.free, fun b o e hx => ?_, I.base.tups, I.base.frzs, I.base.tbls⟩, ⟨_, hn', fun j y v' e1 e2 e3 => ?_⟩, fun y c e => ?_, I.free, I.freeC, fun p hp => ?_, tracked ⟨oL, hoL, I.free⟩ hs, by simpa using I.len⟩ ⟨_, hs, .inl rfl⟩
  ·exact (hs.2 b (Nat.ne_of_lt (Nat.lt_of_lt_of_le (Heap.lt_size e) I.ok.above))).trans (I.base.keep b o e n hb hx)
  ·obtain ⟨sl, e1⟩ := I.base.slot b o e n hb hx
   exact ⟨sl, (hs.2 b (Nat.ne_of_lt (Nat.lt_of_lt_of_le (Heap.lt_size e) I.ok.above))).trans e1⟩
  ·obtain ⟨o', e1⟩ := I.base.there b o e hx
   exact ⟨o', (hs.2 b (Nat.ne_of_lt (Nat.lt_of_lt_of_le (Heap.lt_size e) I.ok.above))).trans e1⟩
  ·by_cases hj : j = i
   ·subst hj
    rw [hi] at e1; cases e1
    rw [getElem?_set_self hiσ] at e2
    cases e2
    exact ⟨u, r, .inl ⟨hk, by simp⟩⟩
   ·rw [getElem?_set_ne (Ne.symm hj)] at e2
    obtain ⟨u', r', q⟩ := hl j y v' e1 e2 e3
    refine ⟨u', r', ?_⟩
    rcases q with ⟨k, e⟩ | ⟨k, c, e, z⟩
    ·refine .inl ⟨k, ?_⟩
     have : y ≠ x := fun e => hj (nodup_ix hN e1 (e ▸ hi))
     simp [this, e]
    ·exact .inr ⟨k, c, e, z.sameBut hs (cne y c e)⟩
  ·obtain ⟨w', z⟩ := I.cell y c e
   exact ⟨w', z.sameBut hs (cne y c e)⟩
  ·obtain ⟨e, n, ne, nf, d⟩ := I.pin p hp
   exact ⟨(hs.2 p.1 ne).trans e, n, ne, nf, d⟩
 ·have hfn : X.fn x = true := by
   rcases hf with z | z
   ·exact z
   ·rw [z] at hk; cases hk
  obtain ⟨c, hc⟩ := I.ok.has x (.inl hk)
  obtain ⟨w', z⟩ := I.cell x c hc
  refine wpAny_storeName_cell I.ok.kind hk hc z (fun h' hc' hs => ?_)
  obtain ⟨oc, hoc, hocd⟩ := id z
  refine h { s with heap := h' } ⟨I.ok, I.os, I.bare, ⟨fun b o e n hb hx => ?_, fun b o e n hb hx => ?_, I.base.free, fun b o e hx => ?_, I.base.tups, I.base.frzs, I.base.tbls⟩, ⟨m, hn.sameBut hs (Ne.symm (cne x c hc)), fun j y v' e1 e2 e3 => ?_⟩, fun y c' e => ?_, I.free, I.freeC, fun p hp => ?_, tracked ⟨oc, hoc, I.freeC x c hc⟩ hs, by simpa using I.len⟩ ⟨c, hs, .inr hc⟩
  ·exact (hs.2 b (Nat.ne_of_lt (Nat.lt_of_lt_of_le (Heap.lt_size e) (I.ok.cab x c hfn hc)))).trans (I.base.keep b o e n hb hx)
  ·obtain ⟨sl, e1⟩ := I.base.slot b o e n hb hx
   exact ⟨sl, (hs.2 b (Nat.ne_of_lt (Nat.lt_of_lt_of_le (Heap.lt_size e) (I.ok.cab x c hfn hc)))).trans e1⟩
  ·obtain ⟨o', e1⟩ := I.base.there b o e hx
   exact ⟨o', (hs.2 b (Nat.ne_of_lt (Nat.lt_of_lt_of_le (Heap.lt_size e) (I.ok.cab x c hfn hc)))).trans e1⟩
  ·by_cases hj : j = i
   ·subst hj
    rw [hi] at e1; cases e1
    rw [getElem?_set_self hiσ] at e2
    cases e2
    exact ⟨u, r, .inr ⟨.inl hk, c, hc, hc'⟩⟩
   ·rw [getElem?_set_ne (Ne.symm hj)] at e2
    obtain ⟨u', r', q⟩ := hl j y v' e1 e2 e3
    refine ⟨u', r', ?_⟩
    rcases q with q | ⟨k, c', e, z'⟩
    ·exact .inl q
    ·refine .inr ⟨k, c', e, z'.sameBut hs ?_⟩
     rintro rfl
     exact hj (nodup_ix hN e1 (I.ok.inj _ _ _ e hc ▸ hi))
  ·by_cases hcc : c' = c
   ·subst hcc; exact ⟨_, hc'⟩
   ·obtain ⟨w2, z2⟩ := I.cell y c' e
    exact ⟨w2, z2.sameBut hs hcc⟩
  ·obtain ⟨e, n, ne, nf, d⟩ := I.pin p hp
   refine ⟨(hs.2 p.1 ?_).trans e, n, ne, nf, d⟩
   intro q
   rw [q, hoc] at e
   have q' : oc = p.2 := Option.some.inj e
   exact d w' (by rw [<- q']; exact hocd)
theorem store_ok {M : Model} {A : Around} {E : Value -> Shared -> Prop} {i : Nat} {x : Str} {v : V} {u : Value} {Q : Unit -> Shared -> Prop} (I : Inv X pins σ H s) (hN : X.N.Nodup) (hi : X.N[i]? = some x) (hx : Loc X.env.scope x) (r : RelV v u)
  (h : ∀ s', Inv X pins (σ.set i (some v)) H s' -> Q () s') (hf : X.fn x = true \/ X.env.scope.names.lookup x = some .local := by first | exact .inl rfl | exact .inr rfl | assumption) : wpAny M A (storeName X.env x u) Q E s :=
 store_ok2 I hN hi hx r (fun s' I' _ => h s' I') hf
theorem Inv.call' {s' : Shared} {ch : List Addr} (I : Inv X pins σ H s) (ho : s'.os = s.os) (u : Un (frs X.stack) ch H H' s.heap s'.heap) (hok : HOk X.prog X.w H' s'.heap) (hg : AllBare s'.gens)
  (hch : ∀ b ∈ ch, (b ∈ X.ex \/ X.s₀.heap.objs.size <= b) /\ b ≠ X.env.locals /\ (∀ x c, X.env.cells.lookup x = some c -> c ≠ b) /\ ∀ p ∈ X.pn ++ pins, p.1 ≠ b) : Inv X pins σ H' s' := by
 obtain ⟨h', g', d', t', o'⟩ := s'
 have e : o' = s.os := ho
 subst e
 exact I.call (g' := g') (t' := t') (d' := d') u hok hg hch
end
noncomputable abbrev XK := Value -> Option Addr -> Hp -> Prop
noncomputable abbrev St := List (Option V)
noncomputable abbrev VK := V -> Hp -> Prop
noncomputable abbrev TE := St -> Hp -> VK -> Prop
noncomputable abbrev TT := St -> Hp -> (Bool -> Hp -> Prop) -> Prop
noncomputable abbrev TA := St -> Hp -> (List V -> Hp -> Prop) -> Prop
structure Ends where
 nx : St -> Hp -> Prop
 rt : VK
 bk : St -> Hp -> Prop := fun _ _ => False
 ct : St -> Hp -> Prop := fun _ _ => False
noncomputable abbrev TS := Ends -> St -> Hp -> Prop
def EP (X : Cx) (pins : List (Addr × Obj)) (σ : St) (Q : VK) (u : Value) (s' : Shared) : Prop := ∃ v H', Inv X pins σ H' s' /\ RelV v u /\ Q v H'
def TP (X : Cx) (pins : List (Addr × Obj)) (σ : St) (Q : Bool -> Hp -> Prop) (b : Bool) (s' : Shared) : Prop := ∃ H', Inv X pins σ H' s' /\ Q b H'
def AP (X : Cx) (pins : List (Addr × Obj)) (σ : St) (Q : List V -> Hp -> Prop) (us : List Value) (s' : Shared) : Prop := ∃ vs H', Inv X pins σ H' s' /\ Vals vs us /\ Q vs H'
def SP (X : Cx) (pins : List (Addr × Obj)) (D : Ends) (f : Flow) (s' : Shared) : Prop :=
 match f with
 | .next => ∃ σ' H', Inv X pins σ' H' s' /\ D.nx σ' H'
 | .brk => ∃ σ' H', Inv X pins σ' H' s' /\ D.bk σ' H'
 | .cont => ∃ σ' H', Inv X pins σ' H' s' /\ D.ct σ' H'
 | .ret u => ∃ v σ' H', Inv X pins σ' H' s' /\ RelV v u /\ D.rt v H'
def PE (X : Cx) (e : Expr) (t : TE) : Prop :=
 ∀ (pins : List (Addr × Obj)) (s : Shared) (σ : St) (H : Hp) (Q : VK), Inv X pins σ H s -> t σ H Q -> wpAny (model X.prog X.w) X.A (eval e X.env) (EP X pins σ Q) X.xe s
def PT (X : Cx) (e : Expr) (t : TT) : Prop :=
 ∀ (pins : List (Addr × Obj)) (s : Shared) (σ : St) (H : Hp) (Q : Bool -> Hp -> Prop), Inv X pins σ H s -> t σ H Q -> wpAny (model X.prog X.w) X.A (isTrue e X.env (eval e X.env)) (TP X pins σ Q) X.xe s
def PW (X : Cx) (e : Expr) (t : TT) : Prop :=
 ∀ (whole : Sem Value) (pins : List (Addr × Obj)) (s : Shared) (σ : St) (H : Hp) (Q : Bool -> Hp -> Prop), Inv X pins σ H s -> t σ H Q -> wpAny (model X.prog X.w) X.A (isTrue e X.env whole) (TP X pins σ Q) X.xe s
theorem PW.pt {X : Cx} {e : Expr} {t : TT} (h : PW X e t) : PT X e t := h _
def PA (X : Cx) (es : List Expr) (t : TA) : Prop :=
 ∀ (pos : Pos) (pins : List (Addr × Obj)) (s : Shared) (σ : St) (H : Hp) (Q : List V -> Hp -> Prop), Inv X pins σ H s -> t σ H Q -> wpAny (model X.prog X.w) X.A (spliced (backTo pos (starEach es X.env))) (AP X pins σ Q) X.xe s
def PS (X : Cx) (st : Stmt) (t : TS) : Prop :=
 ∀ (pins : List (Addr × Obj)) (s : Shared) (σ : St) (H : Hp) (D : Ends), Inv X pins σ H s -> t D σ H -> wpAny (model X.prog X.w) X.A (exec st X.env) (SP X pins D) X.xe s
def PSs (X : Cx) (st : List Stmt) (t : TS) : Prop :=
 ∀ (pins : List (Addr × Obj)) (s : Shared) (σ : St) (H : Hp) (D : Ends), Inv X pins σ H s -> t D σ H -> wpAny (model X.prog X.w) X.A (execs st X.env) (SP X pins D) X.xe s
theorem thn {α : Type} {t : Sem α} {Q Q' : α -> Shared -> Prop} {M : Model} {A : Around} {E : Value -> Shared -> Prop} {s : Shared} (h : wpAny M A t Q E s) (hQ : ∀ a s, Q a s -> Q' a s) : wpAny M A t Q' E s := wpAny_mono h hQ fun _ _ x => x
end
section
section
variable {X : Cx}
def tVar (i : Nat) : TE := fun σ H Q => ∃ v, σ[i]? = some (some v) /\ Q v H
def tC (v : V) : TE := fun _ H Q => Q v H
theorem pe_var {i : Nat} {x : Str} {pos : Pos} (hN : X.N[i]? = some x) (hv : Vis X.env.scope x) (hd : (x == ("__debug__" : Str)) = false := by decide) (hcd : (x == ("__classdict__" : Str)) = false := by decide) : PE X (.Name x pos) (tVar i) := by
 intro pins s σ H Q I h
 obtain ⟨v, e, h⟩ := h
 obtain ⟨m, hn, hl⟩ := I.loc
 obtain ⟨u, r, l⟩ := hl i x v hN e hv
 have fin : EP X pins σ Q u s := ⟨v, H, I, r, h⟩
 rcases l with ⟨hk, hm⟩ | ⟨hk, c, hc, hcell⟩
 ·exact wpAny_Name (wpAny_loadName_local I.ok.kind hk hn hm fin) hd
 ·rcases hk with hk | hk
  ·exact wpAny_Name (wpAny_loadName_cell I.ok.kind hk hc hcell fin) hd
  ·exact wpAny_Name (wpAny_loadName_free I.ok.kind hk hc hcell fin hcd) hd
theorem pe_int {i j pos} : PE X (.Constant (.int i) j pos) (tC (.int i)) := fun _ _ _ H _ I h => wpAny_Constant_int ⟨.int i, H, I.tok _, ⟨_, rfl⟩, h⟩
theorem pe_bl {b j pos} : PE X (.Constant (.bool b) j pos) (tC (.bl b)) := fun _ _ _ H _ I h => Constant_bool ⟨.bl b, H, I, rfl, h⟩
theorem pe_non {j pos} : PE X (.Constant .none j pos) (tC .non) := fun _ _ _ H _ I h => Constant_none ⟨.non, H, I, rfl, h⟩
theorem pe_str {x j pos} : PE X (.Constant (.str x) j pos) (tC (.str x)) := fun _ _ _ H _ I h => Calls.Constant_str ⟨.str x, H, I.tok _, ⟨_, rfl⟩, h⟩
def Gl (X : Cx) (x : Str) : Prop := X.env.kindOf x = some .globalImplicit
theorem ld_glob {E : Value -> Shared -> Prop} {pins : List (Addr × Obj)} {s : Shared} {σ : St} {H : Hp} {x : Str} {u : Value} {pos : Pos} {Q : Value -> Shared -> Prop} (I : Inv X pins σ H s) (hg : Gl X x) (hm : X.mg x = some u) (h : Q u s)
  (hd : (x == ("__debug__" : Str)) = false := by decide) : wpAny (model X.prog X.w) X.A (eval (.Name x pos) X.env) Q E s :=
 Calls.Name_function_global I.ok.kind hg (Calls.loadGlobal_global (by rw [I.ok.glob]; exact I.mod.glob.keeps I.bk) hm h) hd
theorem ld_blt {E : Value -> Shared -> Prop} {pins : List (Addr × Obj)} {s : Shared} {σ : St} {H : Hp} {x : Str} {u : Value} {pos : Pos} {Q : Value -> Shared -> Prop} (I : Inv X pins σ H s) (hg : Gl X x) (hm : X.mg x = none) (hv : bootBuiltins x = some u) (h : Q u s)
  (hn : x ≠ "__name__" := by decide) (hd : (x == ("__debug__" : Str)) = false := by decide) : wpAny (model X.prog X.w) X.A (eval (.Name x pos) X.env) Q E s := by
 obtain ⟨mb, h1, h2⟩ := I.mod.blt
 exact Calls.Name_function_global I.ok.kind hg (Calls.loadGlobal_builtin (by rw [I.ok.glob]; exact I.mod.glob.keeps I.bk) hm (by rw [I.ok.blt]; exact h1.keeps I.bk) ((h2 x hn).trans hv) h) hd
theorem pe_glob {x : Str} {v : V} {u : Value} {pos : Pos} (hg : Gl X x) (hm : X.mg x = some u) (r : RelV v u) (hd : (x == ("__debug__" : Str)) = false := by decide) : PE X (.Name x pos) (tC v) :=
 fun _ _ _ H _ I h => ld_glob I hg hm ⟨v, H, I, r, h⟩ hd
theorem pe_bltn {x : Str} {v : V} {u : Value} {pos : Pos} (hg : Gl X x) (hm : X.mg x = none) (hv : bootBuiltins x = some u) (r : RelV v u) (hn : x ≠ "__name__" := by decide) (hd : (x == ("__debug__" : Str)) = false := by decide) : PE X (.Name x pos) (tC v) :=
 fun _ _ _ H _ I h => ld_blt I hg hm hv ⟨v, H, I, r, h⟩ hn hd
variable {a b : Expr} {ta tb : TE} {pos : Pos}
variable {tA tB' : TT} {rest : List Expr}
def tAnd (t u : TT) : TT := fun σ H Q => t σ H fun c H1 => if c = true then u σ H1 Q else Q false H1
def tOr (t u : TT) : TT := fun σ H Q => t σ H fun c H1 => if c = true then Q true H1 else u σ H1 Q
def tNot (t : TT) : TT := fun σ H Q => t σ H fun c H1 => Q (!c) H1
theorem pw_and1 (ha : PT X a tA) : PW X (.BoolOp .And [a] pos) tA := by
 intro wh pins s σ H Q I h
 refine isTrue_and (thn (ha pins s σ H Q I h) fun c s1 e => ?_)
 cases c with
 | true => exact isTrue_and_nil e
 | false => exact e
theorem pw_or1 (ha : PT X a tA) : PW X (.BoolOp .Or [a] pos) tA := by
 intro wh pins s σ H Q I h
 refine isTrue_or (thn (ha pins s σ H Q I h) fun c s1 e => ?_)
 cases c with
 | false => exact isTrue_or_nil e
 | true => exact e
theorem pw_and (ha : PT X a tA) (hb : PW X (.BoolOp .And (b :: rest) pos) tB') : PW X (.BoolOp .And (a :: b :: rest) pos) (tAnd tA tB') := by
 intro wh pins s σ H Q I h
 refine isTrue_and (thn (ha pins s σ H _ I h) fun c s1 hpat => ?_)
 obtain ⟨H1, I1, q1⟩ := hpat
 cases c with
 | true => exact hb wh pins s1 σ H1 Q I1 q1
 | false => exact ⟨H1, I1, q1⟩
theorem pw_or (ha : PT X a tA) (hb : PW X (.BoolOp .Or (b :: rest) pos) tB') : PW X (.BoolOp .Or (a :: b :: rest) pos) (tOr tA tB') := by
 intro wh pins s σ H Q I h
 refine isTrue_or (thn (ha pins s σ H _ I h) fun c s1 hpat => ?_)
 obtain ⟨H1, I1, q1⟩ := hpat
 cases c with
 | true => exact ⟨H1, I1, q1⟩
 | false => exact hb wh pins s1 σ H1 Q I1 q1
theorem pt_not (ha : PT X a tA) : PT X (.UnaryOp .Not a pos) (tNot tA) := by
 intro pins s σ H Q I h
 exact isTrue_not (ha pins s σ H (fun c H1 => Q (!c) H1) I h)
def tAndV (ta tb : TE) : TE := fun σ H Q => ta σ H fun x H1 => ∃ c, x = .bl c /\ if c = true then tb σ H1 Q else Q (.bl false) H1
def tOrV (ta tb : TE) : TE := fun σ H Q => ta σ H fun x H1 => ∃ c, x = .bl c /\ if c = true then Q (.bl true) H1 else tb σ H1 Q
def tNotV (ta : TE) : TE := fun σ H Q => ta σ H fun x H1 => ∃ c, x = .bl c /\ Q (.bl (!c)) H1
theorem pe_one {op} {t : TE} (h : PE X a t) : PE X (.BoolOp op [a] pos) t := fun pins s σ H Q I hw => BoolOp_one (h pins s σ H Q I hw)
theorem pe_and (ha : PE X a ta) (hb : PE X (.BoolOp .And (b :: rest) pos) tb) : PE X (.BoolOp .And (a :: b :: rest) pos) (tAndV ta tb) := by
 intro pins s σ H Q I h
 refine BoolOp_and (thn (ha pins s σ H _ I h) fun v s1 hpat => ?_)
 obtain ⟨x, H1, I1, r1, q1⟩ := hpat
 obtain ⟨c, rfl, q1⟩ := q1
 cases r1
 refine wpAny_truthy_bool ?_
 cases c with
 | true => exact hb pins s1 σ H1 Q I1 q1
 | false => exact ⟨.bl false, H1, I1, rfl, q1⟩
theorem pe_or (ha : PE X a ta) (hb : PE X (.BoolOp .Or (b :: rest) pos) tb) : PE X (.BoolOp .Or (a :: b :: rest) pos) (tOrV ta tb) := by
 intro pins s σ H Q I h
 refine BoolOp_or (thn (ha pins s σ H _ I h) fun v s1 hpat => ?_)
 obtain ⟨x, H1, I1, r1, q1⟩ := hpat
 obtain ⟨c, rfl, q1⟩ := q1
 cases r1
 refine wpAny_truthy_bool ?_
 cases c with
 | false => exact hb pins s1 σ H1 Q I1 q1
 | true => exact ⟨.bl true, H1, I1, rfl, q1⟩
theorem pe_not (ha : PE X a ta) : PE X (.UnaryOp .Not a pos) (tNotV ta) := by
 intro pins s σ H Q I h
 refine UnaryOp_ (thn (ha pins s σ H _ I h) fun v s1 hpat => ?_)
 obtain ⟨x, H1, I1, r1, q1⟩ := hpat
 obtain ⟨c, rfl, q1⟩ := q1
 cases r1
 exact not_of (wpAny_truthy_bool ⟨.bl (!c), H1, I1, rfl, q1⟩)
end
end
section
def SqL (K : W.Frag) (H : Hp) (a : Addr) (xs : List V) : Prop :=
 Rd H a (.lst xs) \/
  ∃ (o : Obj) (its : Array Value) (n : Nat), K.lookup a = some o /\ o.cls = .type "list" /\ o.dict = none /\ o.data = .seq its n /\ its.size <= sizeLine /\ Vals xs its.toList
def SqT (K : W.Frag) (H : Hp) (a : Addr) (xs : List V) : Prop :=
 Rd H a (.tup xs) \/
  ∃ (o : Obj) (its : Array Value) (n : Nat), K.lookup a = some o /\ o.cls = .type "tuple" /\ o.data = .seq its n /\ its.size <= sizeLine /\ Vals xs its.toList
noncomputable def absV : Value -> Option V
 | .none => some .non
 | .bool b => some (.bl b)
 | .int i _ => some (.int i)
 | .str x _ => some (.str x)
 | .bytes b _ => some (.byt b)
 | .float b _ => some (.flt b)
 | .ref a => some (.ref a)
 | .type n => some (.ty n)
 | _ => none
theorem RelV.abs {x : V} {u : Value} (r : RelV x u) : absV u = some x := by
 cases x with
 | non => cases r; rfl
 | bl _ => cases r; rfl
 | int _ => obtain ⟨t, rfl⟩ := r; rfl
 | str _ => obtain ⟨t, rfl⟩ := r; rfl
 | byt _ => obtain ⟨t, rfl⟩ := r; rfl
 | flt _ => obtain ⟨t, rfl⟩ := r; rfl
 | ref _ => cases r; rfl
 | ty _ => cases r; rfl
theorem RelV.inj {x y : V} {u : Value} (r : RelV x u) (q : RelV y u) : x = y := Option.some.inj (r.abs.symm.trans q.abs)
theorem Vals.inj : ∀ {xs ys : List V} {us : List Value}, Vals xs us -> Vals ys us -> xs = ys
 | _, _, _, .nil, .nil => rfl
 | _, _, _, .cons r t, .cons r' t' => by rw [r.inj r', Vals.inj t t']
section
variable {X : Cx} {pins : List (Addr × Obj)} {σ : St} {H : Hp} {s : Shared} {a : Addr} {xs ys : List V}
theorem SqL.of {K : W.Frag} (h : H a = some (.lst xs)) : SqL K H a xs := .inl (.inl h)
theorem SqT.of {K : W.Frag} (h : H a = some (.tup xs)) : SqT K H a xs := .inl (.inl h)
theorem Inv.list (I : Inv X pins σ H s) (h : SqL X.K H a xs) : ∃ its : List Value, Vals xs its /\ PlainL s.heap a its.toArray /\ xs.length <= sizeLine := by
 rcases h with h | ⟨o, its, n, hk, hc, hd, hs, hz, r⟩
 ·obtain ⟨z, its, n, r, e⟩ := h.ok I.hok
  exact ⟨its, r, ⟨_, n, e, rfl, rfl, rfl⟩, z⟩
 ·refine ⟨its.toList, r, ⟨o, n, I.kIn a o hk, hc, hd, by simpa using hs⟩, ?_⟩
  have e := r.length
  simp only [Array.length_toList] at e
  omega
theorem Inv.tuple (I : Inv X pins σ H s) (h : SqT X.K H a xs) : ∃ its : List Value, Vals xs its /\ IsTup s.heap a its.toArray /\ xs.length <= sizeLine := by
 rcases h with h | ⟨o, its, n, hk, hc, hs, hz, r⟩
 ·obtain ⟨z, its, r, p⟩ := h.ok I.hok
  exact ⟨its, r, p, z⟩
 ·refine ⟨its.toList, r, ⟨o, I.kIn a o hk, hc, n, by simpa using hs⟩, ?_⟩
  have e := r.length
  simp only [Array.length_toList] at e
  omega
theorem Inv.list_inj (I : Inv X pins σ H s) (h : SqL X.K H a xs) (h' : SqL X.K H a ys) : xs = ys := by
 obtain ⟨its, r, ⟨o, n, e, _, _, d⟩, _⟩ := I.list h
 obtain ⟨its', r', ⟨o', n', e', _, _, d'⟩, _⟩ := I.list h'
 rw [e] at e'; cases e'
 rw [d] at d'
 injection d' with d1 _
 have : its = its' := by simpa using congrArg Array.toList d1
 subst this
 exact r.inj r'
theorem Inv.tuple_inj (I : Inv X pins σ H s) (h : SqT X.K H a xs) (h' : SqT X.K H a ys) : xs = ys := by
 obtain ⟨its, r, ⟨o, e, _, n, d⟩, _⟩ := I.tuple h
 obtain ⟨its', r', ⟨o', e', _, n', d'⟩, _⟩ := I.tuple h'
 rw [e] at e'; cases e'
 rw [d] at d'
 injection d' with d1 _
 have : its = its' := by simpa using congrArg Array.toList d1
 subst this
 exact r.inj r'
end
noncomputable abbrev Cx.wish (X : Cx) (E : Value -> Shared -> Prop) : Cx := { X with xe := E }
noncomputable abbrev Cx.nox (X : Cx) : Cx := X.wish fun _ _ => False
theorem Cx.Ok.wish {X : Cx} (ok : X.Ok) (E : Value -> Shared -> Prop) : (X.wish E).Ok :=
 ⟨ok.mod, ok.kind, ok.glob, ok.blt, ok.above, ok.inj, ok.has, ok.cab, ok.hd, ok.frames, ok.stk, ok.exf, ok.bs, ok.bsz, ok.noex, ok.exfs, ok.funs, ok.frf⟩
theorem Cx.Ok.unwish {X : Cx} {E : Value -> Shared -> Prop} (ok : (X.wish E).Ok) : X.Ok :=
 ⟨ok.mod, ok.kind, ok.glob, ok.blt, ok.above, ok.inj, ok.has, ok.cab, ok.hd, ok.frames, ok.stk, ok.exf, ok.bs, ok.bsz, ok.noex, ok.exfs, ok.funs, ok.frf⟩
section
variable {X : Cx} {pins : List (Addr × Obj)} {σ : St} {H : Hp} {s : Shared} {E : Value -> Shared -> Prop}
theorem Inv.wish (I : Inv X pins σ H s) (E : Value -> Shared -> Prop) : Inv (X.wish E) pins σ H s := ⟨I.ok.wish E, I.os, I.bare, I.base, I.loc, I.cell, I.free, I.freeC, I.pin, I.hok, I.len⟩
theorem Inv.unwish (I : Inv (X.wish E) pins σ H s) : Inv X pins σ H s := ⟨I.ok.unwish, I.os, I.bare, I.base, I.loc, I.cell, I.free, I.freeC, I.pin, I.hok, I.len⟩
theorem SP.unwish {D : Ends} {f : Flow} {s' : Shared} (h : SP (X.wish E) pins D f s') : SP X pins D f s' := by
 cases f with
 | next => obtain ⟨σ', H', I, q⟩ := h; exact ⟨σ', H', I.unwish, q⟩
 | brk => obtain ⟨σ', H', I, q⟩ := h; exact ⟨σ', H', I.unwish, q⟩
 | cont => obtain ⟨σ', H', I, q⟩ := h; exact ⟨σ', H', I.unwish, q⟩
 | ret u => obtain ⟨v, σ', H', I, r, q⟩ := h; exact ⟨v, σ', H', I.unwish, r, q⟩
theorem PSs.nox {st : List Stmt} {t : TS} (h : PSs X.nox st t) : PSs X st t := fun pins s σ H D I hw =>
 wpAny_mono (h pins s σ H D (I.wish _) hw) (fun _ _ q => q.unwish) fun _ _ z => False.elim z
end
section
variable {X : Cx} {st : Stmt} {rest : List Stmt} {t u : TS} {e : Expr} {te : TE} {pos : Pos}
def tNext : TS := fun D σ H => D.nx σ H
def tSeq (t u : TS) : TS := fun D σ H => t { D with nx := u D } σ H
theorem pss_nil : PSs X [] tNext := fun _ _ σ H _ I h => wpAny_execs_nil ⟨σ, H, I, h⟩
theorem pss_cons (h1 : PS X st t) (h2 : PSs X rest u) : PSs X (st :: rest) (tSeq t u) := by
 intro pins s σ H D I h
 refine wpAny_execs_cons (thn (h1 pins s σ H { D with nx := u D } I h) fun f s1 q => ?_)
 cases f with
 | next =>
  obtain ⟨σ', H', I', q⟩ := q
  exact h2 pins s1 σ' H' D I' q
 | ret v => exact q
 | brk => exact q
 | cont => exact q
theorem pss_one (h1 : PS X st t) : PSs X [st] t := by
 intro pins s σ H D I h
 refine wpAny_execs_cons (thn (h1 pins s σ H D I h) fun f s1 q => ?_)
 cases f with
 | next => exact wpAny_execs_nil q
 | ret v => exact q
 | brk => exact q
 | cont => exact q
theorem Inv.quiet {pins : List (Addr × Obj)} {σ : St} {H : Hp} {s : Shared} (I : Inv X pins σ H s) : interactive X.env = false := by simp [interactive, I.ok.kind]
def tDrop (te : TE) : TS := fun D σ H => te σ H fun _ H1 => D.nx σ H1
theorem ps_expr (he : PE X e te) (hs : swapsWith e none pos.line X.env = pure false := by rfl) : PS X (.Expr e pos) (tDrop te) := by
 intro pins s σ H D I h
 exact wpAny_Expr_any (thn (he pins s σ H _ I h) fun v s1 ⟨x, H1, I1, r1, q1⟩ => ⟨σ, H1, I1, q1⟩) I.quiet hs
def tRet (te : TE) : TS := fun D σ H => te σ H D.rt
theorem ps_ret (he : PE X e te) : PS X (.Return (some e) pos) (tRet te) := by
 intro pins s σ H D I h
 exact wpAny_Return_some (thn (he pins s σ H _ I h) fun v s1 ⟨x, H1, I1, r1, q1⟩ => ⟨x, σ, H1, I1, r1, q1⟩)
def tIfS (c : TT) (t u : TS) : TS := fun D σ H => c σ H fun b H1 => if b = true then t D σ H1 else u D σ H1
theorem ps_if {c : Expr} {a b : List Stmt} {tc : TT} (hc : PT X c tc) (ha : PSs X a t) (hb : PSs X b u) : PS X (.If c a b pos) (tIfS tc t u) := by
 intro pins s σ H D I h
 refine wpAny_If (thn (hc pins s σ H _ I h) fun d s1 hpat => ?_)
 obtain ⟨H1, I1, q1⟩ := hpat
 cases d with
 | true => exact ha pins s1 σ H1 D I1 q1
 | false => exact hb pins s1 σ H1 D I1 q1
def tNever : TS := fun _ _ _ => False
theorem ps_never : PS X st tNever := fun _ _ _ _ _ _ h => h.elim
end
noncomputable abbrev TG := V -> St -> Hp -> (St -> Hp -> Prop) -> Prop
noncomputable abbrev TGs := List V -> St -> Hp -> (St -> Hp -> Prop) -> Prop
def PG (X : Cx) (target : Expr) (t : TG) : Prop :=
 ∀ (pins : List (Addr × Obj)) (s : Shared) (σ : St) (H : Hp) (v : V) (u : Value) (Q : St -> Hp -> Prop), Inv X pins σ H s -> RelV v u -> t v σ H Q ->
  wpAny (model X.prog X.w) X.A (assign target X.env u) (fun _ s' => ∃ σ' H', Inv X pins σ' H' s' /\ Q σ' H') X.xe s
def PGs (X : Cx) (ts : List Expr) (t : TGs) : Prop :=
 ∀ (pins : List (Addr × Obj)) (s : Shared) (σ : St) (H : Hp) (vs : List V) (us : List Value) (Q : St -> Hp -> Prop), Inv X pins σ H s -> Vals vs us -> t vs σ H Q ->
  wpAny (model X.prog X.w) X.A (assignInOrder ((assignEach ts X.env).map (·.2)) us) (fun _ s' => ∃ σ' H', Inv X pins σ' H' s' /\ Q σ' H') X.xe s
noncomputable abbrev TSet := V -> V -> V -> Hp -> (Hp -> Prop) -> Prop
def PSet (X : Cx) (t : TSet) : Prop :=
 ∀ (pins : List (Addr × Obj)) (s : Shared) (σ : St) (H : Hp) (o i v : V) (ov iv u : Value) (Q : Hp -> Prop), Inv X pins σ H s -> RelV o ov -> RelV i iv -> RelV v u -> t o i v H Q ->
  wpAny (model X.prog X.w) X.A (setItem ov iv u) (fun _ s' => ∃ H', Inv X pins σ H' s' /\ Q H') X.xe s
section
variable {X : Cx} {pos : Pos}
def gName (i : Nat) : TG := fun v σ H Q => Q (σ.set i (some v)) H
theorem pg_name {i : Nat} {x : Str} (hN : X.N.Nodup) (hi : X.N[i]? = some x) (hx : Loc X.env.scope x) (hf : X.fn x = true \/ X.env.scope.names.lookup x = some .local := by first | exact .inl rfl | exact .inr rfl | assumption) : PG X (.Name x pos) (gName i) := by
 intro pins s σ H v u Q I r h
 exact wpAny_assign_Name (store_ok I hN hi hx r (fun s' I' => ⟨_, H, I', h⟩) hf)
def gNil : TGs := fun vs σ H Q => vs = [] /\ Q σ H
def gCons (t : TG) (u : TGs) : TGs := fun vs σ H Q => ∃ v r, vs = v :: r /\ t v σ H fun σ' H' => u r σ' H' Q
theorem pgs_nil : PGs X [] gNil := by
 intro pins s σ H vs us Q I r h
 obtain ⟨e, h⟩ := h
 subst e
 cases r
 exact assignInOrder_nil ⟨σ, H, I, h⟩
theorem pgs_cons {e : Expr} {es : List Expr} {t : TG} {u : TGs} (h1 : PG X e t) (h2 : PGs X es u)
  (hs : (assignEach (e :: es) X.env).map (·.2) = assign e X.env :: (assignEach es X.env).map (·.2) := by rfl) : PGs X (e :: es) (gCons t u) := by
 intro pins s σ H vs us Q I r h
 obtain ⟨v, vr, e1, h⟩ := h
 subst e1
 cases r with
 | cons r rr =>
  rw [hs]
  refine assignInOrder_cons (thn (h1 pins s σ H _ _ _ I r h) fun _ s1 hpat => ?_)
  obtain ⟨σ1, H1, I1, q1⟩ := hpat
  exact h2 pins s1 σ1 H1 _ _ Q I1 rr q1
def gTup (K : W.Frag) (n : Nat) (t : TGs) : TG := fun v σ H Q => ∃ a xs, v = .ref a /\ SqT K H a xs /\ xs.length = n /\ t xs σ H Q
theorem pg_tup {es : List Expr} {k : Nat} {t : TGs} {n : Nat} (hc : X.calm = true) (h : PGs X es t)
  (hn : (assignEach es X.env).length = n := by rfl) (hst : (assignEach es X.env).findIdx? (·.1) = none := by rfl) : PG X (.Tuple es k pos) (gTup X.K n t) := by
 intro pins s σ H v u Q I r hw
 obtain ⟨a, xs, e1, hq, hl, hw⟩ := hw
 subst e1
 cases r
 obtain ⟨its, rv, ht, hz⟩ := I.tuple hq
 refine assign_Tuple_tuple (I.ok.hd hc) ht (by simp [hn, <- hl, rv.length]) hst fun h' hx => ?_
 have I1 : Inv X pins σ H { s with heap := h' } := I.kept (t' := s.toks) fun b o e => hx b o (Nat.ne_of_lt (Heap.lt_size e)) e
 exact h pins _ σ H xs _ Q I1 (by simpa using rv) hw
def gSub (to ti : TE) (t : TSet) : TG := fun v σ H Q => to σ H fun o H1 => ti σ H1 fun i H2 => t o i v H2 fun H3 => Q σ H3
theorem pg_sub {o i : Expr} {to ti : TE} {t : TSet} (ho : PE X o to) (hi : PE X i ti) (hs : PSet X t)
  (ha : ∀ v, assign (.Subscript o i pos) X.env v = (do
   let ov ← holding [v] (eval o X.env)
   let iv ← holding [v, ov] (eval i X.env)
   standAt pos
   holding [v, ov, iv] (setItem ov iv v)
   release [v, ov, iv] []) := by intro _; rfl) : PG X (.Subscript o i pos) (gSub to ti t) := by
 intro pins s σ H v u Q I r h
 rw [ha]
 refine wpAny_bind (wpAny_holding (thn (ho pins s σ H _ I h) fun ov s1 hpat => ?_))
 obtain ⟨x, H1, I1, r1, q1⟩ := hpat
 refine wpAny_bind (wpAny_holding (thn (hi pins s1 σ H1 _ I1 q1) fun iv s2 hpat => ?_))
 obtain ⟨y, H2, I2, r2, q2⟩ := hpat
 refine wpAny_bind (wpAny_standAt (wpAny_bind (wpAny_holding (thn (hs pins s2 σ H2 x y v ov iv u _ I2 r1 r2 r q2) fun _ s3 hpat => ?_))))
 obtain ⟨H3, I3, q3⟩ := hpat
 exact wpAny_release ⟨σ, H3, I3, q3⟩
def tAsg (te : TE) (g : TG) : TS := fun D σ H => te σ H fun x H1 => g x σ H1 D.nx
theorem ps_asg {tg e : Expr} {te : TE} {g : TG} (he : PE X e te) (hg : PG X tg g) (hs : swapsWithSole [tg] e pos.line X.env = pure false := by rfl) (hw : swappedStores [tg] e X.env = pure none := by rfl)
  (h1 : (assignEach [tg] X.env).map (·.2) = [assign tg X.env] := by rfl) : PS X (.Assign [tg] e pos) (tAsg te g) := by
 intro pins s σ H D I h
 refine wpAny_Assign_stores (thn (he pins s σ H _ I h) fun v s1 hpat => ?_) hs hw
 obtain ⟨x, H1, I1, r1, q1⟩ := hpat
 rw [h1]
 exact thn (hg pins s1 σ H1 x v _ I1 r1 q1) fun _ s2 q => q
theorem ps_set {i : Nat} {x : Str} {e : Expr} {te : TE} {pos' : Pos} (hN : X.N.Nodup) (hi : X.N[i]? = some x) (hx : Loc X.env.scope x) (he : PE X e te) (hs : swapsWith e (some (.Name x pos')) pos.line X.env = pure false := by rfl) (hf : X.fn x = true \/ X.env.scope.names.lookup x = some .local := by first | exact .inl rfl | exact .inr rfl | assumption) :
  PS X (.Assign [.Name x pos'] e pos) (tAsg te (gName i)) := by
 intro pins s σ H D I h
 refine wpAny_Assign_Name (thn (he pins s σ H _ I h) fun v s1 hpat => ?_) hs
 obtain ⟨y, H1, I1, r1, q1⟩ := hpat
 exact store_ok I1 hN hi hx r1 (fun s2 I2 => ⟨_, H1, I2, q1⟩) hf
end
section
variable {X : Cx} {pos : Pos}
end
structure It where
 go : Nat -> Hp -> Prop
 yld : Nat -> Hp -> V -> Hp -> Prop
 stop : Nat -> Hp -> Prop
def FpOk (X : Cx) (pins : List (Addr × Obj)) (H : Hp) (b : Addr) : Prop :=
 H b = none /\ b ≠ X.env.locals /\ b ∉ X.fs /\ (b ∈ X.ex \/ X.s₀.heap.objs.size <= b) /\ (∀ x c, X.env.cells.lookup x = some c -> c ≠ b) /\ ∀ p ∈ X.pn ++ pins, p.1 ≠ b
theorem Inv.fpOk {X : Cx} {pins : List (Addr × Obj)} {σ : St} {H H' : Hp} {s : Shared} {b : Addr} (I : Inv X pins σ H s) (hb : s.heap.objs.size <= b) (hn : H' b = none) : FpOk X pins H' b := by
 refine ⟨hn, Nat.ne_of_gt (Nat.lt_of_lt_of_le I.lt hb), I.nofs hb, .inr (Nat.le_trans I.sz hb), fun x c e z => ?_, fun p hp z => ?_⟩
 ·obtain ⟨v, q⟩ := I.cell x c e
  exact absurd (Nat.lt_of_lt_of_le q.lt (by rw [z]; exact hb)) (Nat.lt_irrefl _)
 ·exact absurd (Nat.lt_of_lt_of_le (Heap.lt_size (I.pin p hp).1) (by rw [z]; exact hb)) (Nat.lt_irrefl _)
structure TurnC (cx : Cx -> Prop) (P : Program) (w : World) (K : W.Frag) (tg : Expr) (J : It) (fp : List Addr) (it : Addr) (tn : Nat -> Heap -> Prop) : Prop where
 mem : it ∈ fp
 obj : ∀ i h, tn i h -> ∀ b ∈ fp, ∃ o, h.get? b = some o /\ ∀ v, o.data ≠ .cell v
 keep : ∀ i h h', tn i h -> (∀ b ∈ fp, ∀ o, h.get? b = some o -> h'.get? b = some o) -> tn i h'
 item : ∀ (X : Cx), X.prog = P -> X.w = w -> X.K = K -> cx X -> ∀ (i : Nat) (pins : List (Addr × Obj)) (s : Shared) (σ : St) (H : Hp) (E : Value -> Shared -> Prop), Inv X pins σ H s -> (∀ b ∈ fp, FpOk X pins H b) -> tn i s.heap -> J.go i H ->
  wpAny (model P w) X.A (pyNext (.ref it)) (fun r s1 => ∃ u, r = some u /\
   wpAny (model P w) X.A (letOwnedTupleGo tg (.ref it) u) (fun _ s2 => ∃ x H', Inv X pins σ H' s2 /\ RelV x u /\ J.yld i H x H' /\ tn (i + 1) s2.heap /\ ∀ b ∈ fp, H' b = none) E s1) E s
 done : ∀ (X : Cx), X.prog = P -> X.w = w -> X.K = K -> cx X -> ∀ (i : Nat) (pins : List (Addr × Obj)) (s : Shared) (σ : St) (H : Hp) (E : Value -> Shared -> Prop), Inv X pins σ H s -> (∀ b ∈ fp, FpOk X pins H b) -> tn i s.heap -> J.stop i H ->
  wpAny (model P w) X.A (pyNext (.ref it)) (fun r s1 => r = none /\ Inv X pins σ H s1) E s
 self : ∀ (A : Around) (i : Nat) (s : Shared) (Q : Value -> Shared -> Prop) (E : Value -> Shared -> Prop), tn i s.heap -> Q (.ref it) s -> wpAny (model P w) A (pyIter (.ref it)) Q E s
abbrev Turn (P : Program) (w : World) (K : W.Frag) (tg : Expr) (J : It) (fp : List Addr) (it : Addr) (tn : Nat -> Heap -> Prop) : Prop := TurnC (fun X => X.calm = true) P w K tg J fp it tn
noncomputable abbrev TI := St -> Hp -> (It -> Hp -> Prop) -> Prop
def PIE (X : Cx) (pins : List (Addr × Obj)) (σ : St) (tg : Expr) (R : It -> Hp -> Prop) (itv : Value) (s2 : Shared) : Prop :=
 ∃ (it : Addr) (fp : List Addr) (tn : Nat -> Heap -> Prop) (J : It) (H' : Hp), itv = .ref it /\ Inv X pins σ H' s2 /\ Turn X.prog X.w X.K tg J fp it tn /\ tn 0 s2.heap /\ (∀ b ∈ fp, FpOk X pins H' b) /\ R J H'
def PI (X : Cx) (tg iter : Expr) (wi : TI) : Prop :=
 ∀ (pins : List (Addr × Obj)) (s : Shared) (σ : St) (H : Hp) (R : It -> Hp -> Prop), Inv X pins σ H s -> wi σ H R ->
  wpAny (model X.prog X.w) X.A (eval iter X.env) (fun v s1 => wpAny (model X.prog X.w) X.A (pyIter v) (PIE X pins σ tg R) X.xe s1) X.xe s
theorem go_of {M : Model} {A : Around} {E : Value -> Shared -> Prop} {s : Shared} {tg : Expr} {it : Addr} {u : Value} {o : Obj} {n : String} {vs : Array Value} {Q : Unit -> Shared -> Prop} (ho : s.heap.get? it = some o) (hc : o.cls = .type n) (hd : o.data = .fields vs)
  (hn : ["enumerate", "zip", "dict_itemiterator", "dict_reverseitemiterator", "odict_iterator", "itertools.zip_longest", "itertools.pairwise"].contains n = false) (hQ : Q () s) : wpAny M A (letOwnedTupleGo tg (.ref it) u) Q E s := by
 unfold letOwnedTupleGo
 cases tg <;> first
  | exact wpAny_pure hQ
  | (cases u <;> first
    | exact wpAny_pure hQ
    | (refine wpAny_bind (wpAny_load ho ?_)
       rw [hc, hd]
       show wpAny M A (if (["enumerate", "zip", "dict_itemiterator", "dict_reverseitemiterator", "odict_iterator", "itertools.zip_longest", "itertools.pairwise"].contains n && vs[0]? == some (rawInt _)) = true then _ else _) Q E s
       rw [if_neg (by intro h; rw [hn, Bool.false_and] at h; cases h)]
       exact wpAny_pure hQ))
noncomputable def Itl (K : W.Frag) (a : Addr) : It :=
 ⟨fun i H => ∃ xs x, SqL K H a xs /\ xs[i]? = some x, fun i H x H' => H' = H /\ ∀ xs, SqL K H a xs -> xs[i]? = some x, fun i H => ∃ xs, SqL K H a xs /\ xs.length <= i⟩
noncomputable def Itr (lo : Int) (n : Nat) : It := ⟨fun i _ => i < n, fun i H x H' => H' = H /\ x = .int (lo + i), fun i _ => n <= i⟩
theorem turn_list {P : Program} {w : World} {K : W.Frag} {tg : Expr} (a it : Addr) : Turn P w K tg (Itl K a) [it] it (fun i h => h.IsListIter it a i) where
 mem := by simp
 obj := fun i h st b hb => by
  have e : b = it := by simpa using hb
  subst e
  obtain ⟨o, e, c, d⟩ := st
  exact ⟨o, e, fun v z => by rw [d] at z; cases z⟩
 keep := fun i h h' st k => st.at fun o e => k it (by simp) o e
 item := by
  intro X hP hw hK hc i pins s σ H E I hf st hg
  subst hP hw hK
  obtain ⟨xs, x, hq, hx⟩ := hg
  obtain ⟨its, rv, p, hz⟩ := I.list hq
  obtain ⟨u, hu, ru⟩ := rv.get hx
  obtain ⟨f0, f1, f2, f3, f4, f5⟩ := hf it (by simp)
  refine wpAny_pyNext_list_item st p.isList (x := u) (by simpa using hu) fun h' st' sb => ?_
  have I1 : Inv X pins σ H { s with heap := h' } := I.turned (t' := s.toks) (fun b o hb e => (sb.2 b hb).trans e) f0 f1 f3 f4 f5
  obtain ⟨o, e, c, d⟩ := id st'
  exact ⟨u, rfl, go_of (s := { s with heap := h' }) e c d (by decide) ⟨x, H, I1, ru, ⟨rfl, fun ys hy => by rw [I.list_inj hy hq]; exact hx⟩, st', fun b hb => (hf b hb).1⟩⟩
 done := by
  intro X hP hw hK hc i pins s σ H E I hf st hg
  subst hP hw hK
  obtain ⟨xs, hq, hx⟩ := hg
  obtain ⟨its, rv, p, hz⟩ := I.list hq
  obtain ⟨f0, f1, f2, f3, f4, f5⟩ := hf it (by simp)
  have hl := rv.length
  exact wpAny_pyNext_list_end (I.ok.hd hc) st p.isList (by simp; omega) fun h' eb => ⟨rfl, I.turned (t' := s.toks) (fun b o hb e => eb b o hb e) f0 f1 f3 f4 f5⟩
 self := fun _ _ _ _ _ st h => wpAny_pyIter_listiter st h
theorem turn_range {P : Program} {w : World} {K : PySem.W.Frag} {tg : Expr} (it : Addr) (lo : Int) (n : Nat) : Turn P w K tg (Itr lo n) [it] it (fun i h => IsRangeIter h it (lo + (i : Nat) * 1) ((n : Int) - (i : Nat)) 1) where
 mem := by simp
 obj := fun i h st b hb => by
  have e : b = it := by simpa using hb
  subst e
  exact ⟨_, st, fun v z => by
   have z' : Data.fields _ = Data.cell v := z
   cases z'⟩
 keep := fun i h h' st k => k it (by simp) _ st
 item := by
  intro X hP hw hK hc i pins s σ H E I hf st hg
  subst hP hw hK
  obtain ⟨f0, f1, f2, f3, f4, f5⟩ := hf it (by simp)
  have W := Walks.range (prog := X.prog) (w := X.w) (I.ok.hd hc) it lo 1 n
  refine W.item i s _ _ hg st fun v h' tk hv st' kk => ?_
  obtain ⟨t, rfl⟩ := hv
  have I1 : Inv X pins σ H { s with heap := h', toks := tk } := I.turned (fun b o hb e => kk b o (by simpa using hb) e) f0 f1 f3 f4 f5
  refine ⟨_, rfl, go_of (s := { s with heap := h', toks := tk }) (n := "range_iterator") st' rfl rfl (by decide) ⟨.int (lo + i), H, I1, ⟨t, ?_⟩, ⟨rfl, rfl⟩, st', fun b hb => (hf b hb).1⟩⟩
  rw [Int.mul_one]
 done := by
  intro X hP hw hK hc i pins s σ H E I hf st hg
  subst hP hw hK
  obtain ⟨f0, f1, f2, f3, f4, f5⟩ := hf it (by simp)
  exact wpAny_pyNext_range_end (I.ok.hd hc) st (by have : n <= i := hg; omega) fun h' eb => ⟨rfl, I.turned (t' := s.toks) (fun b o hb e => eb b o hb e) f0 f1 f3 f4 f5⟩
 self := fun _ _ _ _ _ st h => wpAny_pyIter_rangeiter st h
end
section
section
variable {X : Cx} {tg : Expr}
def iList (K : W.Frag) (tl : TE) : TI := fun σ H R => tl σ H fun x H1 => ∃ a, x = .ref a /\ (∃ xs, SqL K H1 a xs) /\ R (Itl K a) H1
theorem pi_list {l : Expr} {tl : TE} (hl : PE X l tl) : PI X tg l (iList X.K tl) := by
 intro pins s σ H R I h
 refine thn (hl pins s σ H _ I h) fun v s1 hpat => ?_
 obtain ⟨x, H1, I1, r1, q1⟩ := hpat
 obtain ⟨a, e, ⟨xs, hq⟩, q⟩ := q1
 subst e
 cases r1
 obtain ⟨its, rv, p, hz⟩ := I1.list hq
 refine wpAny_pyIter_list p.isList ?_
 refine ⟨s1.heap.objs.size, [s1.heap.objs.size], _, _, H1, rfl, I1.kept (t' := s1.toks) fun b o e => Heap.get?_push_of_some _ e, turn_list a _, ⟨_, Heap.get?_push_size _ rfl, rfl, rfl⟩, fun b hb => ?_, q⟩
 have e : b = s1.heap.objs.size := by simpa using hb
 subst e
 exact I1.fpOk (Nat.le_refl _) (I1.hok.fresh (Nat.le_refl _))
theorem range_it {pins : List (Addr × Obj)} {σ : St} {H : Hp} {s : Shared} {R : It -> Hp -> Prop} {E : Value -> Shared -> Prop} {lo hi : Int} {t u v : Tok} {tk : Nat} (I : Inv X pins σ H s) (h1 : -(2 ^ 62) <= lo) (h2 : lo < 2 ^ 62) (h3 : -(2 ^ 62) <= hi) (h4 : hi < 2 ^ 62)
  (q : R (Itr lo (hi - lo).toNat) H) : wpAny (model X.prog X.w) X.A (pyIter (.ref s.heap.objs.size)) (PIE X pins σ tg R) E { s with heap := s.heap.push { cls := .type "range", data := .fields #[.int lo t, .int hi u, .int 1 v] }, toks := tk } := by
 refine wpAny_pyIter_range (IsRange.new ..) (small_one h1 h2 h3 h4) ?_
 have I1 : Inv X pins σ H { s with heap := s.heap.push { cls := .type "range", data := .fields #[.int lo t, .int hi u, .int 1 v] }, toks := tk } := I.kept fun b o e => Heap.get?_push_of_some _ e
 refine ⟨(s.heap.push { cls := .type "range", data := .fields #[.int lo t, .int hi u, .int 1 v] }).objs.size, [(s.heap.push { cls := .type "range", data := .fields #[.int lo t, .int hi u, .int 1 v] }).objs.size], _, _, H, rfl,
  I1.kept (t' := tk) fun b o e => Heap.get?_push_of_some _ e, turn_range _ lo (hi - lo).toNat, ?_, fun b hb => ?_, q⟩
 ·have e1 : lo + ((0 : Nat) : Int) * 1 = lo := by simp
  have e2 : (((hi - lo).toNat : Nat) : Int) - ((0 : Nat) : Int) = Builtin.Range.rangeSize lo hi 1 := by rw [rangeSize_one]; split <;> omega
  show IsRangeIter _ _ (lo + ((0 : Nat) : Int) * 1) ((((hi - lo).toNat : Nat) : Int) - ((0 : Nat) : Int)) 1
  rw [e1, e2]
  exact Heap.get?_push_size _ rfl
 ·have e : b = (s.heap.push { cls := .type "range", data := .fields #[.int lo t, .int hi u, .int 1 v] }).objs.size := by simpa using hb
  subst e
  exact I1.fpOk (Nat.le_refl _) (I1.hok.fresh (Nat.le_refl _))
def iRng1 (ta : TA) : TI := fun σ H R => ta σ H fun vs H1 => ∃ j : Int, vs = [.int j] /\ -(2 ^ 62) <= j /\ j < 2 ^ 62 /\ R (Itr 0 j.toNat) H1
theorem pi_range1 {a : Expr} {ta : TA} {p pos : Pos} (hg : Gl X "range") (hm : X.mg "range" = none) (ha : PA X [a] ta) (hs : starEach [a] X.env = [(false, eval a X.env)] := by rfl) : PI X tg (.Call (.Name "range" p) [a] [] pos) (iRng1 ta) := by
 intro pins s σ H R I h
 refine Call_ (ld_blt I hg hm boot_range (PyProof.Rows.callWith_type1 (thn (ha pos pins s σ H _ I h) fun us s1 hpat => ?_) hs rfl))
 obtain ⟨vs, H1, I1, r1, q1⟩ := hpat
 obtain ⟨j, e, q1, q2, q⟩ := q1
 subst e
 cases r1 with
 | cons r rr =>
  cases rr
  obtain ⟨t, rfl⟩ := r
  exact call_range_1 (range_it I1 (by omega) (by omega) q1 q2 (by simpa using q))
def tFor (wi : TI) (g : TG) (tb : TS) : TS := fun D σ H => wi σ H fun J H1 => ∃ W : Nat -> Nat -> St -> Hp -> Prop, (∃ m, W 0 m σ H1) /\ ∀ i m σ H, W i m σ H ->
 (J.stop i H /\ D.nx σ H) \/ (J.go i H /\ ∃ N : St -> Hp -> Prop, (∀ σ' H', N σ' H' -> ∃ m', m' < m /\ W (i + 1) m' σ' H') /\ ∀ x H', J.yld i H x H' -> g x σ H' fun σ2 H2 => tb { D with nx := N, ct := N, bk := D.nx } σ2 H2)
noncomputable def pinsAt (fp : List Addr) (h : Heap) : List (Addr × Obj) := fp.filterMap fun b => (h.get? b).map fun o => (b, o)
theorem mem_pinsAt {fp : List Addr} {h : Heap} {b : Addr} {o : Obj} (hb : b ∈ fp) (e : h.get? b = some o) : (b, o) ∈ pinsAt fp h := List.mem_filterMap.mpr ⟨b, hb, by rw [e]; rfl⟩
theorem of_pinsAt {fp : List Addr} {h : Heap} {p : Addr × Obj} (hp : p ∈ pinsAt fp h) : p.1 ∈ fp /\ h.get? p.1 = some p.2 := by
 obtain ⟨b, hb, e⟩ := List.mem_filterMap.mp hp
 cases q : h.get? b with
 | none => rw [q] at e; cases e
 | some o =>
  rw [q] at e
  have e' : (b, o) = p := Option.some.inj e
  subst e'
  exact ⟨hb, q⟩
theorem Inv.pinned {pins : List (Addr × Obj)} {σ : St} {H : Hp} {s : Shared} {fp : List Addr} (I : Inv X pins σ H s) (hf : ∀ b ∈ fp, FpOk X pins H b) (ho : ∀ b ∈ fp, ∃ o, s.heap.get? b = some o /\ ∀ v, o.data ≠ .cell v) : Inv X (pins ++ pinsAt fp s.heap) σ H s :=
 I.pins_of fun p hp => (List.mem_append.mp hp).elim (fun z => I.pin p (mem_append_right _ z)) fun z => by
  obtain ⟨hb, e⟩ := of_pinsAt z
  obtain ⟨f0, f1, f2, _⟩ := hf p.1 hb
  obtain ⟨o, e', d⟩ := ho p.1 hb
  rw [e] at e'; cases e'
  exact ⟨e, f0, f1, f2, d⟩
theorem Inv.unpinned {pins pl : List (Addr × Obj)} {σ : St} {H : Hp} {s : Shared} (I : Inv X (pins ++ pl) σ H s) : Inv X pins σ H s := I.pins_of fun p hp => I.pin p (mem_append_right _ (mem_append_left _ hp))
theorem ps_for {iter : Expr} {body : List Stmt} {wi : TI} {g : TG} {tb : TS} {pos : Pos} (hp : PassesOwn (model X.prog X.w) X.A X.env X.xe) (hc : X.calm = true) (hi : PI X tg iter wi) (hg : PG X tg g) (hb : PSs X body tb)
  (hs : ∀ x, foldedSetIterable iter X.env x = pure x := by intro _; rfl) : PS X (.For tg iter body [] pos) (tFor wi g tb) := by
 intro pins s σ H D I h
 refine wpAny_For (thn (hi pins s σ H _ I h) fun v s1 h1 => thn h1 fun itv s2 h2 => ?_) hs
 obtain ⟨it, fp, tn, J, H2, e, I2, T, st2, f2, W, ⟨m0, w0⟩, turn⟩ := h2
 subst e
 have stat : ∀ {H' : Hp}, (∀ b ∈ fp, H' b = none) -> ∀ b ∈ fp, FpOk X pins H' b := fun hn b hb => ⟨hn b hb, (f2 b hb).2⟩
 refine codeAny_forLoop_any (fun n s' => ∃ i σ' H', Inv X pins σ' H' s' /\ tn i s'.heap /\ (∀ b ∈ fp, H' b = none) /\ W i n σ' H') ?_ m0 ⟨0, σ, H2, I2, st2, fun b hb => (f2 b hb).1, w0⟩
 rintro n s3 ⟨i, σ3, H3, I3, st3, fr3, w3⟩
 rcases turn i n σ3 H3 w3 with ⟨stop, qn⟩ | ⟨go, N, hN, step⟩
 ·refine wpAny_passesOwn hp (thn (T.done X rfl rfl rfl hc i pins s3 σ3 H3 X.xe I3 (stat fr3) st3 stop) fun r s4 ⟨hr, I4⟩ => ?_)
  subst hr
  exact wpAny_execs_nil ⟨σ3, H3, I4, qn⟩
 ·refine wpAny_passesOwn hp (thn (T.item X rfl rfl rfl hc i pins s3 σ3 H3 X.xe I3 (stat fr3) st3 go) fun r s4 ⟨u, hr, h4⟩ => ?_)
  subst hr
  refine wpAny_passesOwn hp (thn h4 fun _ s5 hpat => ?_)
  obtain ⟨x, H5, I5, r5, y5, st5, fr5⟩ := hpat
  have I5' := I5.pinned (stat fr5) (T.obj _ _ st5)
  refine wpAny_passesOwn hp (thn (hg _ s5 σ3 H5 x u _ I5' r5 (step x H5 y5)) fun _ s6 hpat => ?_)
  obtain ⟨σ6, H6, I6, q6⟩ := hpat
  refine wpAny_passesOwn hp (thn (hb _ s6 σ6 H6 _ I6 q6) fun f s7 q7 => ?_)
  have again : ∀ {σ7 : St} {H7 : Hp}, Inv X (pins ++ pinsAt fp s5.heap) σ7 H7 s7 -> N σ7 H7 -> ∃ m, m < n /\ ∃ i σ' H', Inv X pins σ' H' s7 /\ tn i s7.heap /\ (∀ b ∈ fp, H' b = none) /\ W i m σ' H' := fun {σ7 H7} I7 n7 => by
   obtain ⟨m', hm, w7⟩ := hN σ7 H7 n7
   refine ⟨m', hm, i + 1, σ7, H7, I7.unpinned, T.keep _ _ _ st5 fun b hb o e => (I7.pin (b, o) (mem_append_right _ (mem_append_right _ (mem_pinsAt hb e)))).1, fun b hb => ?_, w7⟩
   obtain ⟨o, e, d⟩ := T.obj _ _ st5 b hb
   exact (I7.pin (b, o) (mem_append_right _ (mem_append_right _ (mem_pinsAt hb e)))).2.1
  cases f with
  | next => obtain ⟨σ7, H7, I7, n7⟩ := q7; exact again I7 n7
  | cont => obtain ⟨σ7, H7, I7, n7⟩ := q7; exact again I7 n7
  | brk => obtain ⟨σ7, H7, I7, q7⟩ := q7; exact ⟨σ7, H7, I7.unpinned, q7⟩
  | ret v => obtain ⟨x7, σ7, H7, I7, r7, q7⟩ := q7; exact ⟨x7, σ7, H7, I7.unpinned, r7, q7⟩
end
end
section
noncomputable abbrev R2 := V -> V -> Hp -> VK -> Prop
def OpR (X : Cx) (f : Value -> Value -> Sem Value) (r : R2) : Prop :=
 ∀ (pins : List (Addr × Obj)) (s : Shared) (σ : St) (H : Hp) (x y : V) (v u : Value) (Q : VK), Inv X pins σ H s -> RelV x v -> RelV y u -> r x y H Q ->
  wpAny (model X.prog X.w) X.A (f v u) (EP X pins σ Q) X.xe s
def UnR (X : Cx) (f : Value -> Sem Value) (r : V -> Hp -> VK -> Prop) : Prop :=
 ∀ (pins : List (Addr × Obj)) (s : Shared) (σ : St) (H : Hp) (x : V) (v : Value) (Q : VK), Inv X pins σ H s -> RelV x v -> r x H Q ->
  wpAny (model X.prog X.w) X.A (f v) (EP X pins σ Q) X.xe s
def CallR (X : Cx) (f : Value) (r : List V -> Hp -> VK -> Prop) : Prop :=
 ∀ (pins : List (Addr × Obj)) (s : Shared) (σ : St) (H : Hp) (xs : List V) (us : List Value) (Q : VK), Inv X pins σ H s -> Vals xs us -> r xs H Q ->
  wpAny (model X.prog X.w) X.A (call f us) (EP X pins σ Q) X.xe s
def TruR (X : Cx) (r : V -> Hp -> (Bool -> Hp -> Prop) -> Prop) : Prop :=
 ∀ (pins : List (Addr × Obj)) (s : Shared) (σ : St) (H : Hp) (x : V) (v : Value) (Q : Bool -> Hp -> Prop), Inv X pins σ H s -> RelV x v -> r x H Q ->
  wpAny (model X.prog X.w) X.A (truthy v) (TP X pins σ Q) X.xe s
def tOp (r : R2) (ta tb : TE) : TE := fun σ H Q => ta σ H fun x H1 => tb σ H1 fun y H2 => r x y H2 Q
def tUn (r : V -> Hp -> VK -> Prop) (ta : TE) : TE := fun σ H Q => ta σ H fun x H1 => r x H1 Q
def rI (C : Int -> Int -> Prop) (g : Int -> Int -> V) : R2 := fun x y H Q => ∃ i j, x = .int i /\ y = .int j /\ C i j /\ Q (g i j) H
def rI0 (g : Int -> Int -> V) : R2 := fun x y H Q => ∃ i j, x = .int i /\ y = .int j /\ Q (g i j) H
def rU (g : Int -> V) : V -> Hp -> VK -> Prop := fun x H Q => ∃ i, x = .int i /\ Q (g i) H
section
variable {X : Cx} {a b c : Expr} {ta tb tc : TE} {pos : Pos}
theorem binT (ha : PE X a ta) (hb : PE X b tb) {pins : List (Addr × Obj)} {s : Shared} {σ : St} {H : Hp} {R : V -> V -> Hp -> Prop} (I : Inv X pins σ H s)
  (h : ta σ H fun x H1 => tb σ H1 fun y H2 => R x y H2) {Q : Value -> Shared -> Prop} {f : Value -> Value -> Sem Value}
  (hf : ∀ v u s2 x y H2, Inv X pins σ H2 s2 -> RelV x v -> RelV y u -> R x y H2 -> wpAny (model X.prog X.w) X.A (f v u) Q X.xe s2) :
  wpAny (model X.prog X.w) X.A (eval a X.env) (fun v s₁ => wpAny (model X.prog X.w) X.A (eval b X.env) (fun u s₂ => wpAny (model X.prog X.w) X.A (f v u) Q X.xe s₂) X.xe s₁) X.xe s := by
 refine thn (ha pins s σ H _ I h) fun v s1 hpat => ?_
 obtain ⟨x, H1, I1, r1, q1⟩ := hpat
 refine thn (hb pins s1 σ H1 _ I1 q1) fun u s2 hpat => ?_
 obtain ⟨y, H2, I2, r2, q2⟩ := hpat
 exact hf v u s2 x y H2 I2 r1 r2 q2
theorem pe_op {op : Operator} {r : R2} (ho : OpR X (binaryOp op) r) (ha : PE X a ta) (hb : PE X b tb) : PE X (.BinOp a op b pos) (tOp r ta tb) := by
 intro pins s σ H Q I h
 exact wpAny_BinOp (binT ha hb I h fun v u s2 x y H2 I2 rx ry q => ho pins s2 σ H2 x y v u Q I2 rx ry q)
theorem pe_un {op : UnaryOp} {r : V -> Hp -> VK -> Prop} (ho : UnR X (unaryOp op) r) (ha : PE X a ta) : PE X (.UnaryOp op a pos) (tUn r ta) := by
 intro pins s σ H Q I h
 exact UnaryOp_ (thn (ha pins s σ H _ I h) fun v s1 ⟨x, H1, I1, r1, q1⟩ => ho pins s1 σ H1 x v Q I1 r1 q1)
theorem opI {f : Value -> Value -> Sem Value} {C : Int -> Int -> Prop} {g : Int -> Int -> Int}
  (rule : ∀ (i j : Int) (t u : Tok) (s : Shared) (Q : Value -> Shared -> Prop) (E : Value -> Shared -> Prop), C i j -> Q (.int (g i j) s.toks) { s with toks := s.toks + 1 } -> wpAny (model X.prog X.w) X.A (f (.int i t) (.int j u)) Q E s) :
  OpR X f (rI C fun i j => .int (g i j)) := by
 intro pins s σ H x y v u Q I rx ry h
 obtain ⟨i, j, rfl, rfl, hc, q⟩ := h
 obtain ⟨t, rfl⟩ := rx
 obtain ⟨t', rfl⟩ := ry
 exact rule i j t t' s _ _ hc ⟨.int (g i j), H, I.tok _, ⟨_, rfl⟩, q⟩
theorem opI0 {f : Value -> Value -> Sem Value} {g : Int -> Int -> Int}
  (rule : ∀ (i j : Int) (t u : Tok) (s : Shared) (Q : Value -> Shared -> Prop) (E : Value -> Shared -> Prop), Q (.int (g i j) s.toks) { s with toks := s.toks + 1 } -> wpAny (model X.prog X.w) X.A (f (.int i t) (.int j u)) Q E s) :
  OpR X f (rI0 fun i j => .int (g i j)) := by
 intro pins s σ H x y v u Q I rx ry h
 obtain ⟨i, j, rfl, rfl, q⟩ := h
 obtain ⟨t, rfl⟩ := rx
 obtain ⟨t', rfl⟩ := ry
 exact rule i j t t' s _ _ ⟨.int (g i j), H, I.tok _, ⟨_, rfl⟩, q⟩
theorem opB0 {f : Value -> Value -> Sem Value} {g : Int -> Int -> Bool}
  (rule : ∀ (i j : Int) (t u : Tok) (s : Shared) (Q : Value -> Shared -> Prop) (E : Value -> Shared -> Prop), Q (.bool (g i j)) s -> wpAny (model X.prog X.w) X.A (f (.int i t) (.int j u)) Q E s) :
  OpR X f (rI0 fun i j => .bl (g i j)) := by
 intro pins s σ H x y v u Q I rx ry h
 obtain ⟨i, j, rfl, rfl, q⟩ := h
 obtain ⟨t, rfl⟩ := rx
 obtain ⟨t', rfl⟩ := ry
 exact rule i j t t' s _ _ ⟨.bl (g i j), H, I, rfl, q⟩
def CDiv (i j : Int) : Prop := 0 < j /\ j < 1073741824
def CPow (i j : Int) : Prop := 0 <= j /\ j <= 1000000 /\ i.natAbs < 2 ^ 64
def CMul (i j : Int) : Prop := (-(2 ^ 64) < i /\ i < 2 ^ 64) \/ (-(2 ^ 64) < j /\ j < 2 ^ 64)
theorem CMul.ok {i j : Int} (h : CMul i j) : IntMulOk i j := by
 rcases h with ⟨h1, h2⟩ | ⟨h1, h2⟩
 ·exact .of_left (intBits_le_64 h1 h2)
 ·exact .of_right (intBits_le_64 h1 h2)
theorem two_pow_nn (k : Nat) : (0 : Int) <= 2 ^ k := by
 rw [two_pow_cast]
 exact Int.natCast_nonneg _
theorem op_add : OpR X (binaryOp .Add) (rI0 fun i j => .int (i + j)) := opI0 fun _ _ _ _ _ _ _ q => add_int q
theorem op_sub : OpR X (binaryOp .Sub) (rI0 fun i j => .int (i - j)) := opI0 fun _ _ _ _ _ _ _ q => sub_int q
theorem op_mul : OpR X (binaryOp .Mult) (rI CMul fun i j => .int (i * j)) := opI fun _ _ _ _ _ _ _ hc q => mul_int q hc.ok
theorem op_fdiv : OpR X (binaryOp .FloorDiv) (rI CDiv fun i j => .int (i / j)) := opI fun i j _ _ _ _ _ hc q => by
 have h1 : (0 : Int) < j := hc.1
 have h2 : j < 1073741824 := hc.2
 exact floordiv_int (by omega) (by rw [Int.fdiv_eq_ediv_of_nonneg i (by omega)]; exact q) (.inl (PyProof.noPylong_small (by omega)))
theorem op_mod : OpR X (binaryOp .Mod) (rI (fun _ j => 0 < j) fun i j => .int (i % j)) := opI fun i j _ _ _ _ _ hc q => by
 have h1 : (0 : Int) < j := hc
 exact mod_int' (by omega) (by rw [Int.fmod_eq_emod_of_nonneg i (by omega)]; exact q)
theorem op_pow : OpR X (binaryOp .Pow) (rI CPow fun i j => .int (i ^ j.toNat)) := opI fun _ _ _ _ _ _ _ hc q => pow_int_small hc.1 hc.2.1 hc.2.2 q
theorem op_shr : OpR X (binaryOp .RShift) (rI (fun _ j => 0 <= j) fun i j => .int (i / 2 ^ j.toNat)) := opI fun i j _ _ _ _ _ hc q =>
 rshift_int hc (by rw [Int.fdiv_eq_ediv_of_nonneg i (two_pow_nn _)]; exact q)
theorem unI {f : Value -> Sem Value} {g : Int -> Int}
  (rule : ∀ (i : Int) (t : Tok) (s : Shared) (Q : Value -> Shared -> Prop) (E : Value -> Shared -> Prop), Q (.int (g i) s.toks) { s with toks := s.toks + 1 } -> wpAny (model X.prog X.w) X.A (f (.int i t)) Q E s) :
  UnR X f (rU fun i => .int (g i)) := by
 intro pins s σ H x v Q I rx h
 obtain ⟨i, rfl, q⟩ := h
 obtain ⟨t, rfl⟩ := rx
 exact rule i t s _ _ ⟨.int (g i), H, I.tok _, ⟨_, rfl⟩, q⟩
theorem un_neg : UnR X (unaryOp .USub) (rU fun i => .int (-i)) := unI fun _ _ _ _ _ q => neg_int q
end
noncomputable def scal : V -> V -> Bool
 | .non, .non => true | .non, .int _ => true | .int _, .non => true | .non, .bl _ => true | .bl _, .non => true | .non, .str _ => true | .str _, .non => true
 | .int _, .int _ => true | .bl _, .bl _ => true | .str _, .str _ => true | .byt _, .byt _ => true
 | .int _, .str _ => true | .str _, .int _ => true | .bl _, .str _ => true | .str _, .bl _ => true
 | _, _ => false
def rEq : R2 := fun x y H Q => scal x y = true /\ Q (.bl (decide (x = y))) H
def rNe : R2 := fun x y H Q => scal x y = true /\ Q (.bl (!decide (x = y))) H
theorem dec_int {i j : Int} : decide (V.int i = V.int j) = (i == j) := by
 rw [Bool.eq_iff_iff]
 simp
theorem dec_bl {i j : Bool} : decide (V.bl i = V.bl j) = (i == j) := by
 rw [Bool.eq_iff_iff]
 simp
theorem dec_str {i j : Str} : decide (V.str i = V.str j) = (i == j) := by
 rw [Bool.eq_iff_iff]
 simp
theorem dec_byt {i j : Array UInt8} : decide (V.byt i = V.byt j) = (i.toList == j.toList) := by
 rw [Bool.eq_iff_iff]
 cases i
 cases j
 simp
section
variable {X : Cx} {a b c : Expr} {ta tb tc : TE} {pos : Pos}
theorem fin_bl {pins : List (Addr × Obj)} {σ : St} {H : Hp} {s : Shared} {Q : VK} {k k' : Bool} (I : Inv X pins σ H s) (q : Q (.bl k) H) (e : k = k') : EP X pins σ Q (.bool k') s := by
 subst e
 exact ⟨.bl k, H, I, rfl, q⟩
theorem op_eq : OpR X (compareOp .Eq) rEq := by
 intro pins s σ H x y v u Q I rx ry h
 obtain ⟨hs, q⟩ := h
 cases x with
 | non =>
  cases rx
  cases y with
  | non => cases ry; exact PySem.EqNone.eq_none_none (fin_bl I q (by simp))
  | bl j => cases ry; exact PySem.EqNone.eq_none_bool (fin_bl I q (by simp))
  | int j => obtain ⟨t', rfl⟩ := ry; exact PySem.EqNone.eq_none_int (fin_bl I q (by simp))
  | str j => obtain ⟨t', rfl⟩ := ry; exact PySem.EqNone.eq_none_str (fin_bl I q (by simp))
  | _ => exact absurd (show false = true from hs) Bool.false_ne_true
 | bl i =>
  cases rx
  cases y with
  | non => cases ry; exact PySem.EqNone.eq_bool_none (fin_bl I q (by simp))
  | bl j => cases ry; exact eq_bool (fin_bl I q dec_bl)
  | str j => obtain ⟨t', rfl⟩ := ry; exact PySem.EqMixed.eq_bool_str (fin_bl I q (by simp))
  | _ => exact absurd (show false = true from hs) Bool.false_ne_true
 | int i =>
  obtain ⟨t, rfl⟩ := rx
  cases y with
  | non => cases ry; exact PySem.EqNone.eq_int_none (fin_bl I q (by simp))
  | int j => obtain ⟨t', rfl⟩ := ry; exact eq_int (fin_bl I q dec_int)
  | str j => obtain ⟨t', rfl⟩ := ry; exact PySem.EqMixed.eq_int_str (fin_bl I q (by simp))
  | _ => exact absurd (show false = true from hs) Bool.false_ne_true
 | str i =>
  obtain ⟨t, rfl⟩ := rx
  cases y with
  | non => cases ry; exact PySem.EqNone.eq_str_none (fin_bl I q (by simp))
  | bl j => cases ry; exact PySem.EqMixed.eq_str_bool (fin_bl I q (by simp))
  | int j => obtain ⟨t', rfl⟩ := ry; exact PySem.EqMixed.eq_str_int (fin_bl I q (by simp))
  | str j => obtain ⟨t', rfl⟩ := ry; exact eq_str (fin_bl I q dec_str)
  | _ => exact absurd (show false = true from hs) Bool.false_ne_true
 | byt i =>
  obtain ⟨t, rfl⟩ := rx
  cases y with
  | byt j => obtain ⟨t', rfl⟩ := ry; exact W.eq_bytes (fin_bl I q dec_byt)
  | _ => exact absurd (show false = true from hs) Bool.false_ne_true
 | _ => cases y <;> exact absurd (show false = true from hs) Bool.false_ne_true
theorem op_ne : OpR X (compareOp .NotEq) rNe := by
 intro pins s σ H x y v u Q I rx ry h
 obtain ⟨hs, q⟩ := h
 cases x with
 | non =>
  cases rx
  cases y with
  | non => cases ry; exact PySem.EqNone.ne_none_none (fin_bl I q (by simp))
  | bl j => cases ry; exact PySem.EqNone.ne_none_bool (fin_bl I q (by simp))
  | int j => obtain ⟨t', rfl⟩ := ry; exact PySem.EqNone.ne_none_int (fin_bl I q (by simp))
  | str j => obtain ⟨t', rfl⟩ := ry; exact PySem.EqNone.ne_none_str (fin_bl I q (by simp))
  | _ => exact absurd (show false = true from hs) Bool.false_ne_true
 | bl i =>
  cases rx
  cases y with
  | non => cases ry; exact PySem.EqNone.ne_bool_none (fin_bl I q (by simp))
  | bl j => cases ry; exact ne_bool (fin_bl I q (congrArg not dec_bl))
  | str j => obtain ⟨t', rfl⟩ := ry; exact PySem.EqMixed.ne_bool_str (fin_bl I q (by simp))
  | _ => exact absurd (show false = true from hs) Bool.false_ne_true
 | int i =>
  obtain ⟨t, rfl⟩ := rx
  cases y with
  | non => cases ry; exact PySem.EqNone.ne_int_none (fin_bl I q (by simp))
  | int j => obtain ⟨t', rfl⟩ := ry; exact ne_int (fin_bl I q (congrArg not dec_int))
  | str j => obtain ⟨t', rfl⟩ := ry; exact PySem.EqMixed.ne_int_str (fin_bl I q (by simp))
  | _ => exact absurd (show false = true from hs) Bool.false_ne_true
 | str i =>
  obtain ⟨t, rfl⟩ := rx
  cases y with
  | non => cases ry; exact PySem.EqNone.ne_str_none (fin_bl I q (by simp))
  | bl j => cases ry; exact PySem.EqMixed.ne_str_bool (fin_bl I q (by simp))
  | int j => obtain ⟨t', rfl⟩ := ry; exact PySem.EqMixed.ne_str_int (fin_bl I q (by simp))
  | str j => obtain ⟨t', rfl⟩ := ry; exact ne_str (fin_bl I q (congrArg not dec_str))
  | _ => exact absurd (show false = true from hs) Bool.false_ne_true
 | byt i =>
  obtain ⟨t, rfl⟩ := rx
  cases y with
  | byt j => obtain ⟨t', rfl⟩ := ry; exact W.ne_bytes (fin_bl I q (congrArg not dec_byt))
  | _ => exact absurd (show false = true from hs) Bool.false_ne_true
 | _ => cases y <;> exact absurd (show false = true from hs) Bool.false_ne_true
theorem op_lt : OpR X (compareOp .Lt) (rI0 fun i j => .bl (decide (i < j))) := opB0 fun _ _ _ _ _ _ _ q => lt_int q
theorem op_le : OpR X (compareOp .LtE) (rI0 fun i j => .bl (decide (i <= j))) := opB0 fun _ _ _ _ _ _ _ q => le_int q
theorem op_gt : OpR X (compareOp .Gt) (rI0 fun i j => .bl (decide (j < i))) := opB0 fun _ _ _ _ _ _ _ q => gt_int q
theorem op_ge : OpR X (compareOp .GtE) (rI0 fun i j => .bl (decide (j <= i))) := opB0 fun _ _ _ _ _ _ _ q => ge_int q
theorem OpR.or {f : Value -> Value -> Sem Value} {r r' : R2} (h : OpR X f r) (h' : OpR X f r') : OpR X f (fun x y H Q => r x y H Q \/ r' x y H Q) := by
 intro pins s σ H x y v u Q I rx ry q
 rcases q with q | q
 ·exact h pins s σ H x y v u Q I rx ry q
 ·exact h' pins s σ H x y v u Q I rx ry q
theorem nomark (b : Expr) {op : CmpOp} (h : op ≠ .In := by decide) (h2 : op ≠ .NotIn := by decide) : behindInMarks op b = false := by
 have e1 : (op == CmpOp.In) = false := by cases op <;> first | rfl | exact absurd rfl h
 have e2 : (op == CmpOp.NotIn) = false := by cases op <;> first | rfl | exact absurd rfl h2
 cases b <;> simp [behindInMarks, e1, e2]
theorem pe_cmpR {op : CmpOp} {r : R2} (ho : OpR X (compareOp op) r) (ha : PE X a ta) (hb : PE X b tb) (hm : behindInMarks op b = false) : PE X (.Compare a [op] [b] pos) (tOp r ta tb) := by
 intro pins s σ H Q I h
 exact wpAny_Compare1 (binT ha hb I h fun v u s2 x y H2 I2 rx ry q => ho pins s2 σ H2 x y v u Q I2 rx ry q) hm
def tTest (t : TE) : TT := fun σ H Q => t σ H fun x H' => ∃ k, x = .bl k /\ Q k H'
theorem pt_cmpR {op : CmpOp} {r : R2} (ho : OpR X (compareOp op) r) (ha : PE X a ta) (hb : PE X b tb) (hm : behindInMarks op b = false) : PT X (.Compare a [op] [b] pos) (tTest (tOp r ta tb)) := by
 intro pins s σ H Q I h
 refine wpAny_isTrue_Compare1 (thn (ha pins s σ H _ I h) fun v s1 ⟨x, H1, I1, r1, q1⟩ => thn (hb pins s1 σ H1 _ I1 q1) fun u s2 ⟨y, H2, I2, r2, q2⟩ =>
  thn (ho pins s2 σ H2 x y v u _ I2 r1 r2 q2) fun c s3 ⟨z, H3, I3, r3, k, e, q3⟩ => ?_) hm
 subst e
 cases r3
 exact wpAny_truthy_bool ⟨H3, I3, q3⟩
def tChain (r r' : R2) (ta tb tc : TE) : TE := fun σ H Q => ta σ H fun x H1 => tb σ H1 fun y H2 => r x y H2 fun z H3 => ∃ k, z = .bl k /\
 (if k = true then tc σ H3 fun w' H4 => r' y w' H4 Q else Q (.bl false) H3)
theorem pt_chain {op op' : CmpOp} {r r' : R2} (ho : OpR X (compareOp op) r) (ho' : OpR X (compareOp op') r') (ha : PE X a ta) (hb : PE X b tb) (hc : PE X c tc)
  (hm : lastMarks [op, op'] [b, c] = false := by with_unfolding_all rfl) : PT X (.Compare a [op, op'] [b, c] pos) (tTest (tChain r r' ta tb tc)) := by
 intro pins s σ H Q I h
 refine isTrue_chain (thn (ha pins s σ H _ I h) fun v s1 ⟨x, H1, I1, r1, q1⟩ => test_link (thn (hb pins s1 σ H1 _ I1 q1) fun u s2 ⟨y, H2, I2, r2, q2⟩ =>
  thn (ho pins s2 σ H2 x y v u _ I2 r1 r2 q2) fun d s3 ⟨z, H3, I3, r3, k, e, q3⟩ => ?_)) hm
 subst e
 cases r3
 refine wpAny_truthy_bool ?_
 cases k with
 | false =>
  obtain ⟨k', e', q'⟩ := q3
  cases e'
  exact ite_ff ⟨H3, I3, q'⟩
 | true =>
  refine ite_tt (test_last (thn (hc pins s3 σ H3 _ I3 q3) fun w' s4 ⟨z', H4, I4, r4, q4⟩ => thn (ho' pins s4 σ H4 y z' u w' _ I4 r2 r4 q4) fun d' s5 hpat => ?_))
  obtain ⟨z2, H5, I5, r5, k2, e2, q5⟩ := hpat
  subst e2
  cases r5
  exact wpAny_truthy_bool ⟨H5, I5, q5⟩
def TruV (K : W.Frag) (x : V) (H : Hp) (k : Bool) : Prop :=
 match x with
 | .non => k = false
 | .bl b => k = b
 | .int i => k = (i != 0)
 | .str y => y.length <= sizeLine /\ k = ((y.length : Int) != 0)
 | .byt y => y.size <= sizeLine /\ k = ((y.size : Int) != 0)
 | .ref p => (∃ xs, SqL K H p xs /\ k = !xs.isEmpty) \/ (∃ xs, SqT K H p xs /\ k = !xs.isEmpty) \/ ∃ kvs, H p = some (.dK kvs) /\ k = !kvs.isEmpty
 | _ => False
theorem isEmpty_kv {κ : Type} {kvs : List (κ × V)} {vs : List (κ × Value)} (r : KV kvs vs) : (!vs.isEmpty) = !kvs.isEmpty := by
 cases r <;> rfl
theorem isEmpty_of {xs : List V} {its : List Value} (r : Vals xs its) : (!its.toArray.isEmpty) = !xs.isEmpty := by
 cases r <;> simp
theorem line63 : (sizeLine : Nat) < 2 ^ 63 := by rw [sizeLine_eq]; decide
theorem tru_ok : TruR X (fun x H Q => ∃ k, TruV X.K x H k /\ Q k H) := by
 intro pins s σ H x v Q I rx h
 obtain ⟨k, e, q⟩ := h
 have hl := line63
 have hs : sizeLine = 16777216 := sizeLine_eq
 cases x with
 | non =>
  cases rx
  have e' : k = false := e
  subst e'
  exact truthy_none ⟨H, I, q⟩
 | bl b =>
  cases rx
  have e' : k = b := e
  subst e'
  exact wpAny_truthy_bool ⟨H, I, q⟩
 | int i =>
  obtain ⟨t, rfl⟩ := rx
  have e' : k = (i != 0) := e
  subst e'
  exact PySem.P.truthy_int ⟨H, I, q⟩
 | str y =>
  obtain ⟨t, rfl⟩ := rx
  obtain ⟨hy, e'⟩ : y.length <= sizeLine /\ k = ((y.length : Int) != 0) := e
  subst e'
  exact PySem.P.truthy_str (by omega) ⟨H, I.tok _, q⟩
 | byt y =>
  obtain ⟨t, rfl⟩ := rx
  obtain ⟨hy, e'⟩ : y.size <= sizeLine /\ k = ((y.size : Int) != 0) := e
  subst e'
  exact W.truthy_bytes (by omega) ⟨H, I.tok _, q⟩
 | ref p =>
  cases rx
  have e' : (∃ xs, SqL X.K H p xs /\ k = !xs.isEmpty) \/ (∃ xs, SqT X.K H p xs /\ k = !xs.isEmpty) \/ ∃ kvs, H p = some (.dK kvs) /\ k = !kvs.isEmpty := e
  rcases e' with ⟨xs, hx, e'⟩ | ⟨xs, hx, e'⟩ | ⟨kvs, hx, e'⟩
  ·subst e'
   obtain ⟨its, r, pl, hz⟩ := I.list hx
   have hlen := r.length
   exact wpAny_truthy_list pl.isList (by simp only [size_toArray]; omega) ⟨H, I.tok _, by rw [isEmpty_of r]; exact q⟩
  ·subst e'
   obtain ⟨its, r, pl, hz⟩ := I.tuple hx
   have hlen := r.length
   exact truthy_tuple pl (by simp only [size_toArray]; omega) ⟨H, I.tok _, by rw [isEmpty_of r]; exact q⟩
  ·subst e'
   obtain ⟨hz, hS, vs, r, m⟩ : kvs.length <= sizeLine /\ (p == sysModules) = false /\ ∃ vs, KV kvs vs /\ s.heap.DictOf (mixKind X.prog X.w) p vs := I.hok p _ hx
   have hlen : kvs.length = vs.length := Paired.length r
   exact wpAny_truthy_dict hS m (by omega) ⟨H, I.tok _, by rw [isEmpty_kv r]; exact q⟩
 | _ => exact (show False from e).elim
theorem pt_truth (ha : PE X a ta) (he : ∀ whole, isTrue a X.env whole = (do let v ← whole; standAt a.pos; holding [v] (truthy v))) :
  PT X a (fun σ H Q => ta σ H fun x H' => ∃ k, TruV X.K x H' k /\ Q k H') := by
 intro pins s σ H Q I h
 exact isTrue_plain (thn (ha pins s σ H _ I h) fun v s1 ⟨x, H1, I1, r1, q1⟩ => tru_ok pins s1 σ H1 x v Q I1 r1 q1) (he _)
theorem op_add_str : OpR X (binaryOp .Add) (fun x y H Q => ∃ i j, x = .str i /\ y = .str j /\ i.length + j.length <= sizeLine /\ Q (.str (i ++ j)) H) := by
 intro pins s σ H x y v u Q I rx ry h
 obtain ⟨i, j, rfl, rfl, hz, q⟩ := h
 obtain ⟨t, rfl⟩ := rx
 obtain ⟨t', rfl⟩ := ry
 exact add_str (fun t' tk => ⟨.str (i ++ j), H, I.tok _, ⟨_, rfl⟩, q⟩) hz
theorem vals1 {x : V} {us : List Value} (r : Vals [x] us) : ∃ u, us = [u] /\ RelV x u := by
 cases r with
 | cons r1 r2 => cases r2; exact ⟨_, rfl, r1⟩
theorem vals2 {x y : V} {us : List Value} (r : Vals [x, y] us) : ∃ u w', us = [u, w'] /\ RelV x u /\ RelV y w' := by
 cases r with
 | cons r1 r2 =>
  cases r2 with
  | cons r3 r4 => cases r4; exact ⟨_, _, rfl, r1, r3⟩
theorem call_max2 (hc : X.calm = true) : CallR X (.builtin "max") (fun xs H Q => ∃ i j, xs = [.int i, .int j] /\ Q (.int (if j > i then j else i)) H) := by
 intro pins s σ H xs us Q I r h
 obtain ⟨i, j, rfl, q⟩ := h
 obtain ⟨u, w', rfl, ⟨t, rfl⟩, ⟨t', rfl⟩⟩ := vals2 r
 refine max_two_ints (I.ok.hd hc) fun h' tk k => ⟨_, H, I.kept k, ?_, q⟩
 by_cases hj : j > i
 ·rw [if_pos hj, if_pos hj]; exact ⟨_, rfl⟩
 ·rw [if_neg hj, if_neg hj]; exact ⟨_, rfl⟩
theorem call_min2 (hc : X.calm = true) : CallR X (.builtin "min") (fun xs H Q => ∃ i j, xs = [.int i, .int j] /\ Q (.int (if j < i then j else i)) H) := by
 intro pins s σ H xs us Q I r h
 obtain ⟨i, j, rfl, q⟩ := h
 obtain ⟨u, w', rfl, ⟨t, rfl⟩, ⟨t', rfl⟩⟩ := vals2 r
 refine min_two_ints (I.ok.hd hc) fun h' tk k => ⟨_, H, I.kept k, ?_, q⟩
 by_cases hj : j < i
 ·rw [if_pos hj, if_pos hj]; exact ⟨_, rfl⟩
 ·rw [if_neg hj, if_neg hj]; exact ⟨_, rfl⟩
theorem call_int1 : CallR X (.type "int") (fun xs H Q => (∃ i, xs = [.int i] /\ Q (.int i) H) \/ ∃ k, xs = [.bl k] /\ Q (.int (if k then 1 else 0)) H) := by
 intro pins s σ H xs us Q I r h
 rcases h with ⟨i, rfl, q⟩ | ⟨k, rfl, q⟩
 ·obtain ⟨u, rfl, t, rfl⟩ := vals1 r
  exact call_int_int ⟨.int i, H, I, ⟨_, rfl⟩, q⟩
 ·obtain ⟨u, rfl, r1⟩ := vals1 r
  cases r1
  exact call_int_bool ⟨.int (if k then 1 else 0), H, I.tok _, ⟨_, rfl⟩, q⟩
theorem call_str_int : CallR X (.type "str") (fun xs H Q => ∃ i, xs = [.int i] /\ i.natAbs.log2 < 1920 /\ Q (.str (toString i)) H) := by
 intro pins s σ H xs us Q I r h
 obtain ⟨i, rfl, hz, q⟩ := h
 obtain ⟨u, rfl, t, rfl⟩ := vals1 r
 exact PySem.P.str_of_int hz ⟨.str _, H, I.tok _, ⟨_, rfl⟩, q⟩
end
end
section
structure ObjM (h : Heap) (x dx C : Addr) (mA : Str -> Option Value) : Prop where
 obj : h.get? x = some (W.instObj C dx)
 ns : h.Ns1 dx mA
 ne : dx ≠ x
theorem lookIn_ns {h : Heap} {dx : Addr} {mA : Str -> Option Value} (n : h.Ns1 dx mA) : ∃ od, h.get? dx = some od /\ ∀ name, W.lookIn name od = some (mA name) := by
 obtain ⟨o, es, ep, ho, hd, hk, _, hm⟩ := n
 refine ⟨o, ho, fun name => ?_⟩
 have e := hm name
 unfold nsFind findBy at e
 rw [<- Array.find?_toList] at e
 unfold W.lookIn
 rw [hd]
 dsimp only
 split
 ·rename_i y q
  rw [q] at e
  exact congrArg some e
 ·rename_i q
  rw [q] at e
  have a : es.toList.any (·.refKey) = false := by
   rw [any_eq_false]
   intro y hy
   obtain ⟨z, t, hkey⟩ := hk y (Array.mem_toList_iff.mp hy)
   simp [DictEntry.refKey, hkey]
  have a' : ¬ es.toList.any (·.refKey) = true := by rw [a]; exact Bool.false_ne_true
  rw [if_neg a']
  exact congrArg some e
theorem ObjM.look {h : Heap} {x dx C : Addr} {mA : Str -> Option Value} (I : ObjM h x dx C mA) : ∃ od, W.InstAt h x (W.instObj C dx) C (some od) /\ ∀ name, W.lookIn name od = some (mA name) :=
 let ⟨od, ho, hl⟩ := lookIn_ns I.ns
 ⟨od, ⟨I.obj, rfl, rfl, ho⟩, hl⟩
section
variable {prog : Program} {w : World} {A : Around} {E : Value -> Shared -> Prop} {s : Shared} {K : W.Frag} {x dx C f : Addr} {mA : Str -> Option Value} {name : Str} {v : Value}
end
section
variable {P : Program} {w : World} {H H' : Hp} {h h' : Heap} {a C dx : Addr} {fs fs' : List (Str × V)}
theorem ins_get (hok : HOk P w H h) (e : H a = some (.ins C dx fs)) : ∃ mA, ObjM h a dx C mA /\ (∀ f, RelO (fs.lookup f) (mA f)) /\ PySem.Within mA (fs.map (·.1)) /\ fs.length <= 1000 /\ H dx = some (.own a) := by
 obtain ⟨d, z, ne, ob, mA, n, r, q⟩ := (show ObjOk P w H h a (.ins C dx fs) from hok a _ e)
 exact ⟨mA, ⟨ob, n, ne⟩, r, q, z, d⟩
end
structure Cls (K : W.Frag) (C : Addr) : Prop where
 pg : W.plainGet K C Str.empty = true
 hd : W.hasDictIn K C = true
 po : W.plainOver K C = true
 sa : W.findIn K (.ref C) "__setattr__" = some (some (.builtin "object.__setattr__"))
theorem Cls.get {K : W.Frag} {C : Addr} (c : Cls K C) (f : Str) : W.plainGet K C f = true := c.pg
structure Con (K : W.Frag) (C : Addr) (f : Str) (v : V) (u : Value) : Prop where
 at_ : W.findIn K (.ref C) f = some (some u)
 rel : RelV v u
 get : W.specialIn K u "__get__" = some none
 cp : W.copiedNames.contains f = false
structure Meth (K : W.Frag) (C : Addr) (m : Str) (f : Addr) : Prop where
 at_ : W.findIn K (.ref C) m = some (some (.ref f))
 fn : W.isFn K (.ref f) = true
 kp : W.keepIn K (.ref f) = true
section
variable {X : Cx} {pins : List (Addr × Obj)} {σ : St} {H : Hp} {s : Shared} {a C dx : Addr} {fs : List (Str × V)} {f : Str} {v : V} {A : Around} {E : Value -> Shared -> Prop}
end
section
variable {X : Cx} {o e value : Expr} {f : Str} {pos pos' tpos : Pos} {ta tv : TE}
end
section
variable {X : Cx} {pins : List (Addr × Obj)} {σ : St} {H : Hp} {s : Shared} {A : Around} {E : Value -> Shared -> Prop} {Q : Value -> Shared -> Prop} {c : Value} {b : Bool}
inductive TyOf (K : W.Frag) (H : Hp) : V -> Value -> Prop where
 | non : TyOf K H .non (.type "NoneType")
 | bl (x : Bool) : TyOf K H (.bl x) (.type "bool")
 | int (i : Int) : TyOf K H (.int i) (.type "int")
 | str (x : Str) : TyOf K H (.str x) (.type "str")
 | flt (x : UInt64) : TyOf K H (.flt x) (.type "float")
 | lst {a : Addr} {xs : List V} (e : H a = some (.lst xs)) : TyOf K H (.ref a) (.type "list")
 | frz {a : Addr} {o : Obj} {xs : List V} (e : H a = some (.frz o (.lst xs))) : TyOf K H (.ref a) (.type "list")
 | tup {a : Addr} {xs : List V} (e : H a = some (.tup xs)) : TyOf K H (.ref a) (.type "tuple")
 | dK {a : Addr} {kvs : List (Key × V)} (e : H a = some (.dK kvs)) : TyOf K H (.ref a) (.type "dict")
 | dT {a : Addr} {kvs : List (List Key × V)} (e : H a = some (.dT kvs)) : TyOf K H (.ref a) (.type "dict")
 | ins {a C dx : Addr} {fs : List (Str × V)} (e : H a = some (.ins C dx fs)) (cl : Cls K C) (ha : W.findIn K (.ref C) "__class__" = some (some (.builtin "object.__class__")))
   (hn : W.specialIn K (.builtin "object.__class__") "__get__" = some (some (.builtin "getset_descriptor.__get__"))) (htk : W.takesIn K (.builtin "object.__class__") = some true)
   (hm : W.mroIn K C (.type "object") = some true) : TyOf K H (.ref a) (.ref C)
theorem isinst_ok {x : V} {u t : Value} (I : Inv X pins σ H s) (rx : RelV x u) (ty : TyOf X.K H x t) (e : W.kitOne X.K t c = some b) (h : ∀ tk, Q (.bool b) { s with toks := tk }) :
  wpAny (model X.prog X.w) A (call (.builtin "isinstance") [u, c]) Q E s := by
 cases ty with
 | non => cases (show u = Value.none from rx); exact W.kia_one W.kitx_none I.kIn True.intro e (fun z => nomatch z) h
 | bl y => cases (show u = Value.bool y from rx); exact W.kia_one W.kitx_bool I.kIn True.intro e (fun z => nomatch z) h
 | int i => obtain ⟨t, q⟩ := (show ∃ t, u = Value.int i t from rx); cases q; exact W.kia_one W.kitx_int I.kIn True.intro e (fun z => nomatch z) h
 | str y => obtain ⟨t, q⟩ := (show ∃ t, u = Value.str y t from rx); cases q; exact W.kia_one W.kitx_str I.kIn True.intro e (fun z => nomatch z) h
 | flt y => obtain ⟨t, q⟩ := (show ∃ t, u = Value.float y t from rx); cases q; exact W.kia_one W.kitx_float I.kIn True.intro e (fun z => nomatch z) h
 | @lst a xs ea =>
  cases (show u = Value.ref a from rx)
  obtain ⟨_, _, n, _, h1⟩ := (show ObjOk X.prog X.w H s.heap a (.lst xs) from I.hok a _ ea)
  exact W.kia_one W.kitx_list I.kIn ⟨_, h1, rfl⟩ e (fun z => nomatch z) h
 | @frz a ob xs ea =>
  cases (show u = Value.ref a from rx)
  obtain ⟨_, _, _, n, _, h1⟩ := (show ObjOk X.prog X.w H s.heap a (.frz ob (.lst xs)) from I.hok a _ ea)
  exact W.kia_one W.kitx_list I.kIn ⟨_, h1, rfl⟩ e (fun z => nomatch z) h
 | @tup a xs ea =>
  cases (show u = Value.ref a from rx)
  obtain ⟨_, _, _, p⟩ := (show ObjOk X.prog X.w H s.heap a (.tup xs) from I.hok a _ ea)
  obtain ⟨o, h1, h2, _⟩ := p
  exact W.kia_one W.kitx_tuple I.kIn ⟨o, h1, h2⟩ e (fun z => nomatch z) h
 | @dK a kvs ea =>
  cases (show u = Value.ref a from rx)
  obtain ⟨_, _, vs, _, p⟩ := (show ObjOk X.prog X.w H s.heap a (.dK kvs) from I.hok a _ ea)
  obtain ⟨o, es, ep, h1, h2, _⟩ := p
  exact W.kia_one W.kitx_dict I.kIn ⟨o, h1, h2.1⟩ e (fun z => nomatch z) h
 | @dT a kvs ea =>
  cases (show u = Value.ref a from rx)
  obtain ⟨_, _, xs, _, o, es, ep, h1, h2, _⟩ := (show ObjOk X.prog X.w H s.heap a (.dT kvs) from I.hok a _ ea)
  exact W.kia_one W.kitx_dict I.kIn ⟨o, h1, h2.1⟩ e (fun z => nomatch z) h
 | @ins a C dx fs ea cl ha hn htk hm =>
  cases (show u = Value.ref a from rx)
  obtain ⟨mA, O, _⟩ := ins_get I.hok ea
  obtain ⟨od, J, _⟩ := O.look
  exact W.kia_one (W.kitx_own (cl.get _) cl.hd ha hn htk hm) I.kIn J e (fun z => nomatch z) h
end
end
section
structure Room (k : Nat) (A : Around) : Prop where
 hd : A.handled = none
 dp : A.depth + 3 * k + 5 < recursionLimit
 un : A.units + 16 * k + 200 < cLine
theorem Room.mono {j k : Nat} {A : Around} (r : Room k A) (h : j <= k) : Room j A := ⟨r.hd, by have := r.dp; omega, by have := r.un; omega⟩
theorem Room.deeper {k : Nat} {A : Around} (r : Room (k + 1) A) (env : Env) : Room k (A.deeper env) :=
 ⟨r.hd, by have := r.dp; show A.depth + 1 + 3 * k + 5 < _; omega, by have := r.un; show A.units + 3 + 16 * k + 200 < _; omega⟩
theorem Room.depth {k : Nat} {A : Around} (r : Room k A) : A.depth < recursionLimit := by have := r.dp; omega
theorem Room.units {k : Nat} {A : Around} (r : Room k A) : A.units + 64 < cLine := by have := r.un; omega
def tNil : TA := fun _ H Q => Q [] H
def tCons (ta : TE) (tr : TA) : TA := fun σ H Q => ta σ H fun x H1 => tr σ H1 fun xs H2 => Q (x :: xs) H2
section
variable {X : Cx} {e : Expr} {es : List Expr} {te : TE} {t : TA} {pos : Pos}
theorem pa_nil : PA X [] tNil := fun _ _ _ _ H Q I h => Calls.spliced_nil ⟨[], H, I, .nil, h⟩
theorem pa_cons (ha : PE X e te) (hr : PA X es t) (hs : starEach (e :: es) X.env = (false, eval e X.env) :: starEach es X.env := by rfl) : PA X (e :: es) (tCons te t) := by
 intro pos pins s σ H Q I h
 rw [hs]
 show wpAny _ _ (spliced ((false, eval e X.env) :: backTo pos (starEach es X.env))) _ _ s
 refine Calls.spliced_cons (thn (ha pins s σ H _ I h) fun u s1 hpat => ?_)
 obtain ⟨x, H1, I1, r1, q1⟩ := hpat
 exact thn (hr pos pins s1 σ H1 _ I1 q1) fun us s2 ⟨xs, H2, I2, r2, q2⟩ => ⟨x :: xs, H2, I2, .cons r1 r2, q2⟩
def tTup (t : TA) : TE := fun σ H Q => t σ H fun xs H1 => xs.length <= sizeLine /\ ∀ p, H1 p = none -> Q (.ref p) (upd H1 p (.tup xs))
def tLst (t : TA) : TE := fun σ H Q => t σ H fun xs H1 => xs.length <= sizeLine /\ ∀ p, H1 p = none -> Q (.ref p) (upd H1 p (.lst xs))
theorem pe_tup {x1} (h : PA X es t) : PE X (.Tuple es x1 pos) (tTup t) := by
 intro pins s σ H Q I hq
 refine wpAny_Tuple_spliced (thn (h pos pins s σ H _ I hq) fun us s1 ⟨xs, H1, I1, r, z, q⟩ => ⟨by rw [<- r.length]; exact z, ?_⟩)
 have hf : H1 s1.heap.objs.size = none := I1.hok.fresh (Nat.le_refl _)
 refine ⟨.ref s1.heap.objs.size, upd H1 s1.heap.objs.size (.tup xs), I1.laid (t' := s1.toks) (fun b u e => Heap.get?_push_of_some _ e) (Nat.le_refl _) ?_, rfl, q _ hf⟩
 exact ⟨z, us, r, ⟨_, Heap.get?_push_size _ rfl, rfl, _, rfl⟩⟩
theorem pe_lst (h : PA X es t) : PE X (.List es pos) (tLst t) := by
 intro pins s σ H Q I hq
 refine wpAny_List_spliced (thn (h pos pins s σ H _ I hq) fun us s1 ⟨xs, H1, I1, r, z, q⟩ => ⟨by rw [<- r.length]; exact z, ?_⟩)
 have hf : H1 s1.heap.objs.size = none := I1.hok.fresh (Nat.le_refl _)
 refine ⟨.ref s1.heap.objs.size, upd H1 s1.heap.objs.size (.lst xs), I1.laid (t' := s1.toks) (fun b u e => Heap.get?_push_of_some _ e) (Nat.le_refl _) ?_, rfl, q _ hf⟩
 exact ⟨z, us, 0, r, Heap.get?_push_size _ rfl⟩
end
noncomputable abbrev Sp := List V -> Hp -> VK -> XK -> Prop
noncomputable abbrev CXT := List Env -> Hp -> Shared -> XK -> Value -> Shared -> Prop
structure Env0 (P : Program) (w : World) (K : W.Frag) (mg : Str -> Option Value) (base : Heap) (A : Around) (outer : List Env) (s : Shared) (H : Hp) : Prop where
 frames : A.frames = some outer
 mod : Mod K mg base
 bs : ∀ b o, base.get? b = some o -> s.heap.get? b = some o /\ H b = none
 bsz : base.objs.size <= s.heap.objs.size
 funs : s.heap.FunFrames base outer
 frf : ∀ b ∈ frs outer, H b = none
 hok : HOk P w H s.heap
 bare : AllBare s.gens
def CE (outer : List Env) (P : Program) (w : World) (H : Hp) (s : Shared) (Q : VK) (u : Value) (s' : Shared) : Prop :=
 ∃ v H', s'.os = s.os /\ AllBare s'.gens /\ Un (frs outer) [] H H' s.heap s'.heap /\ HOk P w H' s'.heap /\ RelV v u /\ Q v H'
def CR (CX : CXT) (outer : List Env) (P : Program) (w : World) (H : Hp) (s : Shared) (Q : VK) (E : XK) (r : Result) (s' : Shared) : Prop :=
 match r with
 | .ok (.ret u) => CE outer P w H s Q u s'
 | .ok _ => False
 | .error e => CX outer H s E e s'
structure FnOk (P : Program) (w : World) (K : W.Frag) (mg : Str -> Option Value) (base : Heap) (CX : CXT) (k : Nat) (f : Addr) (fd : FuncData) (ps : List Str) (sp : Sp) : Prop where
 len : ∀ vs H Q E, sp vs H Q E -> vs.length = ps.length
 run : ∀ (A : Around) (outer : List Env) (s : Shared) (H : Hp) (args : Args) (us : List Value) (vs : List V) (Q : VK) (E : XK), Room k A -> Env0 P w K mg base A outer s H -> BindsTo s fd args (ps.zip us) -> Vals vs us -> sp vs H Q E ->
  codeAny (model P w) A (.call (.ref f) args) (CR CX outer P w H s Q E) s
theorem FnOk.mono {P : Program} {w : World} {K : W.Frag} {mg : Str -> Option Value} {base : Heap} {CX : CXT} {j k : Nat} {f : Addr} {fd : FuncData} {ps : List Str} {sp : Sp} (F : FnOk P w K mg base CX j f fd ps sp) (h : j <= k) :
  FnOk P w K mg base CX k f fd ps sp := ⟨F.len, fun A outer s H args us vs Q E hr => F.run A outer s H args us vs Q E (hr.mono h)⟩
section
variable {X : Cx} {pins : List (Addr × Obj)} {σ : St} {H : Hp} {s s' : Shared}
theorem Inv.env0 (I : Inv X pins σ H s) : Env0 X.prog X.w X.K X.mg X.base X.A X.stack s H :=
 ⟨I.ok.frames, I.ok.mod, I.bs, Nat.le_trans I.ok.bsz I.sz, I.stack, I.stkFree, I.hok, I.bare⟩
theorem Inv.after {Q : VK} {u : Value} (I : Inv X pins σ H s) (h : CE X.stack X.prog X.w H s Q u s') : EP X pins σ Q u s' := by
 obtain ⟨v, H', os, bare, un, hok, r, q⟩ := h
 obtain ⟨hh, g, d, t, os'⟩ := s'
 obtain rfl : os' = s.os := os
 exact ⟨v, H', I.call (h' := hh) (g' := g) (d' := d) (t' := t) (ch := []) un hok bare (fun b z => absurd z (by simp)), r, q⟩
end
def tCall (sp : Sp) (dvs : List V) (E : XK) (t : TA) : TE := fun σ H Q => t σ H fun vs H1 => sp (vs ++ dvs) H1 Q E
def Binds (K : W.Frag) (fd : FuncData) (ps : List Str) (ds : List Value) : Prop :=
 ∀ (s : Shared) (us : List Value), K.In s.heap -> (us ++ ds).length = ps.length -> BindsTo s fd ⟨us, []⟩ (ps.zip (us ++ ds))
theorem Binds.all {K : W.Frag} {fd : FuncData} {ps : List Str} (h : ∀ us : List Value, us.length = ps.length -> bindArgs fd ⟨us, []⟩ = pure (ps.zip us)) : Binds K fd ps [] := fun s us _ hl => by
 rw [append_nil] at hl ⊢
 exact .of_eq (h us hl)
def Passes (CX : CXT) (X : Cx) (E : XK) : Prop := ∀ (pins : List (Addr × Obj)) (σ : St) (H : Hp) (s : Shared) (e : Value) (s' : Shared), Inv X pins σ H s -> CX X.stack H s E e s' -> X.xe e s'
section
variable {X : Cx} {CX : CXT} {k : Nat} {f C : Addr} {fd : FuncData} {ps : List Str} {sp : Sp} {dvs : List V} {ds : List Value} {E : XK} {x m : Str} {p pos apos : Pos} {e o : Expr} {es : List Expr} {ta : TE} {t : TA}
theorem run_fn {pins : List (Addr × Obj)} {σ : St} {H : Hp} {s : Shared} {Q : VK} {us : List Value} {vs : List V} (F : FnOk X.prog X.w X.K X.mg X.base CX k f fd ps sp) (hr : Room k X.A) (hb : Binds X.K fd ps ds) (hd : Vals dvs ds) (hx : Passes CX X E)
  (I : Inv X pins σ H s) (r : Vals vs us) (h : sp (vs ++ dvs) H Q E) : wpAny (model X.prog X.w) X.A (call (.ref f) us) (EP X pins σ Q) X.xe s := by
 have r2 : Vals (vs ++ dvs) (us ++ ds) := r.append hd
 have hl : (us ++ ds).length = ps.length := by rw [<- r2.length]; exact F.len _ _ _ _ h
 refine wpAny_call (codeAny_mono (F.run X.A X.stack s H ⟨us, []⟩ (us ++ ds) (vs ++ dvs) Q E hr I.env0 (hb s us I.kIn hl) r2 h) fun r s' hq => ?_)
 cases r with
 | error e => exact hx pins σ H s e s' I hq
 | ok fl =>
  cases fl with
  | ret u => exact I.after hq
  | next => exact False.elim hq
  | brk => exact False.elim hq
  | cont => exact False.elim hq
theorem pe_call (F : FnOk X.prog X.w X.K X.mg X.base CX k f fd ps sp) (hr : Room k X.A) (hg : Gl X x) (hm : X.mg x = some (.ref f)) (hk : W.keepIn X.K (.ref f) = true) (hb : Binds X.K fd ps ds) (hd : Vals dvs ds) (hx : Passes CX X E)
  (ha : PA X (e :: es) t) (hdb : (x == ("__debug__" : Str)) = false := by decide) (he : starEach (e :: es) X.env = (false, eval e X.env) :: starEach es X.env := by rfl) (hpl : (backTo pos (starEach es X.env)).any (·.1) = false := by rfl) :
  PE X (.Call (.Name x p) (e :: es) [] pos) (tCall sp dvs E t) := by
 intro pins s σ H Q I h
 refine wpAny_Call_Name_kw (ld_glob I hg hm ?_ hdb)
 refine W.callWith_K (h₀ := X.base) I.ok.mod.kin hk (thn (ha pos pins s σ H _ I h) fun us s1 ⟨vs, H1, I1, r, q⟩ => ⟨I1.kIn, ?_⟩) he hpl
 exact run_fn F hr hb hd hx I1 r q
structure Mk (K : W.Frag) (C f : Addr) : Prop where
 makes : W.makesIn K C = true
 init : W.findIn K (.ref C) "__init__" = some (some (.ref f))
 fn : W.isFn K (.ref f) = true
 kp : W.keepIn K (.ref C) = true
end
section
variable {X : Cx} {CX : CXT} {k : Nat} {f C : Addr} {fd : FuncData} {ps ks : List Str} {sp : Sp} {E : XK} {x m : Str} {p pos apos kpos : Pos} {e o : Expr} {es : List Expr} {kws : List Keyword} {te ta : TE} {t tk : TA} {nm : Option Str}
structure KBinds (K : W.Frag) (fd : FuncData) (ps ks : List Str) (g : List Value -> List Value -> List Value) (gV : List V -> List V -> List V) : Prop where
 to : ∀ (s : Shared) (us ws : List Value), K.In s.heap -> (g us ws).length = ps.length -> BindsTo s fd ⟨us, ks.zip ws⟩ (ps.zip (g us ws))
 rel : ∀ {vs : List V} {us : List Value} {zs : List V} {ws : List Value}, Vals vs us -> Vals zs ws -> Vals (gV vs zs) (g us ws)
variable {g : List Value -> List Value -> List Value} {gV : List V -> List V -> List V}
end
structure FnScope (N P : List Str) (sc : Scope) : Prop where
 kind : sc.kind = .function
 co : sc.isCoroutine = false
 gen : sc.isGenerator = false
 nd : N.Nodup
 pre : N.take P.length = P
 par : ∀ x ∈ P, sc.names.lookup x = some .local \/ sc.names.lookup x = some .cell
 nofree : ∀ y ∈ sc.names, y.2 ≠ .free
theorem bindL_out {kindOf : Str -> Option NameKind} {x : Str} : ∀ {binds : List (Str × Value)} {m : Str -> Option Value}, (∀ v, (x, v) ∉ binds) -> bindL kindOf binds m x = m x
 | [], _, _ => rfl
 | (n, v) :: r, m, h => by
  unfold bindL
  rw [bindL_out fun w hw => h w (mem_cons_of_mem _ hw)]
  split
  ·have : x ≠ n := by rintro rfl; exact h v mem_cons_self
   simp [this]
  ·rfl
theorem bindC_out {kindOf : Str -> Option NameKind} {x : Str} : ∀ {binds : List (Str × Value)} {m : Str -> Option Value}, (∀ v, (x, v) ∉ binds) -> bindC kindOf binds m x = m x
 | [], _, _ => rfl
 | (n, v) :: r, m, h => by
  unfold bindC
  rw [bindC_out fun w hw => h w (mem_cons_of_mem _ hw)]
  split
  ·rfl
  ·have : x ≠ n := by rintro rfl; exact h v mem_cons_self
   simp [this]
theorem bindL_get {kindOf : Str -> Option NameKind} {x : Str} {v : Value} : ∀ {P : List Str} {vs : List Value} {i : Nat} {m : Str -> Option Value}, P.Nodup -> P[i]? = some x -> vs[i]? = some v -> kindOf x = some .local ->
  bindL kindOf (P.zip vs) m x = some v
 | [], _, _, _, _, h, _, _ => by simp at h
 | _ :: _, [], _, _, _, _, h, _ => by simp at h
 | p :: P, w :: vs, 0, m, nd, h1, h2, hk => by
  simp at h1 h2; subst h1; subst h2
  show bindL kindOf ((p, w) :: P.zip vs) m p = _
  unfold bindL
  rw [bindL_out fun v hv => (List.nodup_cons.mp nd).1 (of_mem_zip hv).1, if_pos hk]
  simp
 | p :: P, w :: vs, i + 1, m, nd, h1, h2, hk => by
  show bindL kindOf ((p, w) :: P.zip vs) m x = _
  unfold bindL
  exact bindL_get (i := i) (List.nodup_cons.mp nd).2 (by simpa using h1) (by simpa using h2) hk
theorem bindC_get {kindOf : Str -> Option NameKind} {x : Str} {v : Value} : ∀ {P : List Str} {vs : List Value} {i : Nat} {m : Str -> Option Value}, P.Nodup -> P[i]? = some x -> vs[i]? = some v -> kindOf x ≠ some .local ->
  bindC kindOf (P.zip vs) m x = some v
 | [], _, _, _, _, h, _, _ => by simp at h
 | _ :: _, [], _, _, _, _, h, _ => by simp at h
 | p :: P, w :: vs, 0, m, nd, h1, h2, hk => by
  simp at h1 h2; subst h1; subst h2
  show bindC kindOf ((p, w) :: P.zip vs) m p = _
  unfold bindC
  rw [bindC_out fun v hv => (List.nodup_cons.mp nd).1 (of_mem_zip hv).1, if_neg hk]
  simp
 | p :: P, w :: vs, i + 1, m, nd, h1, h2, hk => by
  show bindC kindOf ((p, w) :: P.zip vs) m x = _
  unfold bindC
  exact bindC_get (i := i) (List.nodup_cons.mp nd).2 (by simpa using h1) (by simpa using h2) hk
noncomputable def start (N : List Str) (vs : List V) : St := vs.map some ++ List.replicate (N.length - vs.length) none
noncomputable def cxOf (CX : CXT) (P : Program) (w : World) (K : W.Frag) (mg : Str -> Option Value) (base : Heap) (N : List Str) (qual : Str) (scope : Scope) (f : Addr) (cd : Value) (A : Around) (outer : List Env) (s : Shared) (H : Hp) (E : XK) : Cx where
 prog := P
 w := w
 K := K
 mg := mg
 base := base
 A := A.deeper (envOfC qual scope s.heap.objs.size f cd)
 N := N
 s₀ := s
 H₀ := H
 env := envOfC qual scope s.heap.objs.size f cd
 outer := outer
 stack := envOfC qual scope s.heap.objs.size f cd :: outer
 ex := []
 calm := true
 fn := fun _ => true
 pn := []
 xe := fun e s' => wpAny (model P w) (A.deeper (envOfC qual scope s.heap.objs.size f cd)) (leaving (envOfC qual scope s.heap.objs.size f cd) e) (fun _ s'' => CX outer H s E e s'') (fun e' s'' => CX outer H s E e' s'') s'
theorem cell_has {sc : Scope} {n : Nat} {x : Str} (h : sc.names.lookup x = some .cell) : ∃ c, (cellsFrom n sc.names []).lookup x = some c := by
 have q := W.cellsFrom_some sc.names n [] (.inl h)
 exact Option.isSome_iff_exists.mp q
theorem inv_start {CX : CXT} {P : Program} {w : World} {K : W.Frag} {mg : Str -> Option Value} {base : Heap} {N ps : List Str} {qual : Str} {scope : Scope} {f : Addr} {cd : Value} {A : Around} {outer : List Env} {s s1 : Shared} {H : Hp} {E : XK} {us : List Value} {vs : List V}
  (S : FnScope N ps scope) (hd : A.handled = none) (e0 : Env0 P w K mg base A outer s H) (hl : vs.length = ps.length) (r : Vals vs us)
  (x : InCallC s s.heap.objs.size (bindL (envOfC qual scope s.heap.objs.size f cd).kindOf (ps.zip us) fun _ => none) (cellsFrom (s.heap.objs.size + 1) scope.names []) (bindC (envOfC qual scope s.heap.objs.size f cd).kindOf (ps.zip us) fun _ => none) s1) :
  Inv (cxOf CX P w K mg base N qual scope f cd A outer s H E) [] (start N vs) H s1 := by
 have hpl : ps.length <= N.length := by have := congrArg List.length S.pre; rw [length_take] at this; omega
 obtain ⟨h1, tk, rfl, hk⟩ := x.done
 have noA : ∀ b : Addr, b ∉ (cxOf CX P w K mg base N qual scope f cd A outer s H E).ex := fun b z => absurd (show b ∈ ([] : List Addr) from z) (by simp)
 refine ⟨⟨e0.mod, S.kind, rfl, rfl, Nat.le_refl _, fun y z c h1 h2 => ?_, fun y hy => ?_, fun y c _ h => ?_, fun _ => hd, Around.frames_deeper e0.frames, .inr ⟨rfl, rfl⟩, fun b z => absurd z (noA b), e0.bs, e0.bsz, fun b _ _ => noA b, fun b z => absurd z (noA b), e0.funs, e0.frf⟩,
  rfl, e0.bare, Un.kept hk, ⟨_, x.toInCall.ns, fun i y v h1 h2 h3 => ?_⟩, fun y c h => ⟨_, x.cell y c h⟩, e0.hok.fresh (Nat.le_refl _), fun y c h => ?_, fun p hp => absurd (show p ∈ ([] : List (Addr × Obj)) from hp) (by simp), e0.hok.kept hk, ?_⟩
 ·exact name_of_addr x.apart (PySem.mem_of_lookup h1) (PySem.mem_of_lookup h2)
 ·have hy : scope.names.lookup y = some .cell \/ scope.names.lookup y = some .free := hy
  rcases hy with hy | hy
  ·exact cell_has hy
  ·exact absurd rfl (S.nofree _ (PySem.mem_of_lookup hy))
 ·exact Nat.le_of_lt (x.above y c (PySem.mem_of_lookup h))
 ·have hi : i < vs.length := by
   unfold start at h2
   by_cases hi : i < vs.length
   ·exact hi
   ·rw [getElem?_append_right (by simpa using hi)] at h2
    rw [getElem?_replicate] at h2
    split at h2 <;> cases h2
  have ha : vs[i]? = some v := by
   unfold start at h2
   rw [getElem?_append_left (by simpa using hi), getElem?_map] at h2
   cases e : vs[i]? with
   | none => rw [e] at h2; cases h2
   | some a => rw [e] at h2; cases h2; rfl
  obtain ⟨u, hu, rv⟩ := r.get ha
  have hp : ps[i]? = some y := by
   rw [<- S.pre, getElem?_take_of_lt (by omega)]; exact h1
  have ndP : ps.Nodup := by rw [<- S.pre]; exact S.nd.sublist (take_sublist _ _)
  refine ⟨u, rv, ?_⟩
  rcases S.par y (mem_of_getElem? hp) with k | k
  ·exact .inl ⟨k, bindL_get ndP hp hu k⟩
  ·obtain ⟨c, e⟩ := cell_has (n := s.heap.objs.size + 1) k
   refine .inr ⟨.inl k, c, e, ?_⟩
   have q := x.cell y c e
   rw [bindC_get ndP hp hu (by show scope.names.lookup y ≠ _; rw [k]; decide)] at q
   exact q
 ·exact e0.hok.fresh (Nat.le_of_lt (x.above y c (PySem.mem_of_lookup h)))
 ·unfold start
  show _ = N.length
  rw [length_append, length_map, length_replicate]
  omega
theorem fn_of {CX : CXT} {P : Program} {w : World} {K : W.Frag} {mg : Str -> Option Value} {base : Heap} {k : Nat} {f : Addr} {name qual : Str} {params : Arguments} {body : List Stmt} {scope : Scope} {dV kV doc pm cdv ct oc : Value} {an od : Option Addr}
  {osl : Array (Option Value)} {N ps : List Str} {sp : Sp} (lk : K.lookup f = some ⟨oc, od, .func (W.fnOf name qual params body scope dV kV doc pm an cdv ct), osl⟩) (hcd : W.codeIn K cdv qual = true) (S : FnScope N ps scope)
  (len : ∀ vs H Q E, sp vs H Q E -> vs.length = ps.length)
  (hbody : ∀ (A : Around) (outer : List Env) (s : Shared) (H : Hp) (vs : List V) (Q : VK) (E : XK), Room k (A.deeper (envOfC qual scope s.heap.objs.size f cdv)) -> sp vs H Q E ->
   ∃ t, PSs (cxOf CX P w K mg base N qual scope f cdv A outer s H E) body t /\ t { nx := fun _ H' => Q .non H', rt := Q } (start N vs) H) :
  FnOk P w K mg base CX (k + 1) f (W.fnOf name qual params body scope dV kV doc pm an cdv ct) ps sp := by
 refine ⟨len, fun A outer s H args us vs Q E hr e0 hb r hsp => ?_⟩
 have hl := len _ _ _ _ hsp
 have KX : K.In s.heap := e0.mod.kin.keeps fun b o e => (e0.bs b o e).1
 have lim : s.heap.NoLimit := e0.mod.nolimit.keeps fun b o e => (e0.bs b o e).1
 have hkind : ∀ y ∈ ps.zip us, scope.names.lookup y.1 = some .local \/ (scope.names.lookup y.1 = some .cell /\ ((cellsFrom (s.heap.objs.size + 1) scope.names []).lookup y.1).isSome = true) := fun ⟨n, v⟩ hy => by
  rcases S.par n (of_mem_zip hy).1 with q | q
  ·exact .inl q
  ·exact .inr ⟨q, W.cellsFrom_some _ _ _ (.inl q)⟩
 refine codeAny_call_function hr.depth (KX _ _ lk) rfl S.co S.gen rfl (W.codeRec_of KX hcd) (hb _ _ _ _ ?_)
 refine wpAny_newFunctionEnv_cells S.kind hkind fun env he s1 x => ?_
 subst he
 refine ⟨lim.keeps x.toInCall.keep, codeAny_func ?_⟩
 obtain ⟨t, ht, hq⟩ := hbody A outer s H vs Q E (hr.deeper _) hsp
 have I : Inv (cxOf CX P w K mg base N qual scope f cdv A outer s H E) [] (start N vs) H s1 := inv_start S hr.hd e0 hl r x
 refine wpAny_mono (ht [] s1 (start N vs) H _ I hq) (fun fl s' hs => ?_) fun e s' hs => hs
 have fin : ∀ {σ' : St} {H' : Hp} {v : V} {u : Value}, Inv (cxOf CX P w K mg base N qual scope f cdv A outer s H E) [] σ' H' s' -> RelV v u -> Q v H' -> CE outer P w H s Q u s' :=
  fun {σ' H' v u} J rv q => ⟨v, H', J.os, J.bare, J.base, J.hok, rv, q⟩
 cases fl with
 | ret u =>
  obtain ⟨v, σ', H', J, rv, q⟩ := hs
  exact fin J rv q
 | next =>
  obtain ⟨σ', H', J, q⟩ := hs
  exact fin (v := V.non) (u := Value.none) J rfl q
 | brk =>
  obtain ⟨_, _, _, q⟩ := hs
  exact False.elim q
 | cont =>
  obtain ⟨_, _, _, q⟩ := hs
  exact False.elim q
end
section
section
variable {X : Cx} {x : Str} {p pos : Pos} {e : Expr} {es : List Expr} {t : TA} {id T : String} {r : List V -> Hp -> VK -> Prop}
def tCB (r : List V -> Hp -> VK -> Prop) (t : TA) : TE := fun σ H Q => t σ H fun vs H1 => r vs H1 Q
theorem pe_callB (hc : CallR X (.builtin id) r) (hg : Gl X x) (hm : X.mg x = none) (hv : bootBuiltins x = some (.builtin id)) (ha : PA X (e :: es) t) (hn : x ≠ "__name__" := by decide) (hdb : (x == ("__debug__" : Str)) = false := by decide)
  (he : starEach (e :: es) X.env = (false, eval e X.env) :: starEach es X.env := by rfl) (hpl : (backTo pos (starEach es X.env)).any (·.1) = false := by rfl) : PE X (.Call (.Name x p) (e :: es) [] pos) (tCB r t) := by
 intro pins s σ H Q I h
 refine wpAny_Call_Name_kw (ld_blt I hg hm hv ?_ hn hdb)
 exact PyProof.Rows.callWith_builtin1 (thn (ha pos pins s σ H _ I h) fun us s1 ⟨vs, H1, I1, r1, q1⟩ => hc pins s1 σ H1 vs us Q I1 r1 q1) he hpl
theorem pe_callTy (hc : CallR X (.type T) r) (hg : Gl X x) (hm : X.mg x = none) (hv : bootBuiltins x = some (.type T)) (ha : PA X (e :: es) t) (hn : x ≠ "__name__" := by decide) (hdb : (x == ("__debug__" : Str)) = false := by decide)
  (he : starEach (e :: es) X.env = (false, eval e X.env) :: starEach es X.env := by rfl) (hpl : (backTo pos (starEach es X.env)).any (·.1) = false := by rfl) : PE X (.Call (.Name x p) (e :: es) [] pos) (tCB r t) := by
 intro pins s σ H Q I h
 refine wpAny_Call_Name_kw (ld_blt I hg hm hv ?_ hn hdb)
 exact PyProof.Rows.callWith_type1 (thn (ha pos pins s σ H _ I h) fun us s1 ⟨vs, H1, I1, r1, q1⟩ => hc pins s1 σ H1 vs us Q I1 r1 q1) he hpl
end
end
end L2
namespace HT
open PySem PyProof.Rows
section
open PySem.SeqAt
open PySem.AutoSeq1 (wpAny_loadPart')
open PySem.MeetsSeq PySem.MeetsSeq2 PySem.MeetsSeq3
end
section
variable {prog : Program} {w : World} {A : Around} {E : Value -> Shared -> Prop} {s : Shared}
noncomputable def sIx (n d : Nat) : Option Int -> Nat
 | none => d
 | some v => if v < 0 then (v + (n : Int)).toNat else min v.toNat n
theorem sIx_none (n d : Nat) : sIx n d none = d := rfl
theorem sIx_nat (n d k : Nat) : sIx n d (some (k : Int)) = min k n := by
 show (if (k : Int) < 0 then ((k : Int) + (n : Int)).toNat else min (k : Int).toNat n) = min k n
 rw [if_neg (by omega), Int.toNat_natCast]
end
end HT
namespace L2
open List
open PySem PySem.Spec PyProof.Rows
section
noncomputable abbrev TO := St -> Hp -> (Option Int -> Hp -> Prop) -> Prop
def PO (X : Cx) (e : Option Expr) (t : TO) : Prop :=
 ∀ (pins : List (Addr × Obj)) (s : Shared) (σ : St) (H : Hp) (Q : Option Int -> Hp -> Prop), Inv X pins σ H s -> t σ H Q ->
  wpAny (model X.prog X.w) X.A (evalPart e X.env) (fun u s' => ∃ o H', Inv X pins σ H' s' /\ IsPart u o /\ Q o H') X.xe s
noncomputable def tNoPart : TO := fun _ H Q => Q none H
noncomputable def tPart (t : TE) : TO := fun σ H Q => t σ H fun x H1 => ∃ i, x = .int i /\ Q (some i) H1
section
variable {X : Cx} {e : Expr} {te : TE} {lo hi : Option Expr} {tl th : TO} {pos p2 : Pos}
theorem po_none : PO X none tNoPart := by
 intro pins s σ H Q I h
 rw [evalPart_none]
 exact wpAny_pure ⟨none, H, I, .none, h⟩
theorem po_some (h : PE X e te) : PO X (some e) (tPart te) := by
 intro pins s σ H Q I hw
 rw [evalPart_some]
 refine thn (h pins s σ H _ I hw) fun u s1 hpat => ?_
 obtain ⟨x, H1, I1, r1, q1⟩ := hpat
 obtain ⟨i, rfl, q⟩ := q1
 obtain ⟨t, rfl⟩ := r1
 exact ⟨some i, H1, I1, .int i t, q⟩
def SlR (X : Cx) (r : V -> Option Int -> Option Int -> Hp -> VK -> Prop) : Prop :=
 ∀ (pins : List (Addr × Obj)) (s : Shared) (σ : St) (H : Hp) (x : V) (v vl vu : Value) (lo hi : Option Int) (sl : Addr) (Q : VK), Inv X pins σ H s -> RelV x v -> s.heap.IsSliceOf sl vl vu .none -> IsPart vl lo -> IsPart vu hi -> r x lo hi H Q ->
  ∃ T id, typeLookup (.type T) "__getitem__" = pure (some (.builtin id)) /\ s.TypeIs v T /\ wpAny (model X.prog X.w) X.A (getItem v (.ref sl)) (EP X pins σ Q) X.xe s
def tSl (r : V -> Option Int -> Option Int -> Hp -> VK -> Prop) (te : TE) (tl th : TO) : TE := fun σ H Q => te σ H fun x H1 => tl σ H1 fun l H2 => th σ H2 fun u H3 => r x l u H3 Q
theorem pe_slice {r : V -> Option Int -> Option Int -> Hp -> VK -> Prop} (hr : SlR X r) (he : PE X e te) (hl : PO X lo tl) (hu : PO X hi th) : PE X (.Subscript e (.Slice lo hi none p2) pos) (tSl r te tl th) := by
 intro pins s σ H Q I h
 refine Subscript_ (thn (he pins s σ H _ I h) fun v s1 hpat => ?_)
 obtain ⟨x, H1, I1, r1, q1⟩ := hpat
 refine wpAny_Slice (thn (hl pins s1 σ H1 _ I1 q1) fun vl s2 ⟨l, H2, I2, pl, q2⟩ => thn (hu pins s2 σ H2 _ I2 q2) fun vu s3 hpat => ?_)
 obtain ⟨u, H3, I3, pu, q3⟩ := hpat
 rw [evalPart_none]
 refine wpAny_pure ?_
 have I4 : Inv X pins σ H3 { s3 with heap := s3.heap.push { cls := .type "slice", data := .fields #[vl, vu, .none] } } := I3.kept (t' := s3.toks) fun b ob q => Heap.get?_push_of_some _ q
 obtain ⟨T, id, hT, ht, hg⟩ := hr pins { s3 with heap := s3.heap.push { cls := .type "slice", data := .fields #[vl, vu, .none] } } σ H3 x v vl vu l u s3.heap.objs.size Q I4 r1 (Heap.IsSliceOf.new ..) pl pu q3
 show wpAny (model X.prog X.w) X.A (subscriptTail e (.Slice lo hi none p2) v (.ref s3.heap.objs.size)) (EP X pins σ Q) X.xe { s3 with heap := s3.heap.push { cls := .type "slice", data := .fields #[vl, vu, .none] } }
 exact tail_any (ops := [.ref s3.heap.objs.size, v]) ht hT hg (by with_unfolding_all rfl)
noncomputable def cutV (xs : List V) (lo hi : Option Int) : List V := (xs.drop (HT.sIx xs.length 0 lo)).take (HT.sIx xs.length xs.length hi - HT.sIx xs.length 0 lo)
theorem cutV_length (xs : List V) (lo hi : Option Int) : (cutV xs lo hi).length <= xs.length := by
 unfold cutV
 rw [length_take, length_drop]
 omega
end
end
section
noncomputable def ixN (n : Nat) (i : Int) : Option Nat := if 0 <= i then (if i < n then some i.toNat else none) else if -(n : Int) <= i then some (i + n).toNat else none
noncomputable def atI {α : Type} (xs : List α) (i : Int) : Option α := (ixN xs.length i).bind fun j => xs[j]?
theorem ixN_seq {n : Nat} {i : Int} {j : Nat} (h : ixN n i = some j) : seqIndex? i n = some j /\ j < n /\ -(n : Int) <= i /\ i < n := by
 unfold ixN at h
 by_cases h0 : 0 <= i
 ·rw [if_pos h0] at h
  by_cases h1 : i < n
  ·rw [if_pos h1] at h
   have e : i.toNat = j := Option.some.inj h
   exact ⟨by rw [seqIndex_of h0 h1, e], by omega, by omega, h1⟩
  ·rw [if_neg h1] at h; cases h
 ·rw [if_neg h0] at h
  by_cases h1 : -(n : Int) <= i
  ·rw [if_pos h1] at h
   have e : (i + n).toNat = j := Option.some.inj h
   exact ⟨by rw [seqIndex_neg (by omega) h1, e], by omega, h1, by omega⟩
  ·rw [if_neg h1] at h; cases h
theorem atI_get {α : Type} {xs : List α} {i : Int} {v : α} (h : atI xs i = some v) : ∃ j, seqIndex? i xs.length = some j /\ xs[j]? = some v /\ j < xs.length /\ -(xs.length : Int) <= i /\ i < xs.length := by
 unfold atI at h
 cases e : ixN xs.length i with
 | none => rw [e] at h; cases h
 | some j =>
  rw [e] at h
  obtain ⟨h1, h2, h3, h4⟩ := ixN_seq e
  exact ⟨j, h1, h, h2, h3, h4⟩
def PlainIx (b : Expr) : Prop := ∀ o i, subscripted b false o i = operate [o, i] (getItem o i)
def IxR (X : Cx) (r : R2) : Prop :=
 ∀ (value slice : Expr) (pins : List (Addr × Obj)) (s : Shared) (σ : St) (H : Hp) (x y : V) (v u : Value) (Q : VK), Inv X pins σ H s -> RelV x v -> RelV y u -> r x y H Q ->
  subscripted slice false v u = operate [v, u] (getItem v u) -> wpAny (model X.prog X.w) X.A (subscriptTail value slice v u) (EP X pins σ Q) X.xe s
def MtR (X : Cx) (id : String) (r : V -> List V -> Hp -> VK -> Prop) : Prop :=
 ∀ (pins : List (Addr × Obj)) (s : Shared) (σ : St) (H : Hp) (x : V) (xs : List V) (v : Value) (us : List Value) (Q : VK), Inv X pins σ H s -> RelV x v -> Vals xs us -> r x xs H Q ->
  wpAny (model X.prog X.w) X.A (call (.builtin id) (v :: us)) (EP X pins σ Q) X.xe s
section
variable {X : Cx} {a b : Expr} {ta tb : TE} {pos : Pos}
theorem pe_ix {r : R2} (hr : IxR X r) (ha : PE X a ta) (hb : PE X b tb) (hs : PlainIx b) : PE X (.Subscript a b pos) (tOp r ta tb) := by
 intro pins s σ H Q I h
 exact Subscript_ (binT ha hb I h fun v u s2 x y H2 I2 rx ry q => hr a b pins s2 σ H2 x y v u Q I2 rx ry q (hs _ _))
def rIxL (K : W.Frag) : R2 := fun x y H Q => ∃ p xs i v, x = .ref p /\ y = .int i /\ SqL K H p xs /\ atI xs i = some v /\ Q v H
def rIxS : R2 := fun x y H Q => ∃ z i c, x = .str z /\ y = .int i /\ z.length <= sizeLine /\ atI z.cps.toList i = some c /\ Q (.str ⟨#[c]⟩) H
theorem ix_list : IxR X (rIxL X.K) := by
 intro value slice pins s σ H x y v u Q I rx ry h hs
 obtain ⟨p, xs, i, z, rfl, rfl, hq, he, q⟩ := h
 cases rx
 obtain ⟨t, rfl⟩ := ry
 obtain ⟨its, r, pl, hz⟩ := I.list hq
 obtain ⟨j, h1, h2, h3, h4, h5⟩ := atI_get he
 obtain ⟨w, ew, rw'⟩ := r.get h2
 have hl := r.length
 have hn := line63
 have fin : EP X pins σ Q w s := ⟨z, H, I, rw', q⟩
 by_cases h0 : 0 <= i
 ·have hj : i.toNat = j := by
   rw [seqIndex_of h0 h5] at h1
   exact Option.some.inj h1
  exact item_listR pl.isList h0 (by omega) (by rw [hj]; simpa using ew) fin hs
 ·have hj : (i + (its.toArray.size : Int)).toNat = j := by
   rw [seqIndex_neg (by omega) h4] at h1
   rw [size_toArray, <- hl]
   exact Option.some.inj h1
  exact subscriptTail_builtinR (x := w) pl.isList.typeIs slot_list_getitem.lookup
   (wpAny_getItem_list_neg (Q := fun r s' => r = w /\ EP X pins σ Q r s') pl.isList (by omega) (by rw [size_toArray] <;> omega) (by omega) (by rw [hj]; simpa using ew) ⟨rfl, fin⟩) hs
theorem ix_str : IxR X rIxS := by
 intro value slice pins s σ H x y v u Q I rx ry h hs
 obtain ⟨z, i, c, rfl, rfl, hz, he, q⟩ := h
 obtain ⟨t, rfl⟩ := rx
 obtain ⟨t', rfl⟩ := ry
 obtain ⟨j, h1, h2, h3, h4, h5⟩ := atI_get he
 have hl : z.cps.toList.length = z.length := by simp [Str.length]
 rw [hl] at h1 h4 h5
 have hn := line63
 exact tail_any (typeIs_str s z t) slot_str_getitem.lookup (getItem_str (c := c) (by
  have e1 : decide (i < -(2 ^ 63 : Int)) = false := decide_eq_false (by omega)
  have e2 : decide (i ≥ 2 ^ 63) = false := decide_eq_false (by omega)
  rw [e1, e2, Bool.or_false]) (by rw [h1]; simpa using h2) ⟨.str ⟨#[c]⟩, H, I.tok _, ⟨_, rfl⟩, q⟩) hs
theorem mapSeq_set (its : List Value) (n j : Nat) (u : Value) : Obj.mapSeq (·.setIfInBounds j u) { cls := .type "list", data := .seq its.toArray n } = { cls := .type "list", data := .seq (its.set j u).toArray n } := by
 simp [Obj.mapSeq]
theorem Inv.lst {pins : List (Addr × Obj)} {σ : St} {H : Hp} {s : Shared} {p : Addr} {xs : List V} (I : Inv X pins σ H s) (h : H p = some (.lst xs)) :
  ∃ (its : List Value) (n : Nat), Vals xs its /\ s.heap.get? p = some { cls := .type "list", data := .seq its.toArray n } /\ xs.length <= sizeLine := by
 obtain ⟨z, its, n, r, e⟩ := I.hok p _ h
 exact ⟨its, n, r, e, z⟩
theorem Inv.lstUpd {pins : List (Addr × Obj)} {σ : St} {H : Hp} {s : Shared} {p : Addr} {xs ys : List V} {its its' : List Value} {n n' : Nat} {f : Obj -> Obj} (I : Inv X pins σ H s) (h : H p = some (.lst xs))
  (ho : s.heap.get? p = some { cls := .type "list", data := .seq its.toArray n }) (hf : f { cls := .type "list", data := .seq its.toArray n } = { cls := .type "list", data := .seq its'.toArray n' }) (r : Vals ys its') (hz : ys.length <= sizeLine) (t : Nat) :
  Inv X pins σ (upd H p (.lst ys)) { s with heap := s.heap.update p f, toks := t } := by
 have e : (s.heap.update p f).get? p = some { cls := .type "list", data := .seq its'.toArray n' } := by
  rw [Heap.get?_update_self f ho (by rw [hf] <;> rfl), hf]
 refine I.write (x := p) (e := p) (by rw [h]; trivial) (.inl rfl) (fun b u hb q => (Heap.get?_update_other _ _ (Ne.symm hb)).trans q) ⟨_, e⟩ ?_
 exact ⟨hz, its', n', r, e⟩
def rSetL : V -> V -> V -> Hp -> (Hp -> Prop) -> Prop := fun o i v H Q => ∃ p xs k j, o = .ref p /\ i = .int k /\ H p = some (.lst xs) /\ ixN xs.length k = some j /\ Q (upd H p (.lst (xs.set j v)))
theorem set_list : PSet X rSetL := by
 intro pins s σ H o i v ov iv u Q I ro ri rv h
 obtain ⟨p, xs, k, j, rfl, rfl, hp, hj, q⟩ := h
 cases ro
 obtain ⟨t, rfl⟩ := ri
 obtain ⟨its, n, r, ho, hz⟩ := I.lst hp
 obtain ⟨h1, h2, h3, h4⟩ := ixN_seq hj
 have hl := r.length
 have hn := line63
 have I' : Inv X pins σ (upd H p (.lst (xs.set j v))) { s with heap := s.heap.update p (Obj.mapSeq (·.setIfInBounds j u)) } :=
  I.lstUpd hp ho (mapSeq_set its n j u) (r.set rv j) (by rw [length_set]; exact hz) s.toks
 by_cases h0 : 0 <= k
 ·have hk : k.toNat = j := by
   rw [seqIndex_of h0 h4] at h1
   exact Option.some.inj h1
  exact W.ki_setAt ho h0 (by omega) (by rw [size_toArray, <- hl]; exact h4) (by rw [hk]; exact ⟨_, I', q⟩)
 ·have hk : (k + (its.toArray.size : Int)).toNat = j := by
   rw [seqIndex_neg (by omega) h3] at h1
   rw [size_toArray, <- hl]
   exact Option.some.inj h1
  exact W.ki_setBack ho (by omega) (by rw [size_toArray, <- hl]; exact h3) (by omega) (by rw [hk]; exact ⟨_, I', q⟩)
theorem slice_bounds (lo hi : Option Int) (n : Nat) : (sliceBounds lo hi none n).1 = ((HT.sIx n 0 lo : Nat) : Int) /\ (sliceBounds lo hi none n).2.1 = ((HT.sIx n n hi : Nat) : Int) /\ (sliceBounds lo hi none n).2.2 = 1 := by
 refine ⟨?_, ?_, rfl⟩
 ·cases lo with
  | none => simp [sliceBounds, HT.sIx]
  | some i =>
   simp only [sliceBounds, HT.sIx, Option.getD_none, show (1 : Int) > 0 by decide, if_true]
   by_cases h : i < 0
   ·simp only [h, if_true] <;> omega
   ·simp only [h, if_false] <;> omega
 ·cases hi with
  | none => simp [sliceBounds, HT.sIx]
  | some i =>
   simp only [sliceBounds, HT.sIx, Option.getD_none, show (1 : Int) > 0 by decide, if_true]
   by_cases h : i < 0
   ·simp only [h, if_true] <;> omega
   ·simp only [h, if_false] <;> omega
theorem slicePick_cut (its : List Value) (lo hi : Option Int) : slicePick its.toArray lo hi none = ((its.drop (HT.sIx its.length 0 lo)).take (HT.sIx its.length its.length hi - HT.sIx its.length 0 lo)).toArray := by
 obtain ⟨h1, h2, h3⟩ := slice_bounds lo hi its.toArray.size
 unfold slicePick
 rw [h1, h2, h3]
 simp only [sliceRange_one, pick_run, size_toArray] <;> rfl
def rSlL (K : W.Frag) : V -> Option Int -> Option Int -> Hp -> VK -> Prop := fun x lo hi H Q => ∃ a xs, x = .ref a /\ SqL K H a xs /\ ∀ p, H p = none -> Q (.ref p) (upd H p (.lst (cutV xs lo hi)))
theorem sl_list : SlR X (rSlL X.K) := by
 intro pins s σ H x v vl vu lo hi sl Q I rx hs pl pu h
 obtain ⟨a, xs, rfl, hx, q⟩ := h
 cases rx
 obtain ⟨its, r, ht, hz⟩ := I.list hx
 have hlen := r.length
 refine ⟨"list", _, slot_list_getitem.lookup, ht.isList.typeIs, ?_⟩
 refine wpAny_getItem_list_slice ht.isList hs pl pu .none (by simp) ?_ (by rw [size_toArray] <;> omega)
 rw [slicePick_cut, <- hlen]
 refine ⟨.ref s.heap.objs.size, _, I.laid (t' := s.toks) (o := .lst (cutV xs lo hi)) (fun b ob q => Heap.get?_push_of_some _ q) (Nat.le_refl _) ?_, rfl, q _ (I.hok.fresh (Nat.le_refl _))⟩
 exact ⟨Nat.le_trans (cutV_length xs lo hi) hz, _, 0, (r.drop (HT.sIx xs.length 0 lo)).take (HT.sIx xs.length xs.length hi - HT.sIx xs.length 0 lo), Heap.get?_push_size _ rfl⟩
noncomputable def flatV : V -> Bool
 | .non => true
 | .bl _ => true
 | .int _ => true
 | .str _ => true
 | _ => false
noncomputable def eqV : V -> V -> Bool
 | .non, .non => true
 | .bl a, .bl b => a == b
 | .bl a, .int b => (if a then 1 else 0) == b
 | .int a, .bl b => a == (if b then 1 else 0)
 | .int a, .int b => a == b
 | .str a, .str b => a == b
 | _, _ => false
theorem eqAt_V {A : Around} {s : Shared} {y x : V} {u v : Value} (ry : RelV y u) (rx : RelV x v) (fy : flatV y = true) (fx : flatV x = true) : SeqAt.EqAt A s u v (eqV y x) := by
 cases y with
 | non =>
  cases ry
  cases x with
  | non => cases rx; exact SeqAt.EqAt.same _
  | bl b => cases rx; exact SeqAt.EqAt.none_bool b
  | int b => obtain ⟨t, rfl⟩ := rx; exact SeqAt.EqAt.none_int b t
  | str b => obtain ⟨t, rfl⟩ := rx; exact SeqAt.EqAt.none_str b t
  | _ => exact absurd (show false = true from fx) Bool.false_ne_true
 | bl a =>
  cases ry
  cases x with
  | non => cases rx; exact SeqAt.EqAt.bool_none a
  | bl b => cases rx; exact SeqAt.EqAt.bool_bool a b
  | int b => obtain ⟨t, rfl⟩ := rx; exact SeqAt.EqAt.bool_int a b t
  | str b => obtain ⟨t, rfl⟩ := rx; exact SeqAt.EqAt.bool_str a b t
  | _ => exact absurd (show false = true from fx) Bool.false_ne_true
 | int a =>
  obtain ⟨t', rfl⟩ := ry
  cases x with
  | non => cases rx; exact SeqAt.EqAt.int_none a t'
  | bl b => cases rx; exact SeqAt.EqAt.int_bool a t' b
  | int b => obtain ⟨t, rfl⟩ := rx; exact SeqAt.EqAt.int_int a t' b t
  | str b => obtain ⟨t, rfl⟩ := rx; exact SeqAt.EqAt.int_str a t' b t
  | _ => exact absurd (show false = true from fx) Bool.false_ne_true
 | str a =>
  obtain ⟨t', rfl⟩ := ry
  cases x with
  | non => cases rx; exact SeqAt.EqAt.str_none a t'
  | bl b => cases rx; exact SeqAt.EqAt.str_bool a t' b
  | int b => obtain ⟨t, rfl⟩ := rx; exact SeqAt.EqAt.str_int a t' b t
  | str b => obtain ⟨t, rfl⟩ := rx; exact SeqAt.EqAt.str_str a t' b t
  | _ => exact absurd (show false = true from fx) Bool.false_ne_true
 | _ => exact absurd (show false = true from fy) Bool.false_ne_true
noncomputable def eqU (x : V) (u : Value) : Bool := match u with
 | .none => eqV .non x
 | .bool b => eqV (.bl b) x
 | .int i _ => eqV (.int i) x
 | .str z _ => eqV (.str z) x
 | _ => false
theorem eqU_of {x y : V} {u : Value} (r : RelV y u) (f : flatV y = true) : eqU x u = eqV y x := by
 cases y with
 | non => cases r; rfl
 | bl b => cases r; rfl
 | int i => obtain ⟨t, rfl⟩ := r; rfl
 | str z => obtain ⟨t, rfl⟩ := r; rfl
 | _ => exact absurd (show false = true from f) Bool.false_ne_true
theorem any_eqU {x : V} : ∀ {xs : List V} {us : List Value}, Vals xs us -> xs.all flatV = true -> us.any (eqU x) = xs.any fun y => eqV y x
 | _, _, .nil, _ => rfl
 | y :: xs, u :: us, .cons r t, f => by
  rw [all_cons, Bool.and_eq_true] at f
  rw [any_cons, any_cons, eqU_of r f.1, any_eqU t f.2]
theorem mem_eqAt {A : Around} {s : Shared} {x : V} {v : Value} (rx : RelV x v) (fx : flatV x = true) : ∀ {xs : List V} {us : List Value}, Vals xs us -> xs.all flatV = true -> ∀ u ∈ us, SeqAt.EqAt A s u v (eqU x u)
 | _, _, .nil, _ => fun u hu => by cases hu
 | y :: xs, u :: us, .cons r t, f => fun u' hu => by
  rw [all_cons, Bool.and_eq_true] at f
  rcases List.mem_cons.mp hu with rfl | hu
  ·rw [eqU_of r f.1]; exact eqAt_V r rx f.1 fx
  ·exact mem_eqAt rx fx t f.2 u' hu
noncomputable def inV (x : V) (xs : List V) : Bool := xs.any fun y => eqV y x
def rIn (K : W.Frag) (neg : Bool) : R2 := fun x y H Q => ∃ p xs, y = .ref p /\ (SqL K H p xs \/ SqT K H p xs) /\ flatV x = true /\ xs.all flatV = true /\ Q (.bl (if neg then !inV x xs else inV x xs)) H
theorem op_in_seq : OpR X (compareOp .In) (rIn X.K false) := by
 intro pins s σ H x y v u Q I rx ry h
 obtain ⟨p, xs, rfl, hq, fx, fs, q⟩ := h
 cases ry
 rcases hq with hq | hq
 ·obtain ⟨its, r, pl, hz⟩ := I.list hq
  refine SeqAt.in_listAt (eqU x) pl.isList (fun w hw => mem_eqAt rx fx r fs w (by simpa using hw)) ⟨.bl _, H, I, rfl, ?_⟩
  rw [show its.toArray.any (eqU x) = its.any (eqU x) by simp, any_eqU r fs]
  exact q
 ·obtain ⟨its, r, pl, hz⟩ := I.tuple hq
  refine SeqAt.in_tupleAt (eqU x) pl (fun w hw => mem_eqAt rx fx r fs w (by simpa using hw)) ⟨.bl _, H, I, rfl, ?_⟩
  rw [show its.toArray.any (eqU x) = its.any (eqU x) by simp, any_eqU r fs]
  exact q
theorem op_notIn_str : OpR X (compareOp .NotIn) (fun x y H Q => ∃ i j, x = .str i /\ y = .str j /\ Q (.bl (!(!(Builtin.Str.occurrences j i 0 j.length 1).isEmpty))) H) := by
 intro pins s σ H x y v u Q I rx ry h
 obtain ⟨i, j, rfl, rfl, q⟩ := h
 obtain ⟨t, rfl⟩ := rx
 obtain ⟨t', rfl⟩ := ry
 exact notIn_str ⟨.bl _, H, I, rfl, q⟩
theorem call_len_seq : CallR X (.builtin "len") (fun xs H Q => ∃ p ys, xs = [.ref p] /\ (SqL X.K H p ys \/ SqT X.K H p ys) /\ Q (.int ys.length) H) := by
 intro pins s σ H xs us Q I r h
 obtain ⟨p, ys, rfl, hq, q⟩ := h
 obtain ⟨u, rfl, rx⟩ := vals1 r
 cases rx
 have hn := line63
 rcases hq with hq | hq
 ·obtain ⟨its, r', pl, hz⟩ := I.list hq
  have hlen := r'.length
  exact Calls.call_len_list pl.isList (by simp only [size_toArray] <;> omega) ⟨.int ys.length, H, I.tok _, ⟨s.toks + 1, by rw [size_toArray, hlen]⟩, q⟩
 ·obtain ⟨its, r', pl, hz⟩ := I.tuple hq
  have hlen := r'.length
  exact len_tuple pl (by simp only [size_toArray] <;> omega) ⟨.int ys.length, H, I.tok _, ⟨s.toks + 1, by rw [size_toArray, hlen]⟩, q⟩
theorem call_len_str : CallR X (.builtin "len") (fun xs H Q => ∃ z, xs = [.str z] /\ z.length <= sizeLine /\ Q (.int z.length) H) := by
 intro pins s σ H xs us Q I r h
 obtain ⟨z, rfl, hz, q⟩ := h
 obtain ⟨u, rfl, t, rfl⟩ := vals1 r
 have hn := line63
 exact len_str (by omega) ⟨.int z.length, H, I.tok _, ⟨_, rfl⟩, q⟩
theorem CallR.or {f : Value} {r r' : List V -> Hp -> VK -> Prop} (h : CallR X f r) (h' : CallR X f r') : CallR X f (fun xs H Q => r xs H Q \/ r' xs H Q) := by
 intro pins s σ H xs us Q I rs q
 rcases q with q | q
 ·exact h pins s σ H xs us Q I rs q
 ·exact h' pins s σ H xs us Q I rs q
def tyV (K : W.Frag) (T : String) (x : V) (H : Hp) : Prop := match x with
 | .str _ => T = "str"
 | .int _ => T = "int"
 | .ref p => (T = "list" /\ ∃ xs, SqL K H p xs) \/ (T = "tuple" /\ ∃ o, K.lookup p = some o /\ o.cls = .type "tuple" /\ o.dict = none) \/
   (T = "dict" /\ ((∃ kvs, H p = some (.dK kvs)) \/ ∃ kvs, H p = some (.dT kvs))) \/ (T = "set" /\ ∃ S n, H p = some (.set S n))
 | _ => False
theorem tyV_is {pins : List (Addr × Obj)} {σ : St} {H : Hp} {s : Shared} {T : String} {x : V} {v : Value} (I : Inv X pins σ H s) (r : RelV x v) (ty : tyV X.K T x H) :
  s.TypeIs v T /\ ∀ a, v = .ref a -> ∃ ob, s.heap.get? a = some ob /\ ob.dict = none := by
 cases x with
 | str z =>
  obtain ⟨t, rfl⟩ := r
  cases (show T = "str" from ty)
  exact ⟨typeIs_str s z t, fun _ e => nomatch e⟩
 | int i =>
  obtain ⟨t, rfl⟩ := r
  cases (show T = "int" from ty)
  exact ⟨typeIs_int s i t, fun _ e => nomatch e⟩
 | ref p =>
  cases r
  rcases ty with ⟨rfl, xs, hq⟩ | ⟨rfl, o, hk, hc, hd⟩ | ⟨rfl, hk⟩ | ⟨rfl, S, n, hk⟩
  ·obtain ⟨its, _, pl, _⟩ := I.list hq
   refine ⟨pl.isList.typeIs, fun a e => ?_⟩
   cases e
   obtain ⟨o, n, e, c, hd, _⟩ := pl
   exact ⟨o, e, hd⟩
  ·refine ⟨⟨o, I.kIn p o hk, hc⟩, fun a e => ?_⟩
   cases e
   exact ⟨o, I.kIn _ o hk, hd⟩
  ·have z : ∃ o, s.heap.get? p = some o /\ o.ExactDict := by
    rcases hk with ⟨kvs, hk⟩ | ⟨kvs, hk⟩
    ·obtain ⟨_, _, _, _, o, _, _, e, ex, _⟩ := I.hok p _ hk
     exact ⟨o, e, ex⟩
    ·obtain ⟨_, _, _, _, o, _, _, e, ex, _⟩ := I.hok p _ hk
     exact ⟨o, e, ex⟩
   obtain ⟨o, e, ex⟩ := z
   refine ⟨⟨o, e, ex.1⟩, fun a e2 => ?_⟩
   cases e2
   exact ⟨o, e, ex.2.1⟩
  ·obtain ⟨o, _, _, _, e, ex, _⟩ := I.hok p _ hk
   refine ⟨⟨o, e, ex.1⟩, fun a e2 => ?_⟩
   cases e2
   exact ⟨o, e, ex.2.1⟩
 | _ => exact False.elim ty
def tBM0 (K : W.Frag) (T : String) (r : V -> List V -> Hp -> VK -> Prop) (to : TE) : TE := fun σ H Q => to σ H fun x H1 => tyV K T x H1 /\ r x [] H1 Q
def tBM (K : W.Frag) (T : String) (r : V -> List V -> Hp -> VK -> Prop) (to : TE) (t : TA) : TE := fun σ H Q => to σ H fun x H1 => tyV K T x H1 /\ t σ H1 fun xs H2 => r x xs H2 Q
variable {o e : Expr} {es : List Expr} {to : TE} {t : TA} {name : Str} {apos cpos : Pos} {T id : String} {r : V -> List V -> Hp -> VK -> Prop}
theorem pe_bm0 (pa : PlainAttrs T) (slot : Slot T name id) (hty : typeOf (.builtin id) = pure (.type "method_descriptor")) (hm : MtR X id r) (ho : PE X o to)
  (hbase : attributeBase o name X.env (eval o X.env) = eval o X.env := by rfl) (hline : (apos.endLine == cpos.line) = true := by rfl) : PE X (.Call (.Attribute o name apos) [] [] cpos) (tBM0 X.K T r to) := by
 intro pins s σ H Q I h
 refine wpAny_Call_method0_late hbase hline (thn (ho pins s σ H _ I h) fun v s1 hpat => ?_)
 obtain ⟨x, H1, I1, r1, ty, q1⟩ := hpat
 obtain ⟨h1, h2⟩ := tyV_is I1 r1 ty
 exact ⟨T, id, pa, slot, hty, h1, h2, Calls.callWith_builtin rfl (PySem.evalArgs_none (hm pins s1 σ H1 x [] v [] Q I1 r1 .nil q1))⟩
theorem pe_bm (pa : PlainAttrs T) (slot : Slot T name id) (hty : typeOf (.builtin id) = pure (.type "method_descriptor")) (hm : MtR X id r) (ho : PE X o to) (ha : PA X (e :: es) t)
  (hbase : attributeBase o name X.env (eval o X.env) = eval o X.env := by rfl)
  (hfew : ((backTo cpos (starEach (e :: es) X.env)).all (fun x => !x.1) && (backToKw cpos (keywordEach [] X.env)).all (fun x => x.1.isSome)
   && decide ((e :: es).length + ([] : List Keyword).length + (if ([] : List Keyword).isEmpty then 0 else 1) < 30)) = true := by rfl)
  (hline : (apos.endLine == cpos.line) = true := by rfl) (hs : starEach (e :: es) X.env = (false, eval e X.env) :: starEach es X.env := by rfl) (hplain : (backTo cpos (starEach es X.env)).any (·.1) = false := by rfl) :
  PE X (.Call (.Attribute o name apos) (e :: es) [] cpos) (tBM X.K T r to t) := by
 intro pins s σ H Q I h
 refine wpAny_Call_method_late hbase hfew hline rfl (thn (ho pins s σ H _ I h) fun v s1 hpat => ?_)
 obtain ⟨x, H1, I1, r1, ty, q1⟩ := hpat
 obtain ⟨h1, h2⟩ := tyV_is I1 r1 ty
 refine ⟨T, id, pa, slot, hty, h1, h2, ?_⟩
 have hA := ha cpos pins s1 σ H1 _ I1 q1
 rw [hs] at hA ⊢
 refine Calls.callWith_builtin (by show (false || (backTo cpos (starEach es X.env)).any (·.1)) = false; rw [hplain] <;> rfl) (Calls.evalArgs_plain ?_)
 exact thn hA fun us s2 ⟨vs, H2, I2, r2, q2⟩ => hm pins s2 σ H2 x vs v us Q I2 r1 r2 q2
end
end
section
def MtM (X : Cx) (id : String) (r : V -> List V -> Hp -> VK -> Prop) : Prop :=
 ∀ (pins : List (Addr × Obj)) (s : Shared) (σ : St) (H : Hp) (x : V) (xs : List V) (v : Value) (us : List Value) (Q : VK), Inv X pins σ H s -> RelV x v -> Vals xs us -> r x xs H Q ->
  wpAny (model X.prog X.w) X.A (call (.builtin id) (v :: us)) (EP X pins σ Q) X.xe s
theorem Vals.one : ∀ {x : V} {us : List Value}, Vals [x] us -> ∃ u, us = [u] /\ RelV x u
 | _, _, .cons r .nil => ⟨_, rfl, r⟩
theorem Vals.eraseIdx : ∀ {xs : List V} {us : List Value} (i : Nat), Vals xs us -> Vals (xs.eraseIdx i) (us.eraseIdx i)
 | _, _, _, .nil => .nil
 | _, _, 0, .cons _ t => t
 | _, _, i + 1, .cons r t => .cons r (Vals.eraseIdx i t)
theorem len_erase {α : Type} : ∀ (l : List α) (i : Nat), (l.eraseIdx i).length <= l.length
 | [], _ => Nat.le_refl _
 | _ :: _, 0 => Nat.le_succ _
 | _ :: r, i + 1 => Nat.succ_le_succ (len_erase r i)
section
variable {X : Cx} {pins : List (Addr × Obj)} {σ : St} {H : Hp} {s : Shared} {l b : Addr} {xs ys zs : List V}
theorem Inv.lset {its its' : List Value} {n : Nat} {f : Array Value -> Array Value} {t' : Nat} (I : Inv X pins σ H s) (hH : H l = some (.lst xs))
  (e : s.heap.get? l = some { cls := .type "list", data := .seq its.toArray n }) (hf : f its.toArray = its'.toArray) (hv : Vals ys its') (hz : ys.length <= sizeLine) :
  Inv X pins σ (upd H l (.lst ys)) { s with heap := s.heap.update l (Obj.mapSeq f), toks := t' } := by
 have q := PySem.IsL.update e f
 rw [hf] at q
 refine I.write (x := l) (e := l) (by rw [hH]; exact trivial) (.inl rfl) (fun b' u hb hu => (Heap.get?_update_other s.heap (Obj.mapSeq f) (Ne.symm hb)).trans hu) ⟨_, q⟩ ?_
 exact ⟨hz, its', _, hv, q⟩
theorem Inv.lnew {its : List Value} {t' : Nat} (I : Inv X pins σ H s) (hv : Vals ys its) (hz : ys.length <= sizeLine) :
  Inv X pins σ (upd H s.heap.objs.size (.lst ys)) { s with heap := s.heap.push { cls := .type "list", data := .seq its.toArray }, toks := t' } :=
 I.laid (fun _ _ q => Heap.get?_push_of_some _ q) (Nat.le_refl _) ⟨hz, its, 0, hv, Heap.get?_push_size _ rfl⟩
theorem Inv.fresh (I : Inv X pins σ H s) : H s.heap.objs.size = none := I.hok.fresh (Nat.le_refl _)
theorem Inv.lstM (I : Inv X pins σ H s) (hH : H l = some (.lst xs)) : xs.length <= sizeLine /\ ∃ (its : List Value) (n : Nat), Vals xs its /\ xs.length = its.length /\ s.heap.get? l = some { cls := .type "list", data := .seq its.toArray n } := by
 obtain ⟨z, its, n, r, e⟩ := I.hok l _ hH
 exact ⟨z, its, n, r, r.length, e⟩
end
section
variable {X : Cx}
def rAppend : V -> List V -> Hp -> VK -> Prop := fun x vs H Q => ∃ l xs y, x = .ref l /\ vs = [y] /\ H l = some (.lst xs) /\ xs.length < sizeLine /\ Q .non (upd H l (.lst (xs ++ [y])))
theorem mt_append : MtM X "list.append" rAppend := by
 intro pins s σ H x vs v us Q I rx rv h
 obtain ⟨l, xs, y, rfl, rfl, hH, hz, q⟩ := h
 cases rx
 obtain ⟨u, rfl, ru⟩ := rv.one
 obtain ⟨z, its, n, r, hl, e⟩ := I.lstM hH
 refine call_meets F.slot_list_append ⟨_, e, rfl⟩ F.entry_list_append (F.args_list_append_2 _ _) (PySem.list_append l its.toArray n u (by rw [size_toArray]; omega)) ⟨e, ?_⟩
 refine ⟨.non, _, I.lset (its' := its ++ [u]) hH e (by simp) (r.append (.cons ru .nil)) ?_, rfl, q⟩
 rw [length_append, length_singleton]
 omega
def rPopAt : V -> List V -> Hp -> VK -> Prop := fun x vs H Q => ∃ l xs i k y, x = .ref l /\ vs = [.int i] /\ H l = some (.lst xs) /\ -(2 ^ 63) <= i /\ i < 2 ^ 63 /\ seqIndex? i xs.length = some k /\ xs[k]? = some y /\ Q y (upd H l (.lst (xs.eraseIdx k)))
theorem mt_popAt : MtM X "list.pop" rPopAt := by
 intro pins s σ H x vs v us Q I rx rv h
 obtain ⟨l, xs, i, k, y, rfl, rfl, hH, h1, h2, hk, hy, q⟩ := h
 cases rx
 obtain ⟨u, rfl, ru⟩ := rv.one
 obtain ⟨t, rfl⟩ := ru
 obtain ⟨z, its, n, r, hl, e⟩ := I.lstM hH
 obtain ⟨w, hw, rw'⟩ := r.get hy
 refine call_meets F.slot_list_pop ⟨_, e, rfl⟩ F.entry_list_pop (F.args_list_pop_2 _ _)
  (MeetsSeq.list_pop_at l its.toArray n i t k w (fitsIndex_both h1 h2) (by rw [size_toArray, <- hl]; exact hk) (by rw [<- Array.getElem?_toList]; exact hw) (by rw [size_toArray]; omega)) ⟨e, ?_⟩
 refine ⟨y, _, I.lset (its' := its.eraseIdx k) hH e ?_ (r.eraseIdx k) ?_, rw', q⟩
 ·show its.toArray.eraseIdxIfInBounds k = (its.eraseIdx k).toArray
  rw [eraseIdxIfInBounds_toArray]
 ·have := len_erase xs k
  omega
end
section
variable {prog : Program} {w : World} {A : Around} {E : Value -> Shared -> Prop} {s : Shared}
end
section
variable {X : Cx}
end
end
end L2
namespace Att
open PySem PySem.W PySem.Calls PyProof.Rows
theorem ints_of_wellAll {P : Params} {h : Heap} : ∀ (ns : List Int) (vs : List Value), WellAll P h vs (ns.map WData.int) -> IntsAre vs ns := by
 intro ns
 induction ns with
 | nil =>
  intro vs w
  rw [List.map_nil] at w
  cases w
  exact .nil
 | cons n ns ih =>
  intro vs w
  rw [List.map_cons] at w
  cases w with
  | cons a b =>
   cases a
   exact .cons _ _ (ih _ b)
theorem script_of {l : OpenLaw} {n : Nat} (hn : l.most = some n) {P : Params} {h : Heap} {args : List WData} {vals : List Value}
  (hpre : l.row.toRowW.claim.pre args = true) (hwl : WellAll P h vals args) :
  ∃ a vs ns, vals = [Value.ref a] /\ args = [WData.list (ns.map WData.int)] /\ h.get? a = some { cls := .type "list", data := .seq vs.toArray } /\ IntsAre vs ns /\ ns.length <= n := by
 have hsh : WShape.hasAll [] args [.list .int] = true := (pre_splitW hpre).1
 have hc : l.pre.holds [] { args := args } = true := (pre_splitW hpre).2
 obtain ⟨d, r, rfl, h1, h2⟩ := hasAllW_cons hsh
 obtain rfl := hasAllW_nil h2
 obtain ⟨xs, rfl, h3⟩ := hasW_list h1
 obtain ⟨ns, rfl⟩ := items_int h3
 have hlen : ns.length <= n := by
  unfold OpenLaw.pre at hc
  have h4 : (WTm.not (.lt (.lit (.int (n : Int))) (.len (.arg 0)))).holds [] { args := [.list (ns.map .int)] } = true := by
   have h4 := (holds_andW hc).1
   rw [hn] at h4
   exact h4
  have h5 := condW_of h4 (w_not (w_lt w_lit (w_len_list (w_arg rfl))))
  rw [List.length_map] at h5
  refine Nat.le_of_not_lt fun q => ?_
  have q' : (n : Int) < ((ns.length : Nat) : Int) := by omega
  first
   | (rw [decide_eq_true q'] at h5; exact absurd h5 (by decide))
   | (simp at h5; omega)
 cases hwl with
 | cons w1 w2 =>
  cases w2
  cases w1 with
  | list ho hall => exact ⟨_, _, ns, rfl, rfl, ho, ints_of_wellAll ns _ hall, hlen⟩
theorem post_true (l : OpenLaw) (args : List WData) : l.row.toRowW.claim.post args (.bool true) args = true :=
 postW_of (r := l.row.toRowW) (X := (true == true))
  (show WShape.has [] (.bool true) .bool = true by first | rfl | decide | simp [WShape.has, WShape.arms, WShape.armsAll])
  (show (WTm.eq .res (.lit (.bool true))).value [] { args := args, res := some (.bool true), after := args } = some (.bool (true == true)) from w_eq_bool (w_res rfl) w_lit) rfl
theorem attach_call {l : OpenLaw} {n : Nat} {q : Program} {loose : List Str} {XP : (Str -> Option Value) -> Heap -> Prop} {YP : World -> Heap -> Prop} {d : DefRec}
  (hn : l.most = some n) (hdf : d.params.defaults = [])
  (call : ∀ (w : World) (s₀ s₁ : Shared) (mg mb : Str -> Option Value) (fa : Addr) (o : Obj) (pm cd doc : Value) (a : Addr) (vs : List Value) (ns : List Int),
   Ground q loose [] XP w s₀ mg mb s₁.heap -> YP w s₁.heap ->
   s₁.heap.get? fa = some o -> o.data = .func (docDef d.name d.params d.body d.scope pm cd doc) -> s₁.heap.CodeRec cd d.name -> mg d.name = some (.ref fa) ->
   s₁.heap.get? a = some { cls := .type "list", data := .seq vs.toArray } -> IntsAre vs ns -> ns.length <= n -> s₁.gens = #[] ->
   codeAny (model l.prog w) callerA (.call (.ref fa) ⟨[.ref a], []⟩) (fun r s' => r = .ok (.ret (.bool true)) /\ OldK s₁.heap s'.heap /\ s'.os = s₁.os /\ AllBare s'.gens) s₁) :
  WalkO q loose XP YP l.row.toRowW d [] (fun f vs => PySem.call f vs) := by
 intro w s₀ s₁ mg mb G Y fa o pm cd doc dV kV ho hd hcd hD hmg hg args vals as hpre hlay hrd hwl hlo
 obtain rfl : dV = .none := Dflts.none hD hdf
 obtain rfl : kV = .none := Dflts.noKw hD
 obtain ⟨a, vs, ns, rfl, rfl, hobj, hints, hlen⟩ := script_of hn hpre hwl
 refine enter_call (codeAny_mono (call w s₀ s₁ mg mb fa o pm cd doc a vs ns G Y ho (fd_plain hd) hcd hmg hobj hints hlen hg) fun r s' hq => ?_)
 obtain ⟨rfl, h2, h3, h4⟩ := hq
 exact ⟨.inl ⟨.bool true, .bool true, [], rfl, fun _ => rfl, .bool true, post_true l _, fun _ => ⟨List.Pairwise.nil, fun _ hm => (nomatch hm)⟩⟩, h2, h3, h4⟩
section
variable {prog : Program} {w : World} {A : Around} {E : Value -> Shared -> Prop} {s : Shared} {K : Frag}
end
end Att
namespace L2
open List
open PySem PySem.Spec PyProof.Rows
section
theorem vals_ints : ∀ {vs : List Value} {ns : List Int}, IntsAre vs ns -> Vals (ns.map V.int) vs
 | _, _, .nil => .nil
 | _, _, .cons n t h => .cons ⟨t, rfl⟩ (vals_ints h)
def Only (H : Hp) : Prop := ∀ b, H b = none \/ ∃ o xs, H b = some (.frz o (.lst xs))
theorem law_call {P : Program} {w : World} {K : W.Frag} {mg mb : Str -> Option Value} {CX : CXT} {k : Nat} {fa a : Addr} {fd : FuncData} {x : Str} {sp : Sp} {s₁ : Shared} {vs : List Value} {ns : List Int}
  (KX : K.In s₁.heap) (hns : s₁.heap.Ns mainGlobals mg) (hb : s₁.heap.Ns builtinsNs mb) (hbb : ∀ x : Str, x ≠ "__name__" -> mb x = bootBuiltins x) (hlim : s₁.heap.NoLimit) (hg : s₁.gens = #[])
  (ha : s₁.heap.get? a = some { cls := .type "list", data := .seq vs.toArray }) (hi : IntsAre vs ns) (hl : ns.length <= sizeLine) (hr : Room k callerA)
  (F : ∀ base : Heap, K.In base -> base.Ns mainGlobals mg -> FnOk P w K mg base CX k fa fd [x] sp) (hbind : ∀ (s : Shared) (u : Value), BindsTo s fd ⟨[u], []⟩ [(x, u)])
  (hsp : ∀ H : Hp, Only H -> SqL K H a (ns.map V.int) -> sp [.ref a] H (fun v _ => v = .bl true) fun _ _ _ => False)
  (hCX : ∀ H e s', CX [] H s₁ (fun _ _ _ => False) e s' -> False) :
  codeAny (model P w) callerA (.call (.ref fa) ⟨[.ref a], []⟩) (fun r s' => r = .ok (.ret (.bool true)) /\ OldK s₁.heap s'.heap /\ s'.os = s₁.os /\ AllBare s'.gens) s₁ := by
 have rv := vals_ints hi
 have lenV := hi.length
 have core : ∀ H : Hp, Only H -> SqL K H a (ns.map V.int) -> HOk P w H s₁.heap -> (∀ b, H b ≠ none -> b = a) -> (H a ≠ none -> K.lookup a = none) ->
   codeAny (model P w) callerA (.call (.ref fa) ⟨[.ref a], []⟩) (fun r s' => r = .ok (.ret (.bool true)) /\ OldK s₁.heap s'.heap /\ s'.os = s₁.os /\ AllBare s'.gens) s₁ := by
  intro H hO hS hok hA hK
  have base_of : ∀ {b : Addr} {o : Obj}, s₁.heap.get? b = some o -> H b = none -> (hidT s₁.heap H).get? b = some o := fun e n => hidT_get e n
  have noA : ∀ {b : Addr} {o : Obj} {es : Array DictEntry} {ep : Nat}, s₁.heap.get? b = some o -> o.data = .dict es ep -> H b = none := fun {b o es ep} e d => by
   cases q : H b with
   | none => rfl
   | some u =>
    have e' : b = a := hA b (by rw [q]; simp)
    subst e'
    rw [ha] at e; cases e
    have d' : Data.seq vs.toArray _ = Data.dict es ep := d
    cases d'
  have nsK : ∀ {b : Addr} {m : Str -> Option Value}, s₁.heap.Ns b m -> (hidT s₁.heap H).Ns b m := fun {b m} ⟨o, es, ep, e, d, r⟩ => ⟨o, es, ep, base_of e (noA e d), d, r⟩
  have hKb : K.In (hidT s₁.heap H) := fun b o e => base_of (KX b o e) (by
   cases q : H b with
   | none => rfl
   | some u =>
    have e' : b = a := hA b (by rw [q]; simp)
    subst e'
    rw [hK (by rw [q]; simp)] at e; cases e)
  have hM : Mod K mg (hidT s₁.heap H) := ⟨hKb, nsK hns, ⟨mb, nsK hb, hbb⟩, let ⟨mc, h1, h2⟩ := hlim; ⟨mc, nsK h1, h2⟩⟩
  have e0 : Env0 P w K mg (hidT s₁.heap H) callerA [] s₁ H := ⟨rfl, hM, fun b o e => of_hidT e, Nat.le_of_eq (hidT_size _ _), trivial, fun b hb => absurd (show b ∈ ([] : List Addr) from hb) (by simp), hok, .of_eq hg⟩
  refine codeAny_mono ((F _ hKb (nsK hns)).run callerA [] s₁ H ⟨[.ref a], []⟩ [.ref a] [.ref a] _ _ hr e0 (hbind s₁ (.ref a)) (.cons rfl .nil) (hsp H hO hS)) fun r s' h => ?_
  cases r with
  | error e => exact (hCX H e s' h).elim
  | ok fl =>
   cases fl with
   | next => exact False.elim h
   | brk => exact False.elim h
   | cont => exact False.elim h
   | ret u =>
    obtain ⟨v, H', os, bare, un, hok', r', q⟩ := h
    have q' : v = .bl true := q
    subst q'
    obtain rfl : u = Value.bool true := r'
    refine ⟨rfl, OldK.of_keep fun b o e => ?_, os, bare⟩
    cases q : H b with
    | none => exact un.keep b o e q (by intro z; exact absurd (show b ∈ ([] : List Addr) from z) (by simp)) (by simp)
    | some u =>
     rcases hO b with z | ⟨ob, xs, z⟩
     ·rw [q] at z; cases z
     ·have z2 := un.frzs b ob _ z
      obtain ⟨e1, _⟩ := hok b _ z
      obtain ⟨e2, _⟩ := hok' b _ z2
      rw [e] at e1; cases e1
      exact e2
 cases hk : K.lookup a with
 | some o =>
  have e := KX a o hk
  rw [ha] at e
  cases e
  refine core (fun _ => none) (fun _ => .inl rfl) (.inr ⟨_, vs.toArray, _, hk, rfl, rfl, rfl, by rw [size_toArray, lenV]; exact hl, by simpa using rv⟩) (fun b u z => by have z' : (none : Option HO) = some u := z; cases z') (fun b z => absurd rfl z) fun z => absurd rfl z
 | none =>
  refine core (fun b => if b = a then some (.frz { cls := .type "list", data := .seq vs.toArray } (.lst (ns.map V.int))) else none) (fun b => ?_) (.inl (.inr ⟨{ cls := .type "list", data := .seq vs.toArray }, if_pos rfl⟩)) (fun b u z => ?_) (fun b z => ?_) fun _ => hk
  ·by_cases hb : b = a
   ·exact .inr ⟨_, _, if_pos hb⟩
   ·exact .inl (if_neg hb)
  ·by_cases hb : b = a
   ·have z' := (if_pos hb).symm.trans z
    cases z'
    subst hb
    exact ⟨ha, by rw [length_map]; exact hl, vs, _, rv, ha⟩
   ·have z' := (if_neg hb).symm.trans z
    cases z'
  ·by_cases hb : b = a
   ·exact hb
   ·exact absurd (if_neg hb) z
end
section
theorem walk_of {l : W.OpenLaw} {n k : Nat} {q : Program} {loose : List Str} {XP : (Str -> Option Value) -> Heap -> Prop} {YP : World -> Heap -> Prop} {d : DefRec} {K : Params -> W.Frag} {CX : World -> CXT} {sp : World -> Sp} {x : Str}
  (hn : l.most = some n) (hn2 : n <= sizeLine) (hdf : d.params.defaults = []) (hr : Room k callerA)
  (hY : ∀ (w : World) (h : Heap), YP w h -> (K w.params).In h)
  (F : ∀ (w : World) (mg : Str -> Option Value) (fa : Addr) (h : Heap), (K w.params).In h -> h.Ns mainGlobals mg -> mg d.name = some (.ref fa) ->
   ∃ fd : FuncData, (∀ (s : Shared) (u : Value), BindsTo s fd ⟨[u], []⟩ [(x, u)]) /\
    ∀ base : Heap, (K w.params).In base -> base.Ns mainGlobals mg -> FnOk l.prog w (K w.params) mg base (CX w) k fa fd [x] (sp w))
  (hsp : ∀ (w : World) (H : Hp) (a : Addr) (ns : List Int), ns.length <= n -> Only H -> SqL (K w.params) H a (ns.map V.int) -> sp w [.ref a] H (fun v _ => v = .bl true) fun _ _ _ => False)
  (hCX : ∀ (w : World) (H : Hp) (s : Shared) (e : Value) (s' : Shared), CX w [] H s (fun _ _ _ => False) e s' -> False) :
  W.WalkO q loose XP YP l.row.toRowW d [] (fun f vs => PySem.call f vs) := by
 refine Att.attach_call hn hdf fun w s₀ s₁ mg mb fa o pm cd doc a vs ns G Y ho hd hcd hmg hobj hints hlen hg => ?_
 have KX := hY w _ Y
 obtain ⟨fd, hb, hF⟩ := F w mg fa _ KX G.T.g hmg
 exact law_call KX G.T.g G.T.b G.T.builtins G.T.nolimit hg hobj hints (Nat.le_trans hlen hn2) hr hF hb (fun H hO hS => hsp w H a ns hlen hO hS) fun H e s' => hCX w H s₁ e s'
end
section
noncomputable def defArgs (s : Stmt) : Arguments := match s with
 | .FunctionDef _ a _ _ _ _ _ _ _ _ => a
 | _ => { posonlyargs := [], args := [], vararg := none, kwonlyargs := [], kw_defaults := [], kwarg := none, defaults := [] }
noncomputable def defBody (s : Stmt) : List Stmt := match s with
 | .FunctionDef _ _ b _ _ _ _ _ _ _ => b
 | _ => []
noncomputable def defScope (s : Stmt) : Scope := match s with
 | .FunctionDef _ _ _ _ _ _ sc _ _ _ => sc
 | _ => { kind := .function, names := [], isGenerator := false, isCoroutine := false }
abbrev CX0 : CXT := fun _ _ _ _ _ _ => False
abbrev E0 : XK := fun _ _ _ => False
theorem pass0 {X : Cx} : Passes CX0 X E0 := fun _ _ _ _ _ _ _ h => h.elim
structure Fun (K : W.Frag) (x qual : Str) (st : Stmt) (f : Addr) (fd : FuncData) : Prop where
 ex : ∃ (oc : Value) (od : Option Addr) (kV doc pm : Value) (an : Option Addr) (cdv ct : Value) (osl : Array (Option Value)),
  fd = W.fnOf x qual (defArgs st) (defBody st) (defScope st) .none kV doc pm an cdv ct /\ K.lookup f = some ⟨oc, od, .func fd, osl⟩ /\ W.codeIn K cdv qual = true
 kp : W.keepIn K (.ref f) = true
section
variable {P : Program} {w : World} {K : W.Frag} {mg : Str -> Option Value} {base : Heap}
theorem Fun.ok {x qual : Str} {st : Stmt} {f : Addr} {fd : FuncData} {N ps : List Str} {k : Nat} {sp : Sp} (F : Fun K x qual st f fd) (S : FnScope N ps (defScope st)) (len : ∀ vs H Q E, sp vs H Q E -> vs.length = ps.length)
  (hbody : ∀ (cdv : Value) (A : Around) (outer : List Env) (s : Shared) (H : Hp) (vs : List V) (Q : VK) (E : XK), Room k (A.deeper (envOfC qual (defScope st) s.heap.objs.size f cdv)) -> sp vs H Q E ->
   ∃ t, PSs (cxOf CX0 P w K mg base N qual (defScope st) f cdv A outer s H E).nox (defBody st) t /\ t { nx := fun _ H' => Q .non H', rt := Q } (start N vs) H) : FnOk P w K mg base CX0 (k + 1) f fd ps sp := by
 obtain ⟨oc, od, kV, doc, pm, an, cdv, ct, osl, rfl, lk, hcd⟩ := F.ex
 refine fn_of lk hcd S len fun A outer s H vs Q E hr hsp => ?_
 obtain ⟨t, h, q⟩ := hbody cdv A outer s H vs Q E hr hsp
 exact ⟨t, h.nox, q⟩
theorem Fun.binds {x qual : Str} {st : Stmt} {f : Addr} {fd : FuncData} {ps : List Str} (F : Fun K x qual st f fd)
  (h : ∀ (kV doc pm : Value) (an : Option Addr) (cdv ct : Value) (us : List Value), us.length = ps.length -> bindArgs (W.fnOf x qual (defArgs st) (defBody st) (defScope st) .none kV doc pm an cdv ct) ⟨us, []⟩ = pure (ps.zip us)) : Binds K fd ps [] := by
 obtain ⟨oc, od, kV, doc, pm, an, cdv, ct, osl, rfl, lk, hcd⟩ := F.ex
 exact .all (h kV doc pm an cdv ct)
theorem fun_mk {x qual : Str} {st : Stmt} {f : Addr} {oc : Value} {od an : Option Addr} {osl : Array (Option Value)} {kV doc pm cdv ct : Value} (l : K.lookup f = some ⟨oc, od, .func (W.fnOf x qual (defArgs st) (defBody st) (defScope st) .none kV doc pm an cdv ct), osl⟩)
  (c : W.codeIn K cdv qual = true) (k : W.keepIn K (.ref f) = true) : Fun K x qual st f (W.fnOf x qual (defArgs st) (defBody st) (defScope st) .none kV doc pm an cdv ct) := ⟨⟨oc, od, kV, doc, pm, an, cdv, ct, osl, rfl, l, c⟩, k⟩
end
section
variable {X : Cx}
theorem pv (i : Nat) {x : Str} {pos : Pos} (hN : X.N[i]? = some x := by rfl) (hv : Vis X.env.scope x := by first | exact Or.inl rfl | exact Or.inr (Or.inl rfl) | exact Or.inr (Or.inr rfl)) (hd : (x == ("__debug__" : Str)) = false := by decide)
  (hcd : (x == ("__classdict__" : Str)) = false := by decide) : PE X (.Name x pos) (tVar i) := pe_var hN hv hd hcd
end
theorem iteF {A B : Prop} (h : B) : if false = true then A else B := by
 rw [if_neg Bool.false_ne_true]
 exact h
theorem iteT {A B : Prop} (h : A) : if true = true then A else B := by
 rw [if_pos rfl]
 exact h
def Same (H H' : Hp) : Prop := ∀ b o, H b = some o -> H' b = some o
theorem Same.refl (H : Hp) : Same H H := fun _ _ h => h
theorem Same.trans {H H1 H2 : Hp} (a : Same H H1) (b : Same H1 H2) : Same H H2 := fun c o h => b c o (a c o h)
theorem Same.free {H H' : Hp} (e : Same H H') {l : Addr} (h : H' l = Option.none) : H l = Option.none := by
 cases q : H l with
 | none => rfl
 | some o =>
  rw [e l o q] at h
  cases h
theorem Same.seq {K : W.Frag} {H H' : Hp} {a : Addr} {xs : List V} (e : Same H H') (h : SqL K H a xs) : SqL K H' a xs := by
 rcases h with (h | ⟨o, h⟩) | h
 ·exact .inl (.inl (e _ _ h))
 ·exact .inl (.inr ⟨o, e _ _ h⟩)
 ·exact .inr h
end
section
noncomputable def clOf (cells : List (Str × Addr)) : List (Str × NameKind) -> List (Str × Addr) -> List (Str × Addr)
 | [], cs => cs
 | (n, k) :: r, cs => if k = .free then (match cells.lookup n with | some c => clOf cells r ((n, c) :: cs) | none => clOf cells r cs) else clOf cells r cs
theorem closure_run {env : Env} : ∀ (names : List (Str × NameKind)) (cs : List (Str × Addr)), (∀ x ∈ names, x.2 = .free -> ∃ c, env.cells.lookup x.1 = some c) ->
  (forIn names cs fun x r => if (x.2 == NameKind.free) = true then do let c ← cellOf env x.1; pure (ForInStep.yield ((x.1, c) :: r)) else pure (ForInStep.yield r) : Sem (List (Str × Addr))) = pure (clOf env.cells names cs)
 | [], cs, _ => rfl
 | (n, k) :: r, cs, h => by
  have hr : ∀ x ∈ r, x.2 = .free -> ∃ c, env.cells.lookup x.1 = some c := fun x hx => h x (mem_cons_of_mem _ hx)
  rw [forIn_cons]
  by_cases hk : k = .free
  ·subst hk
   obtain ⟨c, hc⟩ := h (n, .free) mem_cons_self rfl
   have hc' : env.cells.lookup n = some c := hc
   have e : cellOf env n = pure c := by unfold cellOf; rw [hc']
   simp only [beq_self_eq_true, if_true, e, pure_bind]
   rw [closure_run r _ hr]
   simp only [clOf, if_true, hc']
  ·have hb : (k == NameKind.free) = false := by simpa using hk
   simp only [hb, Bool.false_eq_true, if_false, pure_bind]
   rw [closure_run r cs hr]
   simp only [clOf, hk, if_false]
theorem closureFor_clOf {env : Env} {scope : Scope} (h : ∀ x ∈ scope.names, x.2 = .free -> ∃ c, env.cells.lookup x.1 = some c) : closureFor scope env = pure (clOf env.cells scope.names []) := by
 have q := closure_run (env := env) scope.names [] h
 simp only [closureFor]
 refine Eq.trans ?_ q
 have e : ∀ (m : Sem (List (Str × Addr))), (m >>= fun cs => pure cs) = m := fun m => by simp
 first | (rw [e]; rfl) | rfl | simp
theorem clOf_sub {cells : List (Str × Addr)} {x : Str} {c : Addr} : ∀ (names : List (Str × NameKind)) (cs : List (Str × Addr)), (∀ y d, cs.lookup y = some d -> cells.lookup y = some d) -> (clOf cells names cs).lookup x = some c -> cells.lookup x = some c
 | [], cs, h, e => h x c e
 | (n, k) :: r, cs, h, e => by
  unfold clOf at e
  split at e
  ·split at e
   ·rename_i d hd
    refine clOf_sub r _ (fun y d' q => ?_) e
    rw [lookup_cons] at q
    split at q
    ·rename_i hy
     have : y = n := by simpa using hy
     subst this
     cases q; exact hd
    ·exact h y d' q
   ·exact clOf_sub r cs h e
  ·exact clOf_sub r cs h e
theorem clOf_mono {cells : List (Str × Addr)} {x : Str} : ∀ (names : List (Str × NameKind)) (cs : List (Str × Addr)), (cs.lookup x).isSome = true -> ((clOf cells names cs).lookup x).isSome = true
 | [], cs, h => h
 | (n, k) :: r, cs, h => by
  unfold clOf
  split
  ·split
   ·refine clOf_mono r _ ?_
    rw [lookup_cons]; split
    ·rfl
    ·exact h
   ·exact clOf_mono r cs h
  ·exact clOf_mono r cs h
theorem clOf_has {cells : List (Str × Addr)} {x : Str} {c : Addr} (hc : cells.lookup x = some c) : ∀ (names : List (Str × NameKind)) (cs : List (Str × Addr)), (x, NameKind.free) ∈ names -> ((clOf cells names cs).lookup x).isSome = true
 | [], cs, h => absurd h (by simp)
 | (n, k) :: r, cs, h => by
  unfold clOf
  rcases List.mem_cons.mp h with e | h
  ·cases e
   rw [if_pos rfl, hc]
   refine clOf_mono r _ ?_
   simp [lookup_cons]
  ·split
   ·split
    ·exact clOf_has hc r _ h
    ·exact clOf_has hc r cs h
   ·exact clOf_has hc r cs h
theorem lookup_relabel_free {env : Env} : ∀ {names : List (Str × NameKind)} {x : Str}, names.lookup x = some .free ->
  (names.map fun (n, k) => if (k == NameKind.free && env.scope.kind == .function && env.kindOf n == some .cell) then (n, NameKind.cell) else (n, k)).lookup x = some .cell \/
  (names.map fun (n, k) => if (k == NameKind.free && env.scope.kind == .function && env.kindOf n == some .cell) then (n, NameKind.cell) else (n, k)).lookup x = some .free
 | [], _, h => by simp at h
 | (n, k) :: r, x, h => by
  have ih := @lookup_relabel_free env r x
  show List.lookup x ((if (k == NameKind.free && env.scope.kind == .function && env.kindOf n == some .cell) = true then (n, NameKind.cell) else (n, k)) :: _) = _ \/ List.lookup x ((if (k == NameKind.free && env.scope.kind == .function && env.kindOf n == some .cell) = true then (n, NameKind.cell) else (n, k)) :: _) = _
  by_cases hc : (k == NameKind.free && env.scope.kind == .function && env.kindOf n == some .cell) = true
  ·rw [if_pos hc]
   cases hx : x == n with
   | true => left; simp only [lookup_cons, hx]
   | false => simp only [lookup_cons, hx] at h ⊢; exact ih h
  ·rw [if_neg hc]
   cases hx : x == n with
   | true => right; simp only [lookup_cons, hx] at h ⊢; exact h
   | false => simp only [lookup_cons, hx] at h ⊢; exact ih h
theorem relabel_free_mem {env : Env} : ∀ {names : List (Str × NameKind)} {x : Str} {k : NameKind}, (∀ y ∈ names, y.2 ≠ .cell) ->
  (names.map fun (n, k) => if (k == NameKind.free && env.scope.kind == .function && env.kindOf n == some .cell) then (n, NameKind.cell) else (n, k)).lookup x = some k -> (k = .cell \/ k = .free) -> (x, NameKind.free) ∈ names
 | [], _, _, _, h, _ => by simp at h
 | (n, k') :: r, x, k, hc0, h, hk => by
  have ih := @relabel_free_mem env r x k (fun y hy => hc0 y (mem_cons_of_mem _ hy))
  have h : List.lookup x ((if (k' == NameKind.free && env.scope.kind == .function && env.kindOf n == some .cell) = true then (n, NameKind.cell) else (n, k')) :: _) = _ := h
  by_cases hc : (k' == NameKind.free && env.scope.kind == .function && env.kindOf n == some .cell) = true
  ·rw [if_pos hc] at h
   have hf : k' = .free := by
    have := hc; simp only [Bool.and_eq_true] at this; simpa using this.1.1
   cases hx : x == n with
   | true =>
    have hxn : x = n := by simpa using hx
    subst hxn; subst hf; exact mem_cons_self
   | false => simp only [lookup_cons, hx] at h; exact mem_cons_of_mem _ (ih h hk)
  ·rw [if_neg hc] at h
   cases hx : x == n with
   | true =>
    have hxn : x = n := by simpa using hx
    subst hxn
    simp only [lookup_cons, hx] at h
    have e : k' = k := Option.some.inj h
    subst e
    rcases hk with hk | hk
    ·exact absurd hk (hc0 _ mem_cons_self)
    ·subst hk; exact mem_cons_self
   | false => simp only [lookup_cons, hx] at h; exact mem_cons_of_mem _ (ih h hk)
end
section
structure Blk (X : Cx) (sc : Scope) (N : List Str) (src : List (Option Nat)) : Prop where
 kind : sc.kind = .function
 nocell : ∀ y ∈ sc.names, y.2 ≠ .cell
 names : ∀ y ∈ sc.names, y.2 = .local -> sc.names.lookup y.1 = some .local
 free : ∀ y ∈ sc.names, y.2 = .free -> X.env.kindOf y.1 = some .cell \/ X.env.kindOf y.1 = some .free
 fv : ∀ (j i : Nat), src[j]? = some (some i) -> ∃ x, N[j]? = some x /\ X.N[i]? = some x /\ sc.names.lookup x = some .free
 len : src.length = N.length
noncomputable def blk0 (src : List (Option Nat)) (σ : St) : St := src.map fun o => o.bind fun i => (σ[i]?).join
noncomputable def blkCx (X : Cx) (sc : Scope) (C : Addr) (N : List Str) (fp : List Addr) (s : Shared) (H : Hp) : Cx where
 prog := X.prog
 w := X.w
 K := X.K
 mg := X.mg
 base := X.base
 A := X.A
 N := N
 s₀ := s
 H₀ := H
 env := compEnvC sc (clOf X.env.cells sc.names []) C X.env
 outer := X.stack
 stack := X.stack
 ex := fp
 fn := fun _ => false
 calm := X.calm
 pn := []
 xe := fun _ _ => False
section
variable {X : Cx} {pins : List (Addr × Obj)} {σ : St} {H : Hp} {s : Shared}
theorem Blk.cl {sc : Scope} {N : List Str} {src : List (Option Nat)} (B : Blk X sc N src) (ok : X.Ok) : closureFor sc X.env = pure (clOf X.env.cells sc.names []) :=
 closureFor_clOf fun x hx hk => ok.has x.1 (B.free x hx hk)
theorem cl_sub {sc : Scope} {x : Str} {c : Addr} (h : (clOf X.env.cells sc.names []).lookup x = some c) : X.env.cells.lookup x = some c :=
 clOf_sub sc.names [] (fun y d e => by simp at e) h
theorem blk_start {sc : Scope} {N : List Str} {src : List (Option Nat)} {fp : List Addr} {D C : Addr} {h4 : Heap} {t : Nat} {m : Str -> Option Value}
  (B : Blk X sc N src) (I : Inv X pins σ H s) (hf : ∀ b ∈ fp, FpOk X pins H b) (hfo : ∀ b ∈ fp, ∃ o, s.heap.get? b = some o)
  (hk : ∀ b o, s.heap.get? b = some o -> h4.get? b = some o) (hD : s.heap.objs.size <= D) (hDl : h4.get? D = some { cls := .type "list", data := .seq #[] 0 })
  (hn : h4.Ns C m) (hC : s.heap.objs.size <= C) (hDC : D ≠ C) :
  Inv (blkCx X sc C N fp s H) [] (blk0 src σ) (upd H D (.lst [])) { s with heap := h4, toks := t } := by
 have hHD : H D = none := I.hok.fresh hD
 have hHC : H C = none := I.hok.fresh hC
 have new : ObjOk X.prog X.w (upd H D (.lst [])) h4 D (.lst []) := ⟨Nat.zero_le _, [], 0, .nil, hDl⟩
 have cC : ∀ x c, X.env.cells.lookup x = some c -> c ≠ C := fun x c e z => by
  obtain ⟨v, q⟩ := I.cell x c e
  exact absurd (Nat.lt_of_lt_of_le q.lt (by rw [z]; exact hC)) (Nat.lt_irrefl _)
 have cD : ∀ x c, X.env.cells.lookup x = some c -> c ≠ D := fun x c e z => by
  obtain ⟨v, q⟩ := I.cell x c e
  exact absurd (Nat.lt_of_lt_of_le q.lt (by rw [z]; exact hD)) (Nat.lt_irrefl _)
 refine ⟨⟨I.ok.mod, ?_, I.ok.glob, I.ok.blt, hC, fun x y c h1 h2 => ?_, fun x hx => ?_, fun x c h _ => (by cases h), I.ok.hd, I.ok.frames, .inl rfl, fun b hb => ⟨?_, fun x c e => ?_⟩, I.bs, Nat.le_trans I.ok.bsz I.sz, fun b o e hb => ?_, fun b hb z => ?_, I.stack, I.stkFree⟩,
  rfl, I.bare, Un.laid hk hD hHD, ⟨m, hn, fun i x v e1 e2 e3 => ?_⟩, fun x c e => ?_, ?_, fun x c e => ?_, fun p hp => ?_, I.hok.laid hk hD new, ?_⟩
 ·show (relabel sc X.env).kind = _
  exact B.kind
 ·exact I.ok.inj x y c (cl_sub h1) (cl_sub h2)
 ·have hx' : (∃ k, (relabel sc X.env).names.lookup x = some k /\ (k = .cell \/ k = .free)) := by
   rcases hx with hx | hx
   ·exact ⟨_, hx, .inl rfl⟩
   ·exact ⟨_, hx, .inr rfl⟩
  obtain ⟨k, e, hk'⟩ := hx'
  have hm := relabel_free_mem B.nocell e hk'
  obtain ⟨c, hc'⟩ := I.ok.has x (B.free _ hm rfl)
  exact Option.isSome_iff_exists.mp (clOf_has hc' sc.names [] hm)
 ·obtain ⟨o, e⟩ := hfo b hb
  exact Nat.ne_of_lt (Nat.lt_of_lt_of_le (Heap.lt_size e) hC)
 ·exact (hf b hb).2.2.2.2.1 x c (cl_sub e)
 ·rcases (hf b hb).2.2.2.1 with z | z
  ·exact I.ok.noex b o e z
  ·exact absurd (Nat.lt_of_lt_of_le (Heap.lt_size e) (Nat.le_trans I.ok.bsz z)) (Nat.lt_irrefl _)
 ·rcases List.mem_cons.mp (I.stkSub b z) with z | z
  ·exact (hf b hb).2.1 z
  ·exact (hf b hb).2.2.1 z
 ·have e2' : ∃ k, src[i]? = some (some k) /\ σ[k]? = some (some v) := by
   unfold blk0 at e2
   rw [getElem?_map] at e2
   cases q : src[i]? with
   | none => rw [q] at e2; cases e2
   | some o =>
    rw [q] at e2
    cases o with
    | none => cases e2
    | some k =>
     refine ⟨k, rfl, ?_⟩
     have e2 : (σ[k]?).join = some v := Option.some.inj e2
     cases qq : σ[k]? with
     | none => rw [qq] at e2; cases e2
     | some z => rw [qq] at e2; exact congrArg some e2
  obtain ⟨k, ek, ev⟩ := e2'
  obtain ⟨x', n1, n2, n3⟩ := B.fv i k ek
  have : x' = x := by
   have e1 : N[i]? = some x := e1
   rw [n1] at e1; exact Option.some.inj e1
  subst this
  obtain ⟨m0, hn0, hl0⟩ := I.loc
  have hfk := B.free (x', .free) (PySem.mem_of_lookup n3) rfl
  obtain ⟨u, r, l⟩ := hl0 k x' v n2 ev (by rcases hfk with z | z; exact .inr (.inl z); exact .inr (.inr z))
  refine ⟨u, r, .inr ⟨?_, ?_⟩⟩
  ·exact lookup_relabel_free n3
  ·rcases l with ⟨l, _⟩ | ⟨_, c, ec, z⟩
   ·rcases hfk with q | q <;> (rw [q] at l; cases l)
   ·obtain ⟨c', ec'⟩ := Option.isSome_iff_exists.mp (clOf_has ec sc.names [] (PySem.mem_of_lookup n3))
    have := cl_sub ec'
    rw [ec] at this; cases this
    obtain ⟨o, ho, hd⟩ := z
    exact ⟨c, ec', o, hk c o ho, hd⟩
 ·obtain ⟨v, o, ho, hd⟩ := I.cell x c (cl_sub e)
  exact ⟨v, o, hk c o ho, hd⟩
 ·show upd H D _ C = none
  rw [upd_ne (Ne.symm hDC)]; exact hHC
 ·rw [upd_ne (cD x c (cl_sub e))]; exact I.freeC x c (cl_sub e)
 ·exact absurd (show p ∈ ([] : List (Addr × Obj)) ++ [] from hp) (by simp)
 ·show (blk0 src σ).length = N.length
  unfold blk0; rw [length_map]; exact B.len
end
end
section
abbrev noE : Value -> Shared -> Prop := fun _ _ => False
theorem toE {α : Type} {t : Sem α} {Q Q' : α -> Shared -> Prop} {M : Model} {A : Around} {E : Value -> Shared -> Prop} {s : Shared} (h : wpAny M A t Q noE s) (hQ : ∀ a s, Q a s -> Q' a s) : wpAny M A t Q' E s :=
 wpAny_mono h hQ fun _ _ x => x.elim
noncomputable abbrev compTests (ifs : List Expr) (env : Env) : Sem Bool := forIn ifs true fun c r => if r = true then do let ok ← isTrue c env (eval c env); pure (ForInStep.yield ok) else pure (ForInStep.yield r)
theorem compLoop_any {prog : Program} {w : World} {A : Around} {R : Result -> Shared -> Prop} {s : Shared} {elt target iter : Expr} {ifs : List Expr} {scope : Scope} {pos : Pos} {it acc : Value} {env : Env} (I : Nat -> Shared -> Prop)
  (turn : ∀ n s, I n s -> wpAny (model prog w) A (pyNext it) (fun r s₁ => match r with
   | none => R (.ok .next) s₁
   | some v => wpAny (model prog w) A (letOwnedTupleGo target it v) (fun _ s₁' => wpAny (model prog w) A (assign target env v) (fun _ s₂ =>
     wpAny (model prog w) A (compTests ifs env) (fun ok s₃ =>
      if ok = true then wpAny (model prog w) A (eval elt env) (fun x s₄ =>
       wpAny (model prog w) A (call (.builtin "list.append") [acc, x]) (fun _ s₅ => ∃ m, m < n /\ I m s₅) noE s₄) noE s₃
      else ∃ m, m < n /\ I m s₃) noE s₂) noE s₁') noE s₁) noE s)
  (n : Nat) (h : I n s) :
  codeAny (model prog w) A (.compLoop (.ListComp elt [⟨target, iter, ifs, 0⟩] scope pos) 0 it acc env) R s := by
 refine codeAny_loop rfl I (fun n s hI => ?_) n h
 show wpAny _ A ((compTurn (.ListComp elt [⟨target, iter, ifs, 0⟩] scope pos) 0 it acc env).onRaise (fun x => do noteFrame x env; theTreesLotGoes x)) _ _ s
 refine wpAny_noted ?_
 rw [compTurn_list]
 refine wpAny_bind (wpAny_standAt (wpAny_bind (toE (turn n s hI) (fun r s₁ h₁ => ?_))))
 cases r with
 | none => exact wpAny_pure h₁
 | some v =>
  refine wpAny_bind (toE h₁ fun _ s₁' h₁' => ?_)
  refine wpAny_bind (toE h₁' (fun _ s₂ h₂ => wpAny_bind (toE h₂ (fun ok s₃ h₃ => ?_))))
  cases ok with
  | false => exact wpAny_pure ⟨rfl, h₃⟩
  | true =>
   exact wpAny_bind (wpAny_bind (toE h₃ (fun x s₄ h₄ => wpAny_bind (toE h₄ (fun _ s₅ h₅ => wpAny_pure (wpAny_pure ⟨rfl, h₅⟩))))))
def PTs (X : Cx) (ifs : List Expr) (t : TT) : Prop :=
 ∀ (pins : List (Addr × Obj)) (s : Shared) (σ : St) (H : Hp) (Q : Bool -> Hp -> Prop), Inv X pins σ H s -> t σ H Q -> wpAny (model X.prog X.w) X.A (compTests ifs X.env) (TP X pins σ Q) X.xe s
def tYes : TT := fun _ H Q => Q true H
theorem pts_nil {X : Cx} : PTs X [] tYes := fun pins s σ H Q I h => wpAny_pure ⟨H, I, h⟩
theorem pts_one {X : Cx} {c : Expr} {t : TT} (h : PT X c t) : PTs X [c] t := fun pins s σ H Q I q => wpAny_tests_one (h pins s σ H Q I q)
def tComp (src : List (Option Nat)) (wi : TI) (g : TG) (tc : TT) (te : TE) : TE := fun σ H Q => wi σ H fun J H1 => ∀ D, H1 D = none -> ∃ W : Nat -> Nat -> St -> Hp -> Prop, (∃ m, W 0 m (blk0 src σ) (upd H1 D (.lst []))) /\ ∀ i m σ' H', W i m σ' H' ->
 (J.stop i H' /\ Q (.ref D) H') \/ (J.go i H' /\ ∃ N : St -> Hp -> Prop, (∀ σ2 H2, N σ2 H2 -> ∃ m', m' < m /\ W (i + 1) m' σ2 H2) /\ ∀ x H2, J.yld i H' x H2 -> g x σ' H2 fun σ3 H3 => tc σ3 H3 fun b H4 =>
  if b = true then te σ3 H4 fun y H5 => ∃ xs, H5 D = some (.lst xs) /\ xs.length < sizeLine /\ N σ3 (upd H5 D (.lst (xs ++ [y]))) else N σ3 H4)
section
variable {X : Cx}
theorem comp_block {sc : Scope} {N : List Str} {src : List (Option Nat)} {tg elt iter : Expr} {ifs : List Expr} {pos : Pos} {g : TG} {tc : TT} {te : TE} {cx : Cx -> Prop} (B : Blk X sc N src) (hc : ∀ C fp s H, cx (blkCx X sc C N fp s H))
  (hg : ∀ C fp s H, PG (blkCx X sc C N fp s H) tg g) (ht : ∀ C fp s H, PTs (blkCx X sc C N fp s H) ifs tc) (he : ∀ C fp s H, PE (blkCx X sc C N fp s H) elt te)
  {pins : List (Addr × Obj)} {σ : St} {H : Hp} {s : Shared} {it : Addr} {fp : List Addr} {tn : Nat -> Heap -> Prop} {J : It} {Q : VK} {E : Value -> Shared -> Prop}
  (I : Inv X pins σ H s) (T : TurnC cx X.prog X.w X.K tg J fp it tn) (st : tn 0 s.heap) (hf : ∀ b ∈ fp, FpOk X pins H b)
  (hW : ∀ D, H D = none -> ∃ W : Nat -> Nat -> St -> Hp -> Prop, (∃ m, W 0 m (blk0 src σ) (upd H D (.lst []))) /\ ∀ i m σ' H', W i m σ' H' ->
   (J.stop i H' /\ Q (.ref D) H') \/ (J.go i H' /\ ∃ N : St -> Hp -> Prop, (∀ σ2 H2, N σ2 H2 -> ∃ m', m' < m /\ W (i + 1) m' σ2 H2) /\ ∀ x H2, J.yld i H' x H2 -> g x σ' H2 fun σ3 H3 => tc σ3 H3 fun b H4 =>
    if b = true then te σ3 H4 fun y H5 => ∃ xs, H5 D = some (.lst xs) /\ xs.length < sizeLine /\ N σ3 (upd H5 D (.lst (xs ++ [y]))) else N σ3 H4))
  {RR : Value -> Addr -> Result -> Shared -> Prop}
  (hRR : ∀ D C H' s' m', Inv X pins σ H' s' -> s'.heap.Ns C m' -> H' C = none -> s.heap.objs.size <= C -> Q (.ref D) H' -> RR (.ref D) C (.ok .next) s') :
  wpAny (model X.prog X.w) X.A (newList []) (fun acc s₃ => wpAny (model X.prog X.w) X.A (newFunctionEnv sc X.env.globals (clOf X.env.cells sc.names []) [] X.env.qual none .none (some X.env)) (fun cenv s₄ =>
   codeAny (model X.prog X.w) X.A (.compStart (.ListComp elt [⟨tg, iter, ifs, 0⟩] sc pos) 0 (.ref it) acc { cenv with scope := relabel sc X.env }) (RR acc cenv.locals) s₄) E s₃) E s := by
 refine wpAny_newObj_type (wpAny_newFunctionEnv B.nocell (by intro y hy; simp at hy) (fun h₁ hns₁ hsb₁ => ?_) B.kind)
 dsimp only at hns₁ hsb₁ ⊢
 generalize hH2 : s.heap.push { cls := .type "list", dict := none, data := .seq ([] : List Value).toArray } = H2 at hns₁ hsb₁ ⊢
 have hC : H2.objs.size = s.heap.objs.size + 1 := by rw [<- hH2, Heap.size_push]
 have hDC : s.heap.objs.size ≠ H2.objs.size := by rw [hC]; exact Nat.ne_of_lt (Nat.lt_succ_self _)
 have hCle : s.heap.objs.size <= H2.objs.size := by rw [hC]; exact Nat.le_succ _
 have below : ∀ b, b < s.heap.objs.size -> b ≠ H2.objs.size := fun b hb => by rw [hC]; exact Nat.ne_of_lt (Nat.lt_succ_of_lt hb)
 have old : ∀ b o, s.heap.get? b = some o -> h₁.get? b = some o := fun b o e => hsb₁.extBut b o (below b (Heap.lt_size e)) (Heap.get?_push_of_some _ (hH2 ▸ Heap.get?_push_of_some _ e))
 have hacc : h₁.get? s.heap.objs.size = some { cls := .type "list", data := .seq #[] 0 } := hsb₁.extBut _ _ hDC (Heap.get?_push_of_some _ (hH2 ▸ Heap.get?_push_size _ rfl))
 have hfo : ∀ b ∈ fp, ∃ o, s.heap.get? b = some o := fun b hb => by obtain ⟨o, e, _⟩ := T.obj _ _ st b hb; exact ⟨o, e⟩
 have st1 : tn 0 h₁ := T.keep _ _ _ st fun b _ o e => old b o e
 obtain ⟨W, ⟨m0, w0⟩, turn⟩ := hW s.heap.objs.size I.fresh
 have I1 := blk_start (t := s.toks + ([] : List (Str × Value)).length) B I hf hfo old (Nat.le_refl _) hacc hns₁ hCle hDC
 have stat : ∀ {H' : Hp}, (∀ b ∈ fp, H' b = none) -> ∀ b ∈ fp, FpOk (blkCx X sc H2.objs.size N fp s H) [] H' b := fun {H'} hn b hb => by
  obtain ⟨f0, f1, f2, f3, f4, f5⟩ := hf b hb
  refine ⟨hn b hb, I1.ok.exf b hb |>.1, I1.ok.exfs b hb, .inl hb, fun x c e => f4 x c (cl_sub e), fun p hp => absurd (show p ∈ ([] : List (Addr × Obj)) ++ [] from hp) (by simp)⟩
 have hfD : ∀ b ∈ fp, b ≠ s.heap.objs.size := fun b hb z => by
  obtain ⟨o, e⟩ := hfo b hb
  exact absurd (Heap.lt_size e) (by rw [z]; exact Nat.lt_irrefl _)
 have loop : ∀ s₃ : Shared, s₃ = { s with heap := h₁, toks := s.toks + ([] : List (Str × Value)).length } ->
   codeAny (model X.prog X.w) X.A (.compLoop (.ListComp elt [⟨tg, iter, ifs, 0⟩] sc pos) 0 (.ref it) (.ref s.heap.objs.size) (compEnvC sc (clOf X.env.cells sc.names []) H2.objs.size X.env))
    (RR (.ref s.heap.objs.size) H2.objs.size) s₃ := by
  rintro s₃ rfl
  refine compLoop_any (fun n s' => ∃ i σ' H', Inv (blkCx X sc H2.objs.size N fp s H) [] σ' H' s' /\ tn i s'.heap /\ (∀ b ∈ fp, H' b = none) /\ W i n σ' H') ?_ m0
   ⟨0, _, _, I1, st1, fun b hb => by rw [upd_ne (hfD b hb)]; exact (hf b hb).1, w0⟩
  rintro n s3 ⟨i, σ3, H3, I3, st3, fr3, w3⟩
  rcases turn i n σ3 H3 w3 with ⟨stop, qn⟩ | ⟨go, N', hN', step⟩
  ·refine thn (T.done (blkCx X sc H2.objs.size N fp s H) rfl rfl rfl (hc _ _ _ _) i [] s3 σ3 H3 noE I3 (stat fr3) st3 stop) fun r s4 ⟨hr, I4⟩ => ?_
   subst hr
   obtain ⟨m4, hn4, _⟩ := id I4.loc
   refine hRR _ _ H3 s4 m4 ?_ hn4 I4.free hCle qn
   exact I.call' (ch := fp) I4.os I4.base I4.hok I4.bare fun b hb => ⟨(hf b hb).2.2.2.1, (hf b hb).2.1, (hf b hb).2.2.2.2.1, (hf b hb).2.2.2.2.2⟩
  ·refine thn (T.item (blkCx X sc H2.objs.size N fp s H) rfl rfl rfl (hc _ _ _ _) i [] s3 σ3 H3 noE I3 (stat fr3) st3 go) fun r s4 ⟨u, hr, h4⟩ => ?_
   subst hr
   refine thn h4 fun _ s5 hpat => ?_
   obtain ⟨x, H5, I5, r5, y5, st5, fr5⟩ := hpat
   have I5' := I5.pinned (stat fr5) (T.obj _ _ st5)
   have again : ∀ {s7 : Shared} {σ7 : St} {H7 : Hp}, Inv (blkCx X sc H2.objs.size N fp s H) ([] ++ pinsAt fp s5.heap) σ7 H7 s7 -> N' σ7 H7 -> ∃ m, m < n /\ ∃ i σ' H', Inv (blkCx X sc H2.objs.size N fp s H) [] σ' H' s7 /\ tn i s7.heap /\ (∀ b ∈ fp, H' b = none) /\ W i m σ' H' := fun {s7 σ7 H7} I7 n7 => by
    obtain ⟨m', hm, w7⟩ := hN' σ7 H7 n7
    refine ⟨m', hm, i + 1, σ7, H7, I7.unpinned, T.keep _ _ _ st5 fun b hb o e => (I7.pin (b, o) (mem_append_right _ (mem_append_right _ (mem_pinsAt hb e)))).1, fun b hb => ?_, w7⟩
    obtain ⟨o, e, d⟩ := T.obj _ _ st5 b hb
    exact (I7.pin (b, o) (mem_append_right _ (mem_append_right _ (mem_pinsAt hb e)))).2.1
   refine thn (hg _ _ _ _ _ s5 σ3 H5 x u _ I5' r5 (step x H5 y5)) fun _ s6 hpat => ?_
   obtain ⟨σ6, H6, I6, q6⟩ := hpat
   refine thn (ht _ _ _ _ _ s6 σ6 H6 _ I6 q6) fun ok s7 hpat => ?_
   obtain ⟨H7, I7, q7⟩ := hpat
   cases ok with
   | false =>
    rw [if_neg Bool.false_ne_true] at q7 ⊢
    exact again I7 q7
   | true =>
    rw [if_pos rfl] at q7 ⊢
    refine thn (he _ _ _ _ _ s7 σ6 H7 _ I7 q7) fun y s8 hpat => ?_
    obtain ⟨v8, H8, I8, r8, q8⟩ := hpat
    obtain ⟨xs, hD8, hz8, n8⟩ := q8
    refine thn (mt_append _ s8 σ6 H8 (.ref s.heap.objs.size) [v8] (.ref s.heap.objs.size) [y] (fun _ H9 => H9 = upd H8 s.heap.objs.size (.lst (xs ++ [v8]))) I8 rfl (.cons r8 .nil) ⟨_, xs, v8, rfl, rfl, hD8, hz8, rfl⟩) fun _ s9 hpat => ?_
    obtain ⟨v9, H9, I9, r9, q9⟩ := hpat
    subst q9
    exact again I9 n8
 refine codeAny_compStart_list (loop _ rfl) (toE (T.self X.A 0 { s with heap := h₁, toks := s.toks + ([] : List (Str × Value)).length } (fun v s' => v = .ref it /\ s' = { s with heap := h₁, toks := s.toks + ([] : List (Str × Value)).length }) noE st1 ⟨rfl, rfl⟩) fun v s' hpat => ?_)
 obtain ⟨e1, e2⟩ := hpat
 subst e1; subst e2
 exact loop _ rfl
theorem Inv.letGo {pins : List (Addr × Obj)} {σ : St} {H : Hp} {s s0 : Shared} {C : Addr} {h' : Heap} (I : Inv X pins σ H s) (I0 : ∃ σ0 H0, Inv X pins σ0 H0 s0) (hC : s0.heap.objs.size <= C) (hn : H C = none) (hs : Heap.SameBut C s.heap h') : Inv X pins σ H { s with heap := h' } := by
 obtain ⟨σ0, H0, I0⟩ := I0
 refine I.turned (t' := s.toks) (it := C) (fun b o hb e => (hs.2 b hb).trans e) hn (Nat.ne_of_gt (Nat.lt_of_lt_of_le I0.lt hC)) (.inr (Nat.le_trans I0.sz hC)) (fun x c e z => ?_) fun p hp z => ?_
 ·obtain ⟨v, q⟩ := I0.cell x c e
  exact absurd (Nat.lt_of_lt_of_le q.lt (by rw [z]; exact hC)) (Nat.lt_irrefl _)
 ·exact absurd (Nat.lt_of_lt_of_le (Heap.lt_size (I0.pin p hp).1) (by rw [z]; exact hC)) (Nat.lt_irrefl _)
theorem pe_comp {sc : Scope} {N : List Str} {src : List (Option Nat)} {tg elt iter : Expr} {ifs : List Expr} {pos : Pos} {wi : TI} {g : TG} {tc : TT} {te : TE} (B : Blk X sc N src) (hc : X.calm = true)
  (hi : PI X tg iter wi) (hg : ∀ C fp s H, PG (blkCx X sc C N fp s H) tg g) (ht : ∀ C fp s H, PTs (blkCx X sc C N fp s H) ifs tc) (he : ∀ C fp s H, PE (blkCx X sc C N fp s H) elt te)
  (hs : ∀ x, foldedSetIterable iter X.env x = pure x := by intro _; rfl) :
  PE X (.ListComp elt [⟨tg, iter, ifs, 0⟩] sc pos) (tComp src wi g tc te) := by
 intro pins s σ H Q I h
 rw [eval_ListComp]
 refine wpAny_comprehension_free (use := none) rfl hs (B.cl I.ok) B.kind B.names (wpAny_mono (hi pins s σ H _ I h) (fun xv s₁ h₁ => wpAny_mono h₁ (fun itv s₂ h₂ => ?_) fun _ _ e => e) fun _ _ e => e)
 obtain ⟨it, fp, tn, J, H2, rfl, I2, T, st2, f2, hW⟩ := h₂
 refine comp_block (RR := fun acc C => compPost (model X.prog X.w) X.A X.xe none (EP X pins σ Q) acc C) (Q := Q) B (fun _ _ _ _ => hc) hg ht he I2 T st2 f2 hW ?_
 intro D C H' s' m' I' hn hC hCs q
 exact ⟨m', hn, fun h'' hs'' => ⟨.ref D, H', I'.letGo ⟨_, _, I2⟩ hCs hC hs'', rfl, q⟩⟩
theorem ps_setC {i : Nat} {y : Str} {py : Pos} {sc : Scope} {N : List Str} {src : List (Option Nat)} {tg elt iter : Expr} {ifs : List Expr} {pos spos : Pos} {wi : TI} {g : TG} {tc : TT} {te : TE} (hN : X.N.Nodup) (hi' : X.N[i]? = some y) (hx : Loc X.env.scope y)
  (B : Blk X sc N src) (hc : X.calm = true)
  (hi : PI X tg iter wi) (hg : ∀ C fp s H, PG (blkCx X sc C N fp s H) tg g) (ht : ∀ C fp s H, PTs (blkCx X sc C N fp s H) ifs tc) (he : ∀ C fp s H, PE (blkCx X sc C N fp s H) elt te)
  (hsw : swapsWith (.ListComp elt [⟨tg, iter, ifs, 0⟩] sc pos) (some (.Name y py)) spos.line X.env = pure true := by rfl)
  (hs : ∀ x, foldedSetIterable iter X.env x = pure x := by intro _; rfl) (hf : X.fn y = true \/ X.env.scope.names.lookup y = some .local := by first | exact .inl rfl | exact .inr rfl | assumption) :
  PS X (.Assign [.Name y py] (.ListComp elt [⟨tg, iter, ifs, 0⟩] sc pos) spos) (tAsg (tComp src wi g tc te) (gName i)) := by
 intro pins s σ H Dn I h
 rw [exec_Assign_Name_used _ _ _ _ hsw]
 refine wpAny_bind (wpAny_standAt (wpAny_bind ?_))
 show wpAny _ _ (do let _ ← comprehension (.ListComp elt [⟨tg, iter, ifs, 0⟩] sc pos) sc X.env _ (newList []) false (eval iter X.env) (some (assign (.Name y py) X.env))) _ _ s
 refine wpAny_bind (wpAny_mono (wpAny_comprehension_free (use := some (assign (.Name y py) X.env)) (Q := fun _ s' => SP X pins Dn .next s') rfl hs (B.cl I.ok) B.kind B.names
  (wpAny_mono (hi pins s σ H _ I h) (fun xv s₁ h₁ => wpAny_mono h₁ (fun itv s₂ h₂ => ?_) fun _ _ e => e) fun _ _ e => e)) (fun _ s' hq => wpAny_pure (wpAny_pure hq)) fun _ _ e => e)
 obtain ⟨it, fp, tn, J, H2, rfl, I2, T, st2, f2, hW⟩ := h₂
 refine comp_block (RR := fun acc C => compPost (model X.prog X.w) X.A X.xe (some (assign (.Name y py) X.env)) (fun _ s' => SP X pins Dn .next s') acc C) (Q := fun x H1 => gName i x σ H1 Dn.nx) B (fun _ _ _ _ => hc) hg ht he I2 T st2 f2 hW ?_
 intro D C H' s' m' I' hn hC hCs q
 show wpAny _ _ (assign (.Name y py) X.env (.ref D)) _ _ _
 refine wpAny_assign_Name (store_ok2 I' hN hi' hx (v := .ref D) rfl (fun s'' I'' hpat => ?_) hf)
 obtain ⟨a, hsb, ha⟩ := hpat
 have hCa : C ≠ a := fun z => by
  rcases ha with ha | ha
  ·have := I2.lt; rw [<- ha, <- z] at this
   exact absurd (Nat.lt_of_lt_of_le this hCs) (Nat.lt_irrefl _)
  ·obtain ⟨v, qv⟩ := I2.cell y a ha
   exact absurd (Nat.lt_of_lt_of_le qv.lt (by rw [<- z]; exact hCs)) (Nat.lt_irrefl _)
 exact ⟨m', hn.sameBut hsb hCa, fun h'' hs'' => ⟨_, H', I''.letGo ⟨_, _, I2⟩ hCs hC hs'', q⟩⟩
end
end
section
section
variable {X : Cx} {pins : List (Addr × Obj)} {σ : St} {H : Hp} {s : Shared} {h' : Heap}
theorem Inv.turnedL {t' : Nat} {fp : List Addr} (I : Inv X pins σ H s) (k : ∀ b o, b ∉ fp -> s.heap.get? b = some o -> h'.get? b = some o) (hf : ∀ b ∈ fp, FpOk X pins H b) : Inv X pins σ H { s with heap := h', toks := t' } := by
 have nit : ∀ b u, H b = some u -> b ∉ fp := fun b u e z => by rw [(hf b z).1] at e; cases e
 refine I.step (g' := s.gens) (d' := s.drawn) (ch := fp) (fun b hb => ⟨(hf b hb).2.2.2.1, (hf b hb).2.1, (hf b hb).2.2.2.2.1, (hf b hb).2.2.2.2.2⟩) (fun b o _ _ hc e _ => k b o hc e) (fun b o _ _ hc e _ => ⟨o.slots, k b o hc e⟩) (fun _ _ _ _ n => n)
  (fun b o hc e => ⟨o, k b o hc e⟩) (fun _ _ e => e) (fun _ _ _ e => e) (fun b ps e => ⟨#[], by rw [e]; simp⟩) (fun m hm => ?_) (fun b u e => ?_) I.bare
 ·obtain ⟨o, es, ep, ho, r⟩ := hm
  exact ⟨o, es, ep, k _ o (fun z => (hf _ z).2.1 rfl) ho, r⟩
 ·refine (I.hok b u e).stay (fun c v hc q => k c v ?_ q) (fun _ q => q) fun _ _ q => q
  rcases hc with z | z
  ·rw [z]; exact nit b u e
  ·exact nit c _ z
theorem Inv.turnedN {t' : Nat} {fp : List Addr} {T : Addr} {o : HO} (I : Inv X pins σ H s) (k : ∀ b o, b ∉ fp -> s.heap.get? b = some o -> h'.get? b = some o) (hf : ∀ b ∈ fp, FpOk X pins H b) (hT : s.heap.objs.size <= T)
  (new : ObjOk X.prog X.w (upd H T o) h' T o) : Inv X pins σ (upd H T o) { s with heap := h', toks := t' } := by
 have hn : H T = none := I.hok.fresh hT
 have ne : ∀ b u, s.heap.get? b = some u -> b ≠ T := fun b u e z => absurd (Nat.lt_of_lt_of_le (Heap.lt_size e) (by rw [z]; exact hT)) (Nat.lt_irrefl _)
 have nit : ∀ b u, H b = some u -> b ∉ fp := fun b u e z => by rw [(hf b z).1] at e; cases e
 refine I.step (g' := s.gens) (d' := s.drawn) (ch := fp) (fun b hb => ⟨(hf b hb).2.2.2.1, (hf b hb).2.1, (hf b hb).2.2.2.2.1, (hf b hb).2.2.2.2.2⟩) (fun b o _ _ hc e _ => k b o hc e) (fun b o _ _ hc e _ => ⟨o.slots, k b o hc e⟩) (fun b o _ e n => by rw [upd_ne (ne b o e)]; exact n)
  (fun b o hc e => ⟨o, k b o hc e⟩) (fun b xs e => by rw [upd_ne (ne_of_none e hn)]; exact e) (fun b _ _ e => by rw [upd_ne (ne_of_none e hn)]; exact e) (fun b ps e => ⟨#[], by rw [upd_ne (ne_of_none e hn), e]; simp⟩) (fun m hm => ?_) (fun b u e => ?_) I.bare
 ·obtain ⟨o, es, ep, ho, r⟩ := hm
  exact ⟨o, es, ep, k _ o (fun z => (hf _ z).2.1 rfl) ho, r⟩
 ·by_cases hb : b = T
  ·subst hb; rw [upd_same] at e; cases e; exact new
  ·rw [upd_ne hb] at e
   refine (I.hok b u e).stay (fun c v hc q => k c v ?_ q) (fun c q => by rw [upd_ne (ne_of_none q hn)]; exact q) fun c xs q => by rw [upd_ne (ne_of_none q hn)]; exact q
   rcases hc with z | z
   ·rw [z]; exact nit b u e
   ·exact nit c _ z
end
noncomputable def Itz2 (K : W.Frag) (l1 l2 : Addr) : It :=
 ⟨fun i H => ∃ xs ys x y, SqL K H l1 xs /\ SqL K H l2 ys /\ xs[i]? = some x /\ ys[i]? = some y,
  fun i H v H' => ∃ t x y, v = .ref t /\ H t = none /\ H' = upd H t (.tup [x, y]) /\ (∀ xs, SqL K H l1 xs -> xs[i]? = some x) /\ (∀ ys, SqL K H l2 ys -> ys[i]? = some y),
  fun i H => ∃ xs ys, SqL K H l1 xs /\ SqL K H l2 ys /\ (xs.length <= i \/ ys.length <= i)⟩
structure Zip2 (z TI TO i1 i2 : Addr) : Prop where
 TIz : TI ≠ z
 TOz : TO ≠ z
 i1z : i1 ≠ z
 i2z : i2 ≠ z
 TITO : TI ≠ TO
 TIi1 : TI ≠ i1
 TIi2 : TI ≠ i2
 TOi1 : TO ≠ i1
 TOi2 : TO ≠ i2
 i12 : i1 ≠ i2
theorem ne_cls {h : Heap} {a b : Addr} {o u : Obj} (e : h.get? a = some o) (e' : h.get? b = some u) (d : o.cls ≠ u.cls) : a ≠ b := by
 intro z; subst z; rw [e] at e'; exact d (congrArg Obj.cls (Option.some.inj e'))
theorem list_ne_of {n : String} (h : ("list" == n) = false) : Value.type "list" ≠ Value.type n := fun e => by cases e; revert h; decide
theorem zip2_new (n : Nat) : Zip2 (n + 4) (n + 2) (n + 3) n (n + 1) := by
 constructor <;> (show ((_ : Nat) ≠ _); omega)
theorem zip2_apart {h : Heap} {z TI TO i1 i2 l1 l2 : Addr} {its1 its2 : Array Value} {a b f0 : Value} {k1 k2 : Nat} (D : Zip2 z TI TO i1 i2) (hz : IsZip h z TI TO f0) (hTO : IsPair h TO a b) (h1 : h.IsListIter i1 l1 k1) (h2 : h.IsListIter i2 l2 k2)
  (p1 : h.IsList l1 its1) (p2 : h.IsList l2 its2) : ZipApart z TI TO i1 i2 l1 l2 := by
 obtain ⟨o1, e1, c1, _⟩ := h1
 obtain ⟨o2, e2, c2, _⟩ := h2
 obtain ⟨p1o, pe1, pc1, _⟩ := p1
 obtain ⟨p2o, pe2, pc2, _⟩ := p2
 exact ⟨D.TIz, D.TOz, D.i1z, D.i2z, D.TITO, D.TIi1, D.TIi2, D.TOi1, D.TOi2, D.i12,
  ne_cls pe1 hz (by rw [pc1]; exact list_ne_of (by decide)), ne_cls pe1 hTO (by rw [pc1]; exact list_ne_of (by decide)), ne_cls pe1 e1 (by rw [pc1, c1]; decide), ne_cls pe1 e2 (by rw [pc1, c2]; decide),
  ne_cls pe2 hz (by rw [pc2]; exact list_ne_of (by decide)), ne_cls pe2 hTO (by rw [pc2]; exact list_ne_of (by decide)), ne_cls pe2 e1 (by rw [pc2, c1]; decide), ne_cls pe2 e2 (by rw [pc2, c2]; decide)⟩
theorem turn_zip2 {P : Program} {w : World} {K : W.Frag} {es : List Expr} {tk : Nat} {tp : Pos} (z TI TO i1 i2 l1 l2 : Addr) (D : Zip2 z TI TO i1 i2) :
  Turn P w K (.Tuple es tk tp) (Itz2 K l1 l2) [z, TI, TO, i1, i2] z
   (fun i h => IsZip h z TI TO .none /\ IsPair h TI (.ref i1) (.ref i2) /\ (∃ a b, IsPair h TO a b) /\ h.IsListIter i1 l1 i /\ h.IsListIter i2 l2 i) where
 mem := by simp
 obj := fun i h st b hb => by
  obtain ⟨hz, hTI, ⟨a, c, hTO⟩, ⟨o1, e1, _, d1⟩, ⟨o2, e2, _, d2⟩⟩ := st
  simp only [mem_cons, not_mem_nil, or_false] at hb
  rcases hb with rfl | rfl | rfl | rfl | rfl
  ·exact ⟨_, hz, fun v q => by cases q⟩
  ·exact ⟨_, hTI, fun v q => by cases q⟩
  ·exact ⟨_, hTO, fun v q => by cases q⟩
  ·exact ⟨_, e1, fun v q => by rw [d1] at q; cases q⟩
  ·exact ⟨_, e2, fun v q => by rw [d2] at q; cases q⟩
 keep := fun i h h' st k => by
  obtain ⟨hz, hTI, ⟨a, c, hTO⟩, h1, h2⟩ := st
  exact ⟨k z (by simp) _ hz, k TI (by simp) _ hTI, ⟨a, c, k TO (by simp) _ hTO⟩, h1.at fun o e => k i1 (by simp) o e, h2.at fun o e => k i2 (by simp) o e⟩
 item := by
  intro X hP hw hK hc i pins s σ H E I hf st hg
  subst hP hw hK
  obtain ⟨xs, ys, x, y, hq1, hq2, hx, hy⟩ := hg
  obtain ⟨its1, rv1, p1, _⟩ := I.list hq1
  obtain ⟨its2, rv2, p2, _⟩ := I.list hq2
  obtain ⟨u, hu, ru⟩ := rv1.get hx
  obtain ⟨v, hv, rw'⟩ := rv2.get hy
  obtain ⟨hz, hTI, ⟨a, b, hTO⟩, h1, h2⟩ := st
  have Z := zip2_apart D hz hTO h1 h2 p1.isList p2.isList
  refine wpAny_pyNext_zip_item Z hz hTI hTO h1 h2 p1.isList p2.isList (x := u) (y := v) (by simpa using hu) (by simpa using hv) fun h' a1 a2 a3 a4 a5 a6 hk => ?_
  refine ⟨_, rfl, ?_⟩
  refine wpAny_letOwnedTupleGo_zip a1 fun h'' hz'' hs'' => ?_
  have hzs : z < s.heap.objs.size := Heap.lt_size hz
  have kk : ∀ c o, c ∉ [z, TI, TO, i1, i2] -> s.heap.get? c = some o -> h''.get? c = some o := fun c o hc e => by
   simp only [mem_cons, not_mem_nil, or_false, not_or] at hc
   exact hs''.extBut _ _ hc.1 (hk c o hc.1 hc.2.2.1 hc.2.2.2.1 hc.2.2.2.2 e)
  have hT : h''.get? s.heap.objs.size = some { cls := .type "tuple", data := .seq #[u, v] } := hs''.extBut _ _ (Nat.ne_of_gt hzs) a5
  have I2 : Inv X pins σ (upd H s.heap.objs.size (.tup [x, y])) { s with heap := h'', toks := s.toks } :=
   I.turnedN (T := s.heap.objs.size) (o := .tup [x, y]) kk hf (Nat.le_refl _) ⟨by show 2 <= sizeLine; decide, [u, v], .cons ru (.cons rw' .nil), ⟨_, hT, rfl, _, rfl⟩⟩
  refine ⟨.ref s.heap.objs.size, _, I2, rfl, ⟨_, x, y, rfl, I.fresh, rfl, fun zs hzs' => by rw [I.list_inj hzs' hq1]; exact hx, fun zs hzs' => by rw [I.list_inj hzs' hq2]; exact hy⟩,
   ⟨hz'', hs''.extBut _ _ D.TIz (hk _ _ D.TIz D.TITO D.TIi1 D.TIi2 hTI), ⟨_, _, hs''.extBut _ _ D.TOz a2⟩, a3.extBut hs''.extBut D.i1z, a4.extBut hs''.extBut D.i2z⟩, fun c hc' => ?_⟩
  have hlt : c < s.heap.objs.size := by
   obtain ⟨o1, e1, _⟩ := h1
   obtain ⟨o2, e2, _⟩ := h2
   simp only [mem_cons, not_mem_nil, or_false] at hc'
   rcases hc' with rfl | rfl | rfl | rfl | rfl
   ·exact hzs
   ·exact Heap.lt_size hTI
   ·exact Heap.lt_size hTO
   ·exact Heap.lt_size e1
   ·exact Heap.lt_size e2
  rw [upd_ne (Nat.ne_of_lt hlt)]
  exact (hf c hc').1
 done := by
  intro X hP hw hK hc i pins s σ H E I hf st hg
  subst hP hw hK
  obtain ⟨xs, ys, hq1, hq2, hl⟩ := hg
  obtain ⟨its1, rv1, p1, _⟩ := I.list hq1
  obtain ⟨its2, rv2, p2, _⟩ := I.list hq2
  obtain ⟨hz, hTI, ⟨a, b, hTO⟩, h1, h2⟩ := st
  have Z := zip2_apart D hz hTO h1 h2 p1.isList p2.isList
  have l1' := rv1.length
  have l2' := rv2.length
  refine wpAny_pyNext_zip_end (I.ok.hd hc) Z hz hTI hTO h1 h2 p1.isList p2.isList (hl.elim (fun q => .inl (by simp; omega)) fun q => .inr (by simp; omega)) fun h' hk => ⟨rfl, ?_⟩
  exact I.turnedL (t' := s.toks) (fun c o hc e => by
   simp only [mem_cons, not_mem_nil, or_false, not_or] at hc
   exact hk c o hc.1 hc.2.2.1 hc.2.2.2.1 hc.2.2.2.2 e) hf
 self := fun _ _ _ _ _ st h => wpAny_pyIter_zip st.1 h
section
variable {X : Cx}
def iZip2 (K : W.Frag) (ta : TA) : TI := fun σ H R => ta σ H fun vs H1 => ∃ a b xs ys, vs = [.ref a, .ref b] /\ SqL K H1 a xs /\ SqL K H1 b ys /\ R (Itz2 K a b) H1
theorem pi_zip2 {a b : Expr} {ta : TA} {p pos : Pos} {es : List Expr} {tk : Nat} {tp : Pos} (hg : Gl X "zip") (hm : X.mg "zip" = none) (ha : PA X [a, b] ta) (hs : starEach [a, b] X.env = [(false, eval a X.env), (false, eval b X.env)] := by rfl) (hs2 : starEach [b] X.env = [(false, eval b X.env)] := by rfl) :
  PI X (.Tuple es tk tp) (.Call (.Name "zip" p) [a, b] [] pos) (iZip2 X.K ta) := by
 intro pins s σ H R I h
 refine Call_ (ld_blt I hg hm boot_zip (PyProof.Rows.callWith_type1 (thn (ha pos pins s σ H _ I h) fun us s1 hpat => ?_) (by rw [hs, hs2]) (by rw [hs2]; rfl)))
 obtain ⟨vs, H1, I1, r1, q1⟩ := hpat
 obtain ⟨l1, l2, xs, ys, e, q1, q2, q⟩ := q1
 subst e
 cases r1 with
 | cons r rr =>
  cases rr with
  | cons r' rr =>
   cases rr
   cases r
   cases r'
   obtain ⟨its1, rv1, p1, _⟩ := I1.list q1
   obtain ⟨its2, rv2, p2, _⟩ := I1.list q2
   refine call_zip_2 p1.isList p2.isList fun h' hz hTI hTO hi1 hi2 hsz hk => ?_
   have I2 : Inv X pins σ H1 { s1 with heap := h', toks := s1.toks } := I1.kept hk
   refine wpAny_pyIter_zip (s := { s1 with heap := h' }) hz ?_
   refine ⟨_, [s1.heap.objs.size + 4, s1.heap.objs.size + 2, s1.heap.objs.size + 3, s1.heap.objs.size, s1.heap.objs.size + 1], _, _, H1, rfl, I2, turn_zip2 _ _ _ _ _ l1 l2 (zip2_new _),
    ⟨hz, hTI, ⟨_, _, hTO⟩, hi1, hi2⟩, fun b hb => ?_, q⟩
   have hb' : s1.heap.objs.size <= b := by
    simp only [mem_cons, not_mem_nil, or_false] at hb
    rcases hb with rfl | rfl | rfl | rfl | rfl
    ·exact Nat.le_add_right _ 4
    ·exact Nat.le_add_right _ 2
    ·exact Nat.le_add_right _ 3
    ·exact Nat.le_refl _
    ·exact Nat.le_add_right _ 1
   exact I1.fpOk hb' (I1.hok.fresh hb')
end
end
section
structure Zip3 (z TI TO i1 i2 i3 : Addr) : Prop where
 TIz : TI ≠ z
 TOz : TO ≠ z
 i1z : i1 ≠ z
 i2z : i2 ≠ z
 i3z : i3 ≠ z
 TITO : TI ≠ TO
 TIi1 : TI ≠ i1
 TIi2 : TI ≠ i2
 TIi3 : TI ≠ i3
 TOi1 : TO ≠ i1
 TOi2 : TO ≠ i2
 TOi3 : TO ≠ i3
 i12 : i1 ≠ i2
 i13 : i1 ≠ i3
 i23 : i2 ≠ i3
structure Apart3 (z TO i1 i2 i3 l : Addr) : Prop where
 lz : l ≠ z
 lTO : l ≠ TO
 l1 : l ≠ i1
 l2 : l ≠ i2
 l3 : l ≠ i3
section
variable {prog : Program} {w : World} {A : Around} {E : Value -> Shared -> Prop} {s : Shared}
end
section
variable {X : Cx}
end
section
variable {X : Cx}
end
end
section
def XAt (a C : Addr) (h : Heap) : Prop := ∃ o vs, h.get? a = some o /\ o.cls = .ref C /\ o.data = .fields vs /\ vs[2]? = some .none
noncomputable def xName (K : W.Frag) (C : Addr) : Option Str := match K.lookup C with
 | some ⟨_, _, .cls cd, _⟩ => some cd.name
 | _ => none
inductive D where
 | non | bl (b : Bool) | int (i : Int) | str (x : Str) | lst (ds : List D) | tup (ds : List D) | exc (c : Str)
 | ptr (a : Addr) | obj (c : Str) (ns : List Str) (ds : List D)
mutual
inductive Rep (K : W.Frag) (F : Hp) : V -> D -> Prop
 | non : Rep K F .non .non
 | bl (b : Bool) : Rep K F (.bl b) (.bl b)
 | int (i : Int) : Rep K F (.int i) (.int i)
 | str (x : Str) : Rep K F (.str x) (.str x)
 | lst {a : Addr} {xs : List V} {ds : List D} : SqL K F a xs -> Reps K F xs ds -> Rep K F (.ref a) (.lst ds)
 | tup {a : Addr} {xs : List V} {ds : List D} : SqT K F a xs -> Reps K F xs ds -> Rep K F (.ref a) (.tup ds)
 | exc {a C : Addr} {c : Str} : (W.nsIn K mainGlobals c = some (some (.ref C)) /\ xName K C = some c) -> F a = some (.ext (XAt a C)) -> Rep K F (.ref a) (.exc c)
 | ptr (a : Addr) : Rep K F (.ref a) (.ptr a)
 | obj {a dx C : Addr} {c : Str} {ns : List Str} {xs : List V} {ds : List D} : W.nsIn K mainGlobals c = some (some (.ref C)) -> ns.length = xs.length -> F a = some (.ins C dx (ns.zip xs)) -> F dx = some (.own a) -> Reps K F xs ds -> Rep K F (.ref a) (.obj c ns ds)
inductive Reps (K : W.Frag) (F : Hp) : List V -> List D -> Prop
 | nil : Reps K F [] []
 | cons {v : V} {d : D} {vs : List V} {ds : List D} : Rep K F v d -> Reps K F vs ds -> Reps K F (v :: vs) (d :: ds)
end
theorem Same.seqT {K : W.Frag} {H H' : Hp} {a : Addr} {xs : List V} (e : Same H H') (h : SqT K H a xs) : SqT K H' a xs := by
 rcases h with (h | ⟨o, h⟩) | h
 ·exact .inl (.inl (e _ _ h))
 ·exact .inl (.inr ⟨o, e _ _ h⟩)
 ·exact .inr h
section
variable {K : W.Frag} {F F' : Hp}
mutual
theorem Rep.mono (e : Same F F') : ∀ {v : V} {d : D}, Rep K F v d -> Rep K F' v d
 | _, _, .non => .non
 | _, _, .bl b => .bl b
 | _, _, .int i => .int i
 | _, _, .str x => .str x
 | _, _, .lst h r => .lst (e.seq h) (Reps.mono e r)
 | _, _, .tup h r => .tup (e.seqT h) (Reps.mono e r)
 | _, _, .exc h r => .exc h (e _ _ r)
 | _, _, .ptr a => .ptr a
 | _, _, .obj c l h h2 r => .obj c l (e _ _ h) (e _ _ h2) (Reps.mono e r)
theorem Reps.mono (e : Same F F') : ∀ {vs : List V} {ds : List D}, Reps K F vs ds -> Reps K F' vs ds
 | _, _, .nil => .nil
 | _, _, .cons h r => .cons (Rep.mono e h) (Reps.mono e r)
end
theorem Reps.length : ∀ {vs : List V} {ds : List D}, Reps K F vs ds -> vs.length = ds.length
 | _, _, .nil => rfl
 | _, _, .cons _ r => congrArg (· + 1) (Reps.length r)
theorem Reps.get : ∀ {vs : List V} {ds : List D} {i : Nat} {d : D}, Reps K F vs ds -> ds[i]? = some d -> ∃ v, vs[i]? = some v /\ Rep K F v d
 | _, _, _, _, .nil, e => by simp at e
 | _, _, 0, _, .cons h _, e => by simp at e; subst e; exact ⟨_, rfl, h⟩
 | _, _, i + 1, d, .cons _ r, e => by
  obtain ⟨v, h1, h2⟩ := Reps.get (i := i) (d := d) r (by simpa using e)
  exact ⟨v, by simpa using h1, h2⟩
theorem Reps.get' : ∀ {vs : List V} {ds : List D} {i : Nat} {v : V}, Reps K F vs ds -> vs[i]? = some v -> ∃ d, ds[i]? = some d /\ Rep K F v d
 | _, _, _, _, .nil, e => by simp at e
 | _, _, 0, _, .cons h _, e => by simp at e; subst e; exact ⟨_, rfl, h⟩
 | _, _, i + 1, d, .cons _ r, e => by
  obtain ⟨v, h1, h2⟩ := Reps.get' (i := i) (v := d) r (by simpa using e)
  exact ⟨v, by simpa using h1, h2⟩
theorem Reps.append : ∀ {vs ws : List V} {ds es : List D}, Reps K F vs ds -> Reps K F ws es -> Reps K F (vs ++ ws) (ds ++ es)
 | _, _, _, _, .nil, s => s
 | _, _, _, _, .cons h r, s => .cons h (Reps.append r s)
theorem Reps.take : ∀ {vs : List V} {ds : List D} (n : Nat), Reps K F vs ds -> Reps K F (vs.take n) (ds.take n)
 | _, _, 0, _ => .nil
 | _, _, _ + 1, .nil => .nil
 | _, _, n + 1, .cons h r => .cons h (Reps.take n r)
theorem Reps.drop : ∀ {vs : List V} {ds : List D} (n : Nat), Reps K F vs ds -> Reps K F (vs.drop n) (ds.drop n)
 | _, _, 0, r => r
 | _, _, _ + 1, .nil => .nil
 | _, _, n + 1, .cons _ r => Reps.drop n r
theorem Reps.set {v : V} {d : D} (h : Rep K F v d) : ∀ {vs : List V} {ds : List D} (i : Nat), Reps K F vs ds -> Reps K F (vs.set i v) (ds.set i d)
 | _, _, _, .nil => .nil
 | _, _, 0, .cons _ r => .cons h r
 | _, _, i + 1, .cons q r => .cons q (Reps.set h i r)
end
structure Ext (F H F' H' : Hp) : Prop where
 ff : Same F F'
 hh : Same H H'
 fh : Same F' H'
 new : ∀ b, F b = none -> F' b ≠ none -> H b = none
 nf : ∀ b o u, F' b = some (.frz o u) -> F b = some (.frz o u)
theorem Ext.refl {F H : Hp} (h : Same F H) : Ext F H F H := ⟨Same.refl _, Same.refl _, h, fun b e n => absurd e n, fun _ _ _ z => z⟩
theorem Ext.trans {F H F1 H1 F2 H2 : Hp} (a : Ext F H F1 H1) (b : Ext F1 H1 F2 H2) : Ext F H F2 H2 :=
 ⟨a.ff.trans b.ff, a.hh.trans b.hh, b.fh, fun c e n => by
  by_cases h : F1 c = none
  ·exact a.hh.free (b.new c h n)
  ·exact a.new c e h, fun c o u z => a.nf c o u (b.nf c o u z)⟩
theorem Same.put {F H : Hp} {p : Addr} {o : HO} (h : Same F H) (hp : F p = none) : Same F (upd H p o) := fun b u e => by
 rw [upd_ne (ne_of_none e hp)]; exact h b u e
theorem Same.put2 {F H : Hp} {p : Addr} {o : HO} (h : Same F H) : Same (upd F p o) (upd H p o) := fun b u e => by
 by_cases hb : b = p
 ·subst hb; rw [upd_same] at e ⊢; exact e
 ·rw [upd_ne hb] at e ⊢; exact h b u e
theorem Ext.laid {F H : Hp} {p : Addr} {o : HO} (h : Same F H) (hp : H p = none) (hz : ∀ a u, o ≠ .frz a u := by intro _ _ z; cases z) : Ext F H (upd F p o) (upd H p o) :=
 ⟨(Same.refl F).put (h.free hp), (Same.refl H).put hp, h.put2, fun b e n => by
  by_cases hb : b = p
  ·subst hb; exact hp
  ·rw [upd_ne hb] at n; exact absurd e n, fun b a u z => by
  by_cases hb : b = p
  ·subst hb; rw [upd_same] at z; exact absurd (Option.some.inj z) (hz a u)
  ·rw [upd_ne hb] at z; exact z⟩
theorem Ext.own {F H : Hp} {p : Addr} {o : HO} (h : Same F H) (hp : H p = none) : Ext F H F (upd H p o) :=
 ⟨Same.refl F, (Same.refl H).put hp, h.put (h.free hp), fun b e n => absurd e n, fun _ _ _ z => z⟩
theorem Ext.freeze {F H F' H' : Hp} {p : Addr} {o : HO} (a : Ext F H F' H') (hp' : F' p = none) (hp : H p = none) (ho : H' p = some o) (hz : ∀ a u, o ≠ .frz a u := by intro _ _ z; cases z) : Ext F H (upd F' p o) H' :=
 ⟨a.ff.put (a.ff.free hp'), a.hh, fun b u e => by
   by_cases hb : b = p
   ·subst hb; rw [upd_same] at e; cases e; exact ho
   ·rw [upd_ne hb] at e; exact a.fh b u e, fun b e n => by
   by_cases hb : b = p
   ·subst hb; exact hp
   ·rw [upd_ne hb] at n; exact a.new b e n, fun b c u z => by
   by_cases hb : b = p
   ·subst hb; rw [upd_same] at z; exact absurd (Option.some.inj z) (hz c u)
   ·rw [upd_ne hb] at z; exact a.nf b c u z⟩
inductive S where
 | sh (d : D) | own (ds : List D) | ob (p : Addr) (ds : List D)
noncomputable abbrev Ro := List (Option S)
structure Rl (K : W.Frag) (F0 H0 F H : Hp) (σ : St) (ρ : Ro) : Prop where
 ext : Ext F0 H0 F H
 len : σ.length = ρ.length
 sh : ∀ (i : Nat) d, ρ[i]? = some (some (.sh d)) -> ∃ v, σ[i]? = some (some v) /\ Rep K F v d
 own : ∀ (i : Nat) ds, ρ[i]? = some (some (.own ds)) -> ∃ p xs, σ[i]? = some (some (.ref p)) /\ F p = none /\ H p = some (.lst xs) /\ Reps K F xs ds /\ H0 p = none
 inj : ∀ (i j : Nat) p ds es, i ≠ j -> ρ[i]? = some (some (.own ds)) -> ρ[j]? = some (some (.own es)) -> σ[i]? = some (some (.ref p)) -> σ[j]? = some (some (.ref p)) -> False
 ob : ∀ (i : Nat) p ds, ρ[i]? = some (some (.ob p ds)) -> σ[i]? = some (some (.ref p)) /\ F p = none /\ H0 p = none /\ ∃ xs, H p = some (.lst xs) /\ Reps K F xs ds
 obn : ∀ (i j : Nat) p ds es, ρ[i]? = some (some (.ob p ds)) -> ρ[j]? = some (some (.own es)) -> σ[j]? = some (some (.ref p)) -> False
 ob1 : ∀ (i j : Nat) p q ds es, ρ[i]? = some (some (.ob p ds)) -> ρ[j]? = some (some (.ob q es)) -> i = j
noncomputable def nob : Option S -> Prop
 | some (.ob _ _) => False
 | _ => True
theorem set_ob {ρ : Ro} {i j : Nat} {x : Option S} {p : Addr} {ds : List D} (e : (ρ.set i x)[j]? = some (some (.ob p ds))) (hx : nob x := by exact True.intro) : i ≠ j /\ ρ[j]? = some (some (.ob p ds)) := by
 by_cases hj : i = j
 ·subst hj
  rcases Nat.lt_or_ge i ρ.length with z | z
  ·rw [getElem?_set_self z] at e; cases e; exact hx.elim
  ·rw [getElem?_eq_none (by simpa using z)] at e; cases e
 ·rw [getElem?_set_ne hj] at e; exact ⟨hj, e⟩
section
variable {K : W.Frag} {F0 H0 F H F' H' : Hp} {σ : St} {ρ : Ro}
theorem Rl.fh (r : Rl K F0 H0 F H σ ρ) : Same F H := r.ext.fh
theorem Rl.go (r : Rl K F0 H0 F H σ ρ) (e : Ext F H F' H') : Rl K F0 H0 F' H' σ ρ where
 ext := r.ext.trans e
 len := r.len
 sh := fun i d h => let ⟨v, a, b⟩ := r.sh i d h; ⟨v, a, b.mono e.ff⟩
 own := fun i ds h => by
  obtain ⟨p, xs, a, b, c, d, z⟩ := r.own i ds h
  refine ⟨p, xs, a, ?_, e.hh _ _ c, d.mono e.ff, z⟩
  cases q : F' p with
  | none => rfl
  | some o => have := e.new p b (by rw [q]; simp); rw [this] at c; cases c
 inj := r.inj
 ob := fun i p ds h => by
  obtain ⟨a, b, c, xs, d, z⟩ := r.ob i p ds h
  refine ⟨a, ?_, c, xs, e.hh _ _ d, z.mono e.ff⟩
  cases q : F' p with
  | none => rfl
  | some o => have := e.new p b (by rw [q]; simp); rw [this] at d; cases d
 obn := r.obn
 ob1 := r.ob1
theorem Rl.set (r : Rl K F0 H0 F H σ ρ) {i : Nat} {v : V} {d : D} (h : Rep K F v d) : Rl K F0 H0 F H (σ.set i (some v)) (ρ.set i (some (.sh d))) where
 ext := r.ext
 len := by simp [r.len]
 sh := fun j d' e => by
  by_cases hj : i = j
  ·subst hj
   have hl : i < ρ.length := by
    rcases Nat.lt_or_ge i ρ.length with z | z
    ·exact z
    ·rw [getElem?_eq_none (by simpa using z)] at e; cases e
   rw [getElem?_set_self hl] at e
   cases e
   exact ⟨v, by rw [getElem?_set_self (by rw [r.len]; exact hl)], h⟩
  ·rw [getElem?_set_ne hj] at e ⊢
   exact r.sh j d' e
 own := fun j ds e => by
  by_cases hj : i = j
  ·subst hj
   have hl : i < ρ.length := by
    rcases Nat.lt_or_ge i ρ.length with z | z
    ·exact z
    ·rw [getElem?_eq_none (by simpa using z)] at e; cases e
   rw [getElem?_set_self hl] at e
   cases e
  ·rw [getElem?_set_ne hj] at e ⊢
   exact r.own j ds e
 inj := fun j k p ds es hjk e1 e2 e3 e4 => by
  have n1 : i ≠ j := fun z => by
   subst z
   have hl : i < ρ.length := by
    rcases Nat.lt_or_ge i ρ.length with z | z
    ·exact z
    ·rw [getElem?_eq_none (by simpa using z)] at e1; cases e1
   rw [getElem?_set_self hl] at e1; cases e1
  have n2 : i ≠ k := fun z => by
   subst z
   have hl : i < ρ.length := by
    rcases Nat.lt_or_ge i ρ.length with z | z
    ·exact z
    ·rw [getElem?_eq_none (by simpa using z)] at e2; cases e2
   rw [getElem?_set_self hl] at e2; cases e2
  rw [getElem?_set_ne n1] at e1 e3
  rw [getElem?_set_ne n2] at e2 e4
  exact r.inj j k p ds es hjk e1 e2 e3 e4
 ob := fun j p ds e => by
  obtain ⟨n, e⟩ := set_ob e
  rw [getElem?_set_ne n]; exact r.ob j p ds e
 obn := fun j k p ds es e1 e2 e3 => by
  obtain ⟨n, e1⟩ := set_ob e1
  have n2 : i ≠ k := fun z => by
   subst z
   have hl : i < ρ.length := by
    rcases Nat.lt_or_ge i ρ.length with z | z
    ·exact z
    ·rw [getElem?_eq_none (by simpa using z)] at e2; cases e2
   rw [getElem?_set_self hl] at e2; cases e2
  rw [getElem?_set_ne n2] at e2 e3
  exact r.obn j k p ds es e1 e2 e3
 ob1 := fun j k p q ds es e1 e2 => r.ob1 j k p q ds es (set_ob e1).2 (set_ob e2).2
theorem Rl.setOwn (r : Rl K F0 H0 F H σ ρ) {i : Nat} {p : Addr} {xs : List V} {ds : List D} (hF : F p = none) (hH : H p = some (.lst xs)) (h : Reps K F xs ds) (h0 : H0 p = none)
  (fr : ∀ (j : Nat) es, i ≠ j -> ρ[j]? = some (some (.own es)) -> σ[j]? = some (some (.ref p)) -> False) (fo : ∀ (j : Nat) q es, ρ[j]? = some (some (.ob q es)) -> q ≠ p) : Rl K F0 H0 F H (σ.set i (some (.ref p))) (ρ.set i (some (.own ds))) where
 ext := r.ext
 len := by simp [r.len]
 sh := fun j d' e => by
  by_cases hj : i = j
  ·subst hj
   have hl : i < ρ.length := by
    rcases Nat.lt_or_ge i ρ.length with z | z
    ·exact z
    ·rw [getElem?_eq_none (by simpa using z)] at e; cases e
   rw [getElem?_set_self hl] at e
   cases e
  ·rw [getElem?_set_ne hj] at e ⊢
   exact r.sh j d' e
 own := fun j es e => by
  by_cases hj : i = j
  ·subst hj
   have hl : i < ρ.length := by
    rcases Nat.lt_or_ge i ρ.length with z | z
    ·exact z
    ·rw [getElem?_eq_none (by simpa using z)] at e; cases e
   rw [getElem?_set_self hl] at e
   cases e
   exact ⟨p, xs, by rw [getElem?_set_self (by rw [r.len]; exact hl)], hF, hH, h, h0⟩
  ·rw [getElem?_set_ne hj] at e ⊢
   exact r.own j es e
 inj := fun j k q es es' hjk e1 e2 e3 e4 => by
  by_cases n1 : i = j
  ·subst n1
   rw [getElem?_set_ne hjk] at e2 e4
   have hl : i < σ.length := by
    rcases Nat.lt_or_ge i σ.length with z | z
    ·exact z
    ·rw [getElem?_eq_none (by simpa using z)] at e3; cases e3
   rw [getElem?_set_self hl] at e3
   cases e3
   exact fr k es' hjk e2 e4
  ·rw [getElem?_set_ne n1] at e1 e3
   by_cases n2 : i = k
   ·subst n2
    have hl : i < σ.length := by
     rcases Nat.lt_or_ge i σ.length with z | z
     ·exact z
     ·rw [getElem?_eq_none (by simpa using z)] at e4; cases e4
    rw [getElem?_set_self hl] at e4
    cases e4
    exact fr j es n1 e1 e3
   ·rw [getElem?_set_ne n2] at e2 e4
    exact r.inj j k q es es' hjk e1 e2 e3 e4
 ob := fun j q es e => by
  obtain ⟨n, e⟩ := set_ob e
  rw [getElem?_set_ne n]; exact r.ob j q es e
 obn := fun j k q es es' e1 e2 e3 => by
  obtain ⟨n, e1⟩ := set_ob e1
  by_cases n2 : i = k
  ·subst n2
   have hl : i < σ.length := by
    rcases Nat.lt_or_ge i σ.length with z | z
    ·exact z
    ·rw [getElem?_eq_none (by simpa using z)] at e3; cases e3
   rw [getElem?_set_self hl] at e3
   cases e3
   exact fo j p es e1 rfl
  ·rw [getElem?_set_ne n2] at e2 e3
   exact r.obn j k q es es' e1 e2 e3
 ob1 := fun j k p q ds es e1 e2 => r.ob1 j k p q ds es (set_ob e1).2 (set_ob e2).2
theorem Rl.freeze (r : Rl K F0 H0 F H σ ρ) {i : Nat} {ds : List D} (h : ρ[i]? = some (some (.own ds))) : ∃ F', Rl K F0 H0 F' H σ (ρ.set i (some (.sh (.lst ds)))) /\ Same F F' := by
 obtain ⟨p, xs, a, b, c, d, z⟩ := r.own i ds h
 have hl : i < ρ.length := (List.getElem?_eq_some_iff.mp h).1
 have e : Ext F0 H0 (upd F p (.lst xs)) H := r.ext.freeze b z c
 have ff : Same F (upd F p (.lst xs)) := (Same.refl F).put b
 refine ⟨upd F p (.lst xs), ⟨e, by simp [r.len], fun j d' q => ?_, fun j es q => ?_, fun j k q es es' hjk e1 e2 e3 e4 => ?_, fun j q es e1 => ?_, fun j k q es es' e1 e2 e3 => ?_, fun j k q q' es es' e1 e2 => r.ob1 j k q q' es es' (set_ob e1).2 (set_ob e2).2⟩, ff⟩
 ·by_cases hj : i = j
  ·subst hj
   rw [getElem?_set_self hl] at q
   cases q
   exact ⟨_, a, .lst (SqL.of upd_same) (d.mono ff)⟩
  ·rw [getElem?_set_ne hj] at q
   obtain ⟨v, v1, v2⟩ := r.sh j d' q
   exact ⟨v, v1, v2.mono ff⟩
 ·by_cases hj : i = j
  ·subst hj
   rw [getElem?_set_self hl] at q
   cases q
  ·rw [getElem?_set_ne hj] at q
   obtain ⟨p', xs', a', b', c', d', z'⟩ := r.own j es q
   have hp : p' ≠ p := fun w => r.inj i j p ds es hj h q a (by rw [<- w]; exact a')
   exact ⟨p', xs', a', by rw [upd_ne hp]; exact b', c', d'.mono ff, z'⟩
 ·have n1 : i ≠ j := fun w => by subst w; rw [getElem?_set_self hl] at e1; cases e1
  have n2 : i ≠ k := fun w => by subst w; rw [getElem?_set_self hl] at e2; cases e2
  rw [getElem?_set_ne n1] at e1
  rw [getElem?_set_ne n2] at e2
  exact r.inj j k q es es' hjk e1 e2 e3 e4
 ·obtain ⟨n, e1⟩ := set_ob e1
  obtain ⟨o1, o2, o3, zs, o4, o5⟩ := r.ob j q es e1
  have hp : q ≠ p := fun w => r.obn j i q es ds e1 h (by rw [w]; exact a)
  exact ⟨o1, by rw [upd_ne hp]; exact o2, o3, zs, o4, o5.mono ff⟩
 ·obtain ⟨n, e1⟩ := set_ob e1
  have n2 : i ≠ k := fun w => by subst w; rw [getElem?_set_self hl] at e2; cases e2
  rw [getElem?_set_ne n2] at e2
  exact r.obn j k q es es' e1 e2 e3
theorem Rl.write (r : Rl K F0 H0 F H σ ρ) {i : Nat} {p : Addr} {ys : List V} {ds es : List D} (h : ρ[i]? = some (some (.own ds))) (hp : σ[i]? = some (some (.ref p))) (hy : Reps K F ys es) :
  Rl K F0 H0 F (upd H p (.lst ys)) σ (ρ.set i (some (.own es))) := by
 obtain ⟨p', xs', a, b, c, d, z⟩ := r.own i ds h
 rw [hp] at a; cases a
 have hl : i < ρ.length := (List.getElem?_eq_some_iff.mp h).1
 refine ⟨⟨r.ext.ff, r.ext.hh.put z, r.ext.fh.put b, r.ext.new, r.ext.nf⟩, by simp [r.len], fun j d' q => ?_, fun j fs q => ?_, fun j k q fs fs' hjk e1 e2 e3 e4 => ?_, fun j q fs e1 => ?_, fun j k q fs fs' e1 e2 e3 => ?_, fun j k q q' es es' e1 e2 => r.ob1 j k q q' es es' (set_ob e1).2 (set_ob e2).2⟩
 ·by_cases hj : i = j
  ·subst hj
   rw [getElem?_set_self hl] at q
   cases q
  ·rw [getElem?_set_ne hj] at q
   exact r.sh j d' q
 ·by_cases hj : i = j
  ·subst hj
   rw [getElem?_set_self hl] at q
   cases q
   exact ⟨p, ys, hp, b, upd_same, hy, z⟩
  ·rw [getElem?_set_ne hj] at q
   obtain ⟨p2, xs2, a2, b2, c2, d2, z2⟩ := r.own j fs q
   have hpp : p2 ≠ p := fun w => r.inj i j p ds fs hj h q hp (by rw [<- w]; exact a2)
   exact ⟨p2, xs2, a2, b2, by rw [upd_ne hpp]; exact c2, d2, z2⟩
 ·have back : ∀ (m : Nat) gs, (ρ.set i (some (S.own es)))[m]? = some (some (.own gs)) -> ∃ gs', ρ[m]? = some (some (.own gs')) := fun m gs e => by
   by_cases hm : i = m
   ·subst hm; exact ⟨ds, h⟩
   ·rw [getElem?_set_ne hm] at e; exact ⟨gs, e⟩
  obtain ⟨g1, e1⟩ := back j fs e1
  obtain ⟨g2, e2⟩ := back k fs' e2
  exact r.inj j k q g1 g2 hjk e1 e2 e3 e4
 ·obtain ⟨n, e1⟩ := set_ob e1
  obtain ⟨o1, o2, o3, zs, o4, o5⟩ := r.ob j q fs e1
  have hpp : q ≠ p := fun w => r.obn j i q fs ds e1 h (by rw [w]; exact hp)
  exact ⟨o1, o2, o3, zs, by rw [upd_ne hpp]; exact o4, o5⟩
 ·obtain ⟨n, e1⟩ := set_ob e1
  by_cases n2 : i = k
  ·subst n2; exact r.obn j i q fs ds e1 h e3
  ·rw [getElem?_set_ne n2] at e2
   exact r.obn j k q fs fs' e1 e2 e3
theorem Rl.writeB (r : Rl K F0 H0 F H σ ρ) {i : Nat} {p : Addr} {ys : List V} {ds es : List D} (h : ρ[i]? = some (some (.ob p ds))) (hy : Reps K F ys es) :
  Rl K F0 H0 F (upd H p (.lst ys)) σ (ρ.set i (some (.ob p es))) := by
 obtain ⟨a, b, z, xs', c, d⟩ := r.ob i p ds h
 have hl : i < ρ.length := (List.getElem?_eq_some_iff.mp h).1
 have back : ∀ (j : Nat) q fs, (ρ.set i (some (S.ob p es)))[j]? = some (some (.ob q fs)) -> j = i /\ q = p /\ fs = es := fun j q fs e => by
  by_cases hj : i = j
  ·subst hj; rw [getElem?_set_self hl] at e; cases e; exact ⟨rfl, rfl, rfl⟩
  ·rw [getElem?_set_ne hj] at e; exact absurd (r.ob1 i j p q ds fs h e) hj
 have other : ∀ (j : Nat) fs, (ρ.set i (some (S.ob p es)))[j]? = some (some (.own fs)) -> i ≠ j /\ ρ[j]? = some (some (.own fs)) := fun j fs e => by
  by_cases hj : i = j
  ·subst hj; rw [getElem?_set_self hl] at e; cases e
  ·rw [getElem?_set_ne hj] at e; exact ⟨hj, e⟩
 refine ⟨⟨r.ext.ff, r.ext.hh.put z, r.ext.fh.put b, r.ext.new, r.ext.nf⟩, by simp [r.len], fun j d' q => ?_, fun j fs q => ?_, fun j k q fs fs' hjk e1 e2 e3 e4 => r.inj j k q fs fs' hjk (other j fs e1).2 (other k fs' e2).2 e3 e4, fun j q fs e1 => ?_, fun j k q fs fs' e1 e2 e3 => ?_, fun j k q q' fs fs' e1 e2 => ?_⟩
 ·by_cases hj : i = j
  ·subst hj; rw [getElem?_set_self hl] at q; cases q
  ·rw [getElem?_set_ne hj] at q; exact r.sh j d' q
 ·obtain ⟨n, e⟩ := other j fs q
  obtain ⟨p2, xs2, a2, b2, c2, d2, z2⟩ := r.own j fs e
  have hpp : p2 ≠ p := fun w => r.obn i j p ds fs h e (by rw [<- w]; exact a2)
  exact ⟨p2, xs2, a2, b2, by rw [upd_ne hpp]; exact c2, d2, z2⟩
 ·obtain ⟨e2, e3, e4⟩ := back j q fs e1
  subst e2 e3 e4
  exact ⟨a, b, z, ys, upd_same, hy⟩
 ·obtain ⟨e4, e5, _⟩ := back j q fs e1
  subst e4 e5
  exact r.obn j k q ds fs' h (other k fs' e2).2 e3
 ·rw [(back j q fs e1).1, (back k q' fs' e2).1]
end
theorem Rep.n' {K : W.Frag} {F : Hp} {x : V} (r : Rep K F x .non) : x = .non := by cases r; rfl
theorem Rep.b' {K : W.Frag} {F : Hp} {x : V} {i : Bool} (r : Rep K F x (.bl i)) : x = .bl i := by cases r; rfl
theorem Rep.i' {K : W.Frag} {F : Hp} {x : V} {i : Int} (r : Rep K F x (.int i)) : x = .int i := by cases r; rfl
theorem Rep.s' {K : W.Frag} {F : Hp} {x : V} {i : Str} (r : Rep K F x (.str i)) : x = .str i := by cases r; rfl
theorem Rep.l' {K : W.Frag} {F : Hp} {x : V} {ds : List D} (r : Rep K F x (.lst ds)) : ∃ a xs, x = .ref a /\ SqL K F a xs /\ Reps K F xs ds := by cases r with | lst s r => exact ⟨_, _, rfl, s, r⟩
theorem Rep.t' {K : W.Frag} {F : Hp} {x : V} {ds : List D} (r : Rep K F x (.tup ds)) : ∃ a xs, x = .ref a /\ SqT K F a xs /\ Reps K F xs ds := by cases r with | tup s r => exact ⟨_, _, rfl, s, r⟩
end
section
noncomputable abbrev ME := Ro -> Option D
noncomputable abbrev ML := Ro -> Option (List D)
noncomputable abbrev MB := Ro -> Option Bool
def TD (K : W.Frag) (m : ME) : TE := fun σ H Q => ∃ F0 H0 F ρ d, Rl K F0 H0 F H σ ρ /\ m ρ = some d /\ ∀ v F' H', Ext F H F' H' -> Rep K F' v d -> Q v H'
def TF (K : W.Frag) (m : ML) : TE := fun σ H Q => ∃ F0 H0 F ρ ds, Rl K F0 H0 F H σ ρ /\ m ρ = some ds /\ ∀ p xs F' H', Ext F H F' H' -> H p = none -> F' p = none -> H' p = some (.lst xs) -> Reps K F' xs ds -> Q (.ref p) H'
def TB (K : W.Frag) (m : ML) : TE := fun σ H Q => ∃ F0 H0 F ρ ds, Rl K F0 H0 F H σ ρ /\ m ρ = some ds /\ ∀ p xs F' H', Ext F H F' H' -> SqL K H' p xs -> Reps K F' xs ds -> Q (.ref p) H'
def TC (K : W.Frag) (c : MB) : TT := fun σ H Q => ∃ F0 H0 F ρ b, Rl K F0 H0 F H σ ρ /\ c ρ = some b /\ ∀ F' H', Ext F H F' H' -> Q b H'
def TAs (K : W.Frag) (m : ML) : TA := fun σ H Q => ∃ F0 H0 F ρ ds, Rl K F0 H0 F H σ ρ /\ m ρ = some ds /\ ∀ vs F' H', Ext F H F' H' -> Reps K F' vs ds -> Q vs H'
def PD (X : Cx) (e : Expr) (m : ME) : Prop := PE X e (TD X.K m)
def PF (X : Cx) (e : Expr) (m : ML) : Prop := PE X e (TF X.K m)
def PB (X : Cx) (e : Expr) (m : ML) : Prop := PE X e (TB X.K m)
def PC' (X : Cx) (e : Expr) (c : MB) : Prop := PT X e (TC X.K c)
def PCw (X : Cx) (e : Expr) (c : MB) : Prop := PW X e (TC X.K c)
def PAs (X : Cx) (es : List Expr) (m : ML) : Prop := PA X es (TAs X.K m)
section
variable {X : Cx} {a b c e : Expr} {ma mb : ME} {pos : Pos}
theorem PE.imp {t t' : TE} (h : PE X e t) (i : ∀ σ H Q, t' σ H Q -> t σ H Q) : PE X e t' := fun pins s σ H Q I q => h pins s σ H Q I (i σ H Q q)
theorem PT.imp {t t' : TT} (h : PT X e t) (i : ∀ σ H Q, t' σ H Q -> t σ H Q) : PT X e t' := fun pins s σ H Q I q => h pins s σ H Q I (i σ H Q q)
theorem PW.imp {t t' : TT} (h : PW X e t) (i : ∀ σ H Q, t' σ H Q -> t σ H Q) : PW X e t' := fun w pins s σ H Q I q => h w pins s σ H Q I (i σ H Q q)
theorem PA.imp {es : List Expr} {t t' : TA} (h : PA X es t) (i : ∀ σ H Q, t' σ H Q -> t σ H Q) : PA X es t' := fun pos pins s σ H Q I q => h pos pins s σ H Q I (i σ H Q q)
noncomputable def mvar (i : Nat) : ME := fun ρ => match ρ[i]? with | some (some (.sh d)) => some d | _ => none
noncomputable def bvar (i : Nat) : ML := fun ρ => match ρ[i]? with | some (some (.sh (.lst ds))) => some ds | some (some (.own ds)) => some ds | some (some (.ob _ ds)) => some ds | _ => none
noncomputable def mc (d : D) : ME := fun _ => some d
theorem pd_var (i : Nat) {x : Str} {pos : Pos} (h : PE X (.Name x pos) (tVar i)) : PD X (.Name x pos) (mvar i) := h.imp fun σ H Q hpat => by
 obtain ⟨F0, H0, F, ρ, d, r, e, q⟩ := hpat
 unfold mvar at e
 split at e
 ·rename_i h'
  cases e
  obtain ⟨v, e1, e2⟩ := r.sh i _ h'
  exact ⟨v, e1, q v F H (.refl r.fh) e2⟩
 ·cases e
theorem pb_var (i : Nat) {x : Str} {pos : Pos} (h : PE X (.Name x pos) (tVar i)) : PB X (.Name x pos) (bvar i) := h.imp fun σ H Q hpat => by
 obtain ⟨F0, H0, F, ρ, d, r, e, q⟩ := hpat
 unfold bvar at e
 split at e
 ·rename_i ds h'
  cases e
  obtain ⟨v, e1, e2⟩ := r.sh i _ h'
  cases e2 with
  | lst s rs => exact ⟨_, e1, q _ _ F H (.refl r.fh) (r.fh.seq s) rs⟩
 ·rename_i ds h'
  cases e
  obtain ⟨p, xs, e1, e2, e3, e4, _⟩ := r.own i _ h'
  exact ⟨_, e1, q _ _ F H (.refl r.fh) (SqL.of e3) e4⟩
 ·rename_i p ds h'
  cases e
  obtain ⟨e1, e2, _, xs, e3, e4⟩ := r.ob i p _ h'
  exact ⟨_, e1, q _ _ F H (.refl r.fh) (SqL.of e3) e4⟩
 ·cases e
theorem pd_int {i : Int} {j pos} : PD X (.Constant (.int i) j pos) (mc (.int i)) := pe_int.imp fun σ H Q hpat => by
 obtain ⟨F0, H0, F, ρ, d, r, e, q⟩ := hpat
 cases e; exact q _ F H (.refl r.fh) (.int i)
theorem pd_bl {b : Bool} {j pos} : PD X (.Constant (.bool b) j pos) (mc (.bl b)) := pe_bl.imp fun σ H Q hpat => by
 obtain ⟨F0, H0, F, ρ, d, r, e, q⟩ := hpat
 cases e; exact q _ F H (.refl r.fh) (.bl b)
theorem pd_non {j pos} : PD X (.Constant .none j pos) (mc .non) := pe_non.imp fun σ H Q hpat => by
 obtain ⟨F0, H0, F, ρ, d, r, e, q⟩ := hpat
 cases e; exact q _ F H (.refl r.fh) .non
theorem pd_str {x : Str} {j pos} : PD X (.Constant (.str x) j pos) (mc (.str x)) := pe_str.imp fun σ H Q hpat => by
 obtain ⟨F0, H0, F, ρ, d, r, e, q⟩ := hpat
 cases e; exact q _ F H (.refl r.fh) (.str x)
noncomputable def mlst (m : ML) : ME := fun ρ => (m ρ).map .lst
noncomputable def aslst (m : ME) : ML := fun ρ => match m ρ with | some (.lst ds) => some ds | _ => none
theorem pf_pd {m : ML} (h : PF X e m) : PD X e (mlst m) := h.imp fun σ H Q hpat => by
 obtain ⟨F0, H0, F, ρ, d, r, e, q⟩ := hpat
 unfold mlst at e
 cases hm : m ρ with
 | none => rw [hm] at e; cases e
 | some ds =>
  rw [hm] at e; cases e
  refine ⟨F0, H0, F, ρ, ds, r, hm, fun p xs F' H' x hp hF hH rs => ?_⟩
  exact q _ (upd F' p (.lst xs)) H' (x.freeze hF hp hH) (.lst (SqL.of upd_same) (rs.mono ((Same.refl F').put hF)))
theorem pd_pb (h : PD X e ma) : PB X e (aslst ma) := h.imp fun σ H Q hpat => by
 obtain ⟨F0, H0, F, ρ, d, r, e, q⟩ := hpat
 unfold aslst at e
 split at e
 ·rename_i ds hm
  cases e
  refine ⟨F0, H0, F, ρ, _, r, hm, fun v F' H' x rv => ?_⟩
  cases rv with
  | lst s rs => exact q _ _ F' H' x (x.fh.seq s) rs
 ·cases e
theorem pf_pb {m : ML} (h : PF X e m) : PB X e m := h.imp fun σ H Q ⟨F0, H0, F, ρ, d, r, e, q⟩ =>
 ⟨F0, H0, F, ρ, d, r, e, fun p xs F' H' x hp hF hH rs => q p xs F' H' x (SqL.of hH) rs⟩
@[irreducible] noncomputable def m2 (f : D -> D -> Option D) (x y : ME) : ME := fun ρ => (x ρ).bind fun d => (y ρ).bind fun e => f d e
def OpD (K : W.Frag) (r : R2) (f : D -> D -> Option D) : Prop := ∀ (F H : Hp) (x y : V) (d e g : D) (Q : VK), Same F H -> Rep K F x d -> Rep K F y e -> f d e = some g -> (∀ v F' H', Ext F H F' H' -> Rep K F' v g -> Q v H') -> r x y H Q
theorem m2_some {f : D -> D -> Option D} {ρ : Ro} {g : D} (h : m2 f ma mb ρ = some g) : ∃ d e, ma ρ = some d /\ mb ρ = some e /\ f d e = some g := by
 unfold m2 at h
 cases h1 : ma ρ with
 | none => rw [h1] at h; cases h
 | some d =>
  cases h2 : mb ρ with
  | none => rw [h1, h2] at h; cases h
  | some e => rw [h1, h2] at h; exact ⟨d, e, rfl, rfl, h⟩
theorem op_d {r : R2} {f : D -> D -> Option D} (hf : OpD X.K r f) {σ : St} {H : Hp} {Q : VK} (h : TD X.K (m2 f ma mb) σ H Q) : tOp r (TD X.K ma) (TD X.K mb) σ H Q := by
 obtain ⟨F0, H0, F, ρ, g, rl, e, q⟩ := h
 obtain ⟨d, e', h1, h2, h3⟩ := m2_some e
 refine ⟨F0, H0, F, ρ, d, rl, h1, fun x F1 H1 x1 r1 => ⟨F0, H0, F1, ρ, e', rl.go x1, h2, fun y F2 H2 x2 r2 => ?_⟩⟩
 exact hf F2 H2 x y d e' g Q x2.fh (r1.mono x2.ff) r2 h3 fun v F' H' x3 => q v F' H' ((x1.trans x2).trans x3)
theorem pd_op {op : Operator} {r : R2} {f : D -> D -> Option D} (ho : OpR X (binaryOp op) r) (hf : OpD X.K r f) (ha : PD X a ma) (hb : PD X b mb) : PD X (.BinOp a op b pos) (m2 f ma mb) := (pe_op ho ha hb).imp fun _ _ _ h => op_d hf h
theorem pd_cmp {op : CmpOp} {r : R2} {f : D -> D -> Option D} (ho : OpR X (compareOp op) r) (hf : OpD X.K r f) (ha : PD X a ma) (hb : PD X b mb) (hm : behindInMarks op b = false) : PD X (.Compare a [op] [b] pos) (m2 f ma mb) := (pe_cmpR ho ha hb hm).imp fun _ _ _ h => op_d hf h
noncomputable def mtest (m : ME) : MB := fun ρ => match m ρ with | some (.bl b) => some b | _ => none
theorem pc_cmp {op : CmpOp} {r : R2} {f : D -> D -> Option D} (ho : OpR X (compareOp op) r) (hf : OpD X.K r f) (ha : PD X a ma) (hb : PD X b mb) (hm : behindInMarks op b = false) : PC' X (.Compare a [op] [b] pos) (mtest (m2 f ma mb)) := (pt_cmpR ho ha hb hm).imp fun σ H Q hpat => by
 obtain ⟨F0, H0, F, ρ, g, rl, e, q⟩ := hpat
 unfold mtest at e
 split at e
 ·rename_i k hk
  cases e
  refine op_d hf ⟨F0, H0, F, ρ, .bl g, rl, hk, fun v F' H' x r => ?_⟩
  cases r
  exact ⟨_, rfl, q F' H' x⟩
 ·cases e
noncomputable def int2 (g : Int -> Int -> Option D) : D -> D -> Option D
 | .int i, .int j => g i j
 | _, _ => none
theorem int2_inv {g : Int -> Int -> Option D} {d e w : D} (h : int2 g d e = some w) : ∃ i j, d = .int i /\ e = .int j /\ g i j = some w := by
 cases d with
 | int i =>
  cases e with
  | int j => exact ⟨i, j, rfl, rfl, h⟩
  | _ => cases h
 | _ => cases h
theorem opd_rI0 {K : W.Frag} {g : Int -> Int -> V} {g' : Int -> Int -> D} (hg : ∀ F i j, Rep K F (g i j) (g' i j)) : OpD K (rI0 g) (int2 fun i j => some (g' i j)) := by
 intro F H x y d e w Q s r1 r2 h q
 obtain ⟨i, j, rfl, rfl, h'⟩ := int2_inv h
 clear h
 cases h'
 exact ⟨i, j, r1.i', r2.i', q _ F H (.refl s) (hg F i j)⟩
theorem opd_rI {K : W.Frag} {C : Int -> Int -> Prop} {ok : Int -> Int -> Bool} {g : Int -> Int -> V} {g' : Int -> Int -> D} (hC : ∀ i j, ok i j = true -> C i j) (hg : ∀ F i j, Rep K F (g i j) (g' i j)) :
  OpD K (rI C g) (int2 fun i j => if ok i j = true then some (g' i j) else none) := by
 intro F H x y d e w Q s r1 r2 h q
 obtain ⟨i, j, rfl, rfl, h'⟩ := int2_inv h
 clear h
 by_cases hk : ok i j = true
 ·rw [if_pos hk] at h'
  cases h'
  exact ⟨i, j, r1.i', r2.i', hC i j hk, q _ F H (.refl s) (hg F i j)⟩
 ·rw [if_neg hk] at h'
  cases h'
noncomputable def subD : D -> D -> Option D := int2 fun i j => some (.int (i - j))
noncomputable def mulOk (i j : Int) : Bool := (decide (-(2 ^ 64) < i) && decide (i < 2 ^ 64)) || (decide (-(2 ^ 64) < j) && decide (j < 2 ^ 64))
noncomputable def mulD : D -> D -> Option D := int2 fun i j => if mulOk i j = true then some (.int (i * j)) else none
noncomputable def fdivOk (_ j : Int) : Bool := decide (0 < j) && decide (j < 1073741824)
noncomputable def fdivD : D -> D -> Option D := int2 fun i j => if fdivOk i j = true then some (.int (i / j)) else none
noncomputable def modOk (_ j : Int) : Bool := decide (0 < j)
noncomputable def modD : D -> D -> Option D := int2 fun i j => if modOk i j = true then some (.int (i % j)) else none
noncomputable def powOk (i j : Int) : Bool := decide (0 <= j) && decide (j <= 1000000) && decide (i.natAbs < 2 ^ 64)
noncomputable def powD : D -> D -> Option D := int2 fun i j => if powOk i j = true then some (.int (i ^ j.toNat)) else none
noncomputable def shrOk (_ j : Int) : Bool := decide (0 <= j)
noncomputable def shrD : D -> D -> Option D := int2 fun i j => if shrOk i j = true then some (.int (i / 2 ^ j.toNat)) else none
noncomputable def ltD : D -> D -> Option D := int2 fun i j => some (.bl (decide (i < j)))
noncomputable def leD : D -> D -> Option D := int2 fun i j => some (.bl (decide (i <= j)))
noncomputable def gtD : D -> D -> Option D := int2 fun i j => some (.bl (decide (j < i)))
noncomputable def geD : D -> D -> Option D := int2 fun i j => some (.bl (decide (j <= i)))
theorem opd_sub {K : W.Frag} : OpD K (rI0 fun i j => .int (i - j)) subD := opd_rI0 fun F i j => .int _
theorem opd_mul {K : W.Frag} : OpD K (rI CMul fun i j => .int (i * j)) mulD := opd_rI (fun i j h => by
 unfold mulOk at h
 simp only [Bool.or_eq_true, Bool.and_eq_true, decide_eq_true_eq] at h
 exact h) fun F i j => .int _
theorem opd_fdiv {K : W.Frag} : OpD K (rI CDiv fun i j => .int (i / j)) fdivD := opd_rI (fun i j h => by
 unfold fdivOk at h
 simp only [Bool.and_eq_true, decide_eq_true_eq] at h
 exact h) fun F i j => .int _
theorem opd_mod {K : W.Frag} : OpD K (rI (fun _ j => 0 < j) fun i j => .int (i % j)) modD := opd_rI (fun i j h => of_decide_eq_true h) fun F i j => .int _
theorem opd_pow {K : W.Frag} : OpD K (rI CPow fun i j => .int (i ^ j.toNat)) powD := opd_rI (fun i j h => by
 unfold powOk at h
 simp only [Bool.and_eq_true, decide_eq_true_eq] at h
 exact ⟨h.1.1, h.1.2, h.2⟩) fun F i j => .int _
theorem opd_shr {K : W.Frag} : OpD K (rI (fun _ j => 0 <= j) fun i j => .int (i / 2 ^ j.toNat)) shrD := opd_rI (fun i j h => of_decide_eq_true h) fun F i j => .int _
theorem opd_lt {K : W.Frag} : OpD K (rI0 fun i j => .bl (decide (i < j))) ltD := opd_rI0 fun F i j => .bl _
theorem opd_le {K : W.Frag} : OpD K (rI0 fun i j => .bl (decide (i <= j))) leD := opd_rI0 fun F i j => .bl _
theorem opd_gt {K : W.Frag} : OpD K (rI0 fun i j => .bl (decide (j < i))) gtD := opd_rI0 fun F i j => .bl _
theorem opd_ge {K : W.Frag} : OpD K (rI0 fun i j => .bl (decide (j <= i))) geD := opd_rI0 fun F i j => .bl _
noncomputable def eqS : D -> D -> Option Bool
 | .non, .non => some true | .non, .int _ => some false | .int _, .non => some false | .non, .bl _ => some false | .bl _, .non => some false | .non, .str _ => some false | .str _, .non => some false
 | .int i, .int j => some (i == j) | .bl i, .bl j => some (i == j) | .str i, .str j => some (i == j)
 | .int _, .str _ => some false | .str _, .int _ => some false | .bl _, .str _ => some false | .str _, .bl _ => some false
 | _, _ => none
noncomputable def eqSD (d e : D) : Option D := (eqS d e).map .bl
noncomputable def neSD (d e : D) : Option D := (eqS d e).map fun b => .bl (!b)
noncomputable def scV : D -> V
 | .bl b => .bl b | .int i => .int i | .str x => .str x | _ => .non
theorem eqS_inv {d e : D} {k : Bool} (h : eqS d e = some k) : scal (scV d) (scV e) = true /\ decide (scV d = scV e) = k := by
 cases d with
 | non => cases e <;> cases h <;> exact ⟨rfl, rfl⟩
 | bl i =>
  cases e <;> cases h
  ·exact ⟨rfl, rfl⟩
  ·exact ⟨rfl, dec_bl⟩
  ·exact ⟨rfl, rfl⟩
 | int i =>
  cases e <;> cases h
  ·exact ⟨rfl, rfl⟩
  ·exact ⟨rfl, dec_int⟩
  ·exact ⟨rfl, rfl⟩
 | str i =>
  cases e <;> cases h
  ·exact ⟨rfl, rfl⟩
  ·exact ⟨rfl, rfl⟩
  ·exact ⟨rfl, rfl⟩
  ·exact ⟨rfl, dec_str⟩
 | _ => cases h
theorem eqS_l {d e : D} {k : Bool} (h : eqS d e = some k) {K : W.Frag} {F : Hp} {x : V} (r : Rep K F x d) : x = scV d := by
 cases d with
 | non => exact r.n'
 | bl i => exact r.b'
 | int i => exact r.i'
 | str i => exact r.s'
 | _ => cases h
theorem eqS_sym (d e : D) (k : Bool) (h : eqS d e = some k) : ∃ k', eqS e d = some k' := by
 cases d with
 | non => cases e <;> cases h <;> exact ⟨_, rfl⟩
 | bl i => cases e <;> cases h <;> exact ⟨_, rfl⟩
 | int i => cases e <;> cases h <;> exact ⟨_, rfl⟩
 | str i => cases e <;> cases h <;> exact ⟨_, rfl⟩
 | _ => cases h
theorem opd_eqS {K : W.Frag} : OpD K rEq eqSD := by
 intro F H x y d e w Q s r1 r2 h q
 unfold eqSD at h
 cases hk : eqS d e with
 | none => rw [hk] at h; cases h
 | some k =>
  rw [hk] at h
  cases h
  obtain ⟨k', hk'⟩ := eqS_sym d e k hk
  obtain ⟨h1, h2⟩ := eqS_inv hk
  rw [eqS_l hk r1, eqS_l hk' r2]
  refine ⟨h1, ?_⟩
  rw [h2]
  exact q _ F H (.refl s) (.bl _)
theorem opd_neS {K : W.Frag} : OpD K rNe neSD := by
 intro F H x y d e w Q s r1 r2 h q
 unfold neSD at h
 cases hk : eqS d e with
 | none => rw [hk] at h; cases h
 | some k =>
  rw [hk] at h
  cases h
  obtain ⟨k', hk'⟩ := eqS_sym d e k hk
  obtain ⟨h1, h2⟩ := eqS_inv hk
  rw [eqS_l hk r1, eqS_l hk' r2]
  refine ⟨h1, ?_⟩
  rw [h2]
  exact q _ F H (.refl s) (.bl _)
noncomputable def m1 (f : D -> Option D) (x : ME) : ME := fun ρ => (x ρ).bind f
noncomputable def negD : D -> Option D
 | .int i => some (.int (-i))
 | _ => none
theorem m1_some {f : D -> Option D} {ρ : Ro} {g : D} (h : m1 f ma ρ = some g) : ∃ d, ma ρ = some d /\ f d = some g := by
 unfold m1 at h
 cases h1 : ma ρ with
 | none => rw [h1] at h; cases h
 | some d => rw [h1] at h; exact ⟨d, rfl, h⟩
theorem pd_neg (ha : PD X a ma) : PD X (.UnaryOp .USub a pos) (m1 negD ma) := (pe_un un_neg ha).imp fun σ H Q hpat => by
 obtain ⟨F0, H0, F, ρ, g, rl, e, q⟩ := hpat
 obtain ⟨d, h1, h2⟩ := m1_some e
 refine ⟨F0, H0, F, ρ, d, rl, h1, fun x F1 H1 x1 r1 => ?_⟩
 cases r1 <;> first | (cases h2; done) | skip
 cases h2
 exact ⟨_, rfl, q _ F1 H1 x1 (.int _)⟩
noncomputable def notD : D -> Option D
 | .bl b => some (.bl (!b))
 | _ => none
theorem pd_not (ha : PD X a ma) : PD X (.UnaryOp .Not a pos) (m1 notD ma) := (pe_not ha).imp fun σ H Q hpat => by
 obtain ⟨F0, H0, F, ρ, g, rl, e, q⟩ := hpat
 obtain ⟨d, h1, h2⟩ := m1_some e
 refine ⟨F0, H0, F, ρ, d, rl, h1, fun x F1 H1 x1 r1 => ?_⟩
 cases r1 <;> first | (cases h2; done) | skip
 cases h2
 exact ⟨_, rfl, q _ F1 H1 x1 (.bl _)⟩
noncomputable def mand (x y : ME) : ME := fun ρ => match x ρ with | some (.bl true) => y ρ | some (.bl false) => some (.bl false) | _ => none
noncomputable def mor (x y : ME) : ME := fun ρ => match x ρ with | some (.bl true) => some (.bl true) | some (.bl false) => y ρ | _ => none
theorem pd_one {op} (h : PD X a ma) : PD X (.BoolOp op [a] pos) ma := pe_one h
theorem pd_and {rest : List Expr} (ha : PD X a ma) (hb : PD X (.BoolOp .And (b :: rest) pos) mb) : PD X (.BoolOp .And (a :: b :: rest) pos) (mand ma mb) := (pe_and ha hb).imp fun σ H Q hpat => by
 obtain ⟨F0, H0, F, ρ, g, rl, e, q⟩ := hpat
 unfold mand at e
 split at e
 ·rename_i h1
  refine ⟨F0, H0, F, ρ, _, rl, h1, fun x F1 H1 x1 r1 => ?_⟩
  cases r1
  refine ⟨true, rfl, ?_⟩
  refine iteT ?_
  exact ⟨F0, H0, F1, ρ, g, rl.go x1, e, fun y F2 H2 x2 r2 => q y F2 H2 (x1.trans x2) r2⟩
 ·rename_i h1
  cases e
  refine ⟨F0, H0, F, ρ, _, rl, h1, fun x F1 H1 x1 r1 => ?_⟩
  cases r1
  refine ⟨false, rfl, ?_⟩
  refine iteF ?_
  exact q _ F1 H1 x1 (.bl _)
 ·cases e
theorem pd_or {rest : List Expr} (ha : PD X a ma) (hb : PD X (.BoolOp .Or (b :: rest) pos) mb) : PD X (.BoolOp .Or (a :: b :: rest) pos) (mor ma mb) := (pe_or ha hb).imp fun σ H Q hpat => by
 obtain ⟨F0, H0, F, ρ, g, rl, e, q⟩ := hpat
 unfold mor at e
 split at e
 ·rename_i h1
  cases e
  refine ⟨F0, H0, F, ρ, _, rl, h1, fun x F1 H1 x1 r1 => ?_⟩
  cases r1
  refine ⟨true, rfl, ?_⟩
  refine iteT ?_
  exact q _ F1 H1 x1 (.bl _)
 ·rename_i h1
  refine ⟨F0, H0, F, ρ, _, rl, h1, fun x F1 H1 x1 r1 => ?_⟩
  cases r1
  refine ⟨false, rfl, ?_⟩
  refine iteF ?_
  exact ⟨F0, H0, F1, ρ, g, rl.go x1, e, fun y F2 H2 x2 r2 => q y F2 H2 (x1.trans x2) r2⟩
 ·cases e
noncomputable def truD : D -> Option Bool
 | .non => some false
 | .bl b => some b
 | .int i => some (i != 0)
 | .str y => if y.length <= sizeLine then some ((y.length : Int) != 0) else none
 | .lst ds => some (!ds.isEmpty)
 | .tup ds => some (!ds.isEmpty)
 | .exc _ => none
 | .ptr _ => none
 | .obj _ _ _ => none
noncomputable def mtru (m : ME) : MB := fun ρ => (m ρ).bind truD
theorem isEmpty_reps {K : W.Frag} {F : Hp} {vs : List V} {ds : List D} (h : Reps K F vs ds) : (!ds.isEmpty) = !vs.isEmpty := by cases h <;> rfl
theorem pc_tru (ha : PD X a ma) (he : ∀ whole, isTrue a X.env whole = (do let v ← whole; standAt a.pos; holding [v] (truthy v)) := by intro _; rfl) : PC' X a (mtru ma) := (pt_truth ha he).imp fun σ H Q hpat => by
 obtain ⟨F0, H0, F, ρ, b, rl, e, q⟩ := hpat
 unfold mtru at e
 cases h1 : ma ρ with
 | none => rw [h1] at e; cases e
 | some d =>
  rw [h1] at e
  refine ⟨F0, H0, F, ρ, d, rl, h1, fun x F1 H1 x1 r1 => ⟨b, ?_, q F1 H1 x1⟩⟩
  cases r1 with
  | non => cases e; rfl
  | bl => cases e; rfl
  | int => cases e; rfl
  | str x =>
   have e : (if x.length <= sizeLine then some ((x.length : Int) != 0) else none) = some b := e
   split at e
   ·rename_i hz
    cases e
    exact ⟨hz, rfl⟩
   ·cases e
  | lst s rs => cases e; exact .inl ⟨_, x1.fh.seq s, isEmpty_reps rs⟩
  | tup s rs => cases e; exact .inr (.inl ⟨_, x1.fh.seqT s, isEmpty_reps rs⟩)
  | exc => cases e
  | ptr => cases e
  | obj => cases e
variable {ca cb : MB}
noncomputable def cand (x y : MB) : MB := fun ρ => match x ρ with | some true => y ρ | some false => some false | none => none
noncomputable def cor (x y : MB) : MB := fun ρ => match x ρ with | some true => some true | some false => y ρ | none => none
noncomputable def cnot (x : MB) : MB := fun ρ => (x ρ).map (!·)
theorem pc_w (h : PCw X a ca) : PC' X a ca := h.pt
theorem pw1_and (h : PC' X a ca) : PCw X (.BoolOp .And [a] pos) ca := pw_and1 h
theorem pw1_or (h : PC' X a ca) : PCw X (.BoolOp .Or [a] pos) ca := pw_or1 h
theorem pcw_and {rest : List Expr} (ha : PC' X a ca) (hb : PCw X (.BoolOp .And (b :: rest) pos) cb) : PCw X (.BoolOp .And (a :: b :: rest) pos) (cand ca cb) := (pw_and ha hb).imp fun σ H Q hpat => by
 obtain ⟨F0, H0, F, ρ, g, rl, e, q⟩ := hpat
 unfold cand at e
 split at e
 ·rename_i h1
  refine ⟨F0, H0, F, ρ, _, rl, h1, fun F1 H1 x1 => ?_⟩
  refine iteT ?_
  exact ⟨F0, H0, F1, ρ, g, rl.go x1, e, fun F2 H2 x2 => q F2 H2 (x1.trans x2)⟩
 ·rename_i h1
  cases e
  refine ⟨F0, H0, F, ρ, _, rl, h1, fun F1 H1 x1 => ?_⟩
  refine iteF ?_
  exact q F1 H1 x1
 ·cases e
theorem pcw_or {rest : List Expr} (ha : PC' X a ca) (hb : PCw X (.BoolOp .Or (b :: rest) pos) cb) : PCw X (.BoolOp .Or (a :: b :: rest) pos) (cor ca cb) := (pw_or ha hb).imp fun σ H Q hpat => by
 obtain ⟨F0, H0, F, ρ, g, rl, e, q⟩ := hpat
 unfold cor at e
 split at e
 ·rename_i h1
  cases e
  refine ⟨F0, H0, F, ρ, _, rl, h1, fun F1 H1 x1 => ?_⟩
  refine iteT ?_
  exact q F1 H1 x1
 ·rename_i h1
  refine ⟨F0, H0, F, ρ, _, rl, h1, fun F1 H1 x1 => ?_⟩
  refine iteF ?_
  exact ⟨F0, H0, F1, ρ, g, rl.go x1, e, fun F2 H2 x2 => q F2 H2 (x1.trans x2)⟩
 ·cases e
theorem pc_not (ha : PC' X a ca) : PC' X (.UnaryOp .Not a pos) (cnot ca) := (pt_not ha).imp fun σ H Q hpat => by
 obtain ⟨F0, H0, F, ρ, g, rl, e, q⟩ := hpat
 unfold cnot at e
 cases h1 : ca ρ with
 | none => rw [h1] at e; cases e
 | some k =>
  rw [h1] at e; cases e
  exact ⟨F0, H0, F, ρ, k, rl, h1, fun F1 H1 x1 => q F1 H1 x1⟩
noncomputable def anil : ML := fun _ => some []
@[irreducible] noncomputable def acons (x : ME) (r : ML) : ML := fun ρ => (x ρ).bind fun d => (r ρ).bind fun ds => some (d :: ds)
theorem acons_some {r : ML} {ρ : Ro} {gs : List D} (h : acons ma r ρ = some gs) : ∃ d ds, ma ρ = some d /\ r ρ = some ds /\ gs = d :: ds := by
 unfold acons at h
 cases h1 : ma ρ with
 | none => rw [h1] at h; cases h
 | some d =>
  cases h2 : r ρ with
  | none => rw [h1, h2] at h; cases h
  | some ds => rw [h1, h2] at h; cases h; exact ⟨d, ds, rfl, rfl, rfl⟩
theorem pas_nil : PAs X [] anil := pa_nil.imp fun σ H Q hpat => by
 obtain ⟨F0, H0, F, ρ, g, rl, e, q⟩ := hpat
 cases e; exact q [] F H (.refl rl.fh) .nil
theorem pas_cons {es : List Expr} {m : ML} (ha : PD X a ma) (hr : PAs X es m) (hs : starEach (a :: es) X.env = (false, eval a X.env) :: starEach es X.env := by rfl) : PAs X (a :: es) (acons ma m) := (pa_cons ha hr hs).imp fun σ H Q hpat => by
 obtain ⟨F0, H0, F, ρ, g, rl, e, q⟩ := hpat
 obtain ⟨d, ds, h1, h2, rfl⟩ := acons_some e
 refine ⟨F0, H0, F, ρ, d, rl, h1, fun x F1 H1 x1 r1 => ⟨F0, H0, F1, ρ, ds, rl.go x1, h2, fun xs F2 H2 x2 r2 => ?_⟩⟩
 exact q _ F2 H2 (x1.trans x2) (.cons (r1.mono x2.ff) r2)
@[irreducible] noncomputable def sized (m : ML) : ML := fun ρ => match m ρ with | some ds => if ds.length <= sizeLine then some ds else none | none => none
theorem sized_some {m : ML} {ρ : Ro} {gs : List D} (h : sized m ρ = some gs) : m ρ = some gs /\ gs.length <= sizeLine := by
 unfold sized at h
 cases h1 : m ρ with
 | none => rw [h1] at h; cases h
 | some ds =>
  rw [h1] at h
  have h : (if ds.length <= sizeLine then some ds else none) = some gs := h
  split at h
  ·rename_i hz; cases h; exact ⟨rfl, hz⟩
  ·cases h
theorem pf_lst {es : List Expr} {m : ML} (h : PAs X es m) : PF X (.List es pos) (sized m) := (pe_lst h).imp fun σ H Q hpat => by
 obtain ⟨F0, H0, F, ρ, g, rl, e, q⟩ := hpat
 obtain ⟨h1, h2⟩ := sized_some e
 refine ⟨F0, H0, F, ρ, g, rl, h1, fun vs F1 H1 x1 r1 => ⟨by rw [r1.length]; exact h2, fun p hp => ?_⟩⟩
 exact q p vs F1 _ (x1.trans (Ext.own x1.fh hp)) (x1.hh.free hp) (x1.fh.free hp) upd_same r1
noncomputable def mlen (m : ML) : ME := fun ρ => (m ρ).map fun ds => .int ds.length
@[irreducible] noncomputable def mix (m : ML) (i : ME) : ME := fun ρ => (m ρ).bind fun ds => (i ρ).bind fun | .int k => atI ds k | _ => none
theorem atI_reps {K : W.Frag} {F : Hp} {vs : List V} {ds : List D} {k : Int} {d : D} (r : Reps K F vs ds) (h : atI ds k = some d) : ∃ v, atI vs k = some v /\ Rep K F v d := by
 unfold atI at h ⊢
 rw [r.length]
 cases q : ixN ds.length k with
 | none => rw [q] at h; cases h
 | some j =>
  rw [q] at h
  exact r.get h
theorem pd_ix {ml : ML} (ha : PB X a ml) (hb : PD X b mb) (hs : PlainIx b := by exact fun _ _ => rfl) : PD X (.Subscript a b pos) (mix ml mb) := (pe_ix ix_list ha hb hs).imp fun σ H Q hpat => by
 obtain ⟨F0, H0, F, ρ, g, rl, e, q⟩ := hpat
 unfold mix at e
 cases h1 : ml ρ with
 | none => rw [h1] at e; cases e
 | some ds =>
  cases h2 : mb ρ with
  | none => rw [h1, h2] at e; cases e
  | some i =>
   rw [h1, h2] at e
   refine ⟨F0, H0, F, ρ, ds, rl, h1, fun p xs F1 H1 x1 s1 r1 => ⟨F0, H0, F1, ρ, i, rl.go x1, h2, fun y F2 H2 x2 r2 => ?_⟩⟩
   cases r2 <;> first | (cases e; done) | skip
   rename_i k
   obtain ⟨v, h3, h4⟩ := atI_reps (r1.mono x2.ff) (show atI ds k = some g from e)
   exact ⟨p, xs, k, v, rfl, rfl, x2.hh.seq s1, h3, q v F2 H2 (x1.trans x2) h4⟩
theorem cut_reps {K : W.Frag} {F : Hp} {vs : List V} {ds : List D} (r : Reps K F vs ds) (lo hi : Option Int) : Reps K F (cutV vs lo hi) ((ds.drop (HT.sIx ds.length 0 lo)).take (HT.sIx ds.length ds.length hi - HT.sIx ds.length 0 lo)) := by
 unfold cutV
 rw [r.length]
 exact (r.drop _).take _
noncomputable def cutL (ds : List D) (lo hi : Option Int) : List D := (ds.drop (HT.sIx ds.length 0 lo)).take (HT.sIx ds.length ds.length hi - HT.sIx ds.length 0 lo)
noncomputable abbrev MO := Ro -> Option (Option Int)
noncomputable def onone : MO := fun _ => some none
noncomputable def osome (m : ME) : MO := fun ρ => (m ρ).bind fun | .int i => some (some i) | _ => none
noncomputable def TOs (K : W.Frag) (m : MO) : TO := fun σ H Q => ∃ F0 H0 F ρ i, Rl K F0 H0 F H σ ρ /\ m ρ = some i /\ ∀ F' H', Ext F H F' H' -> Q i H'
def POs (X : Cx) (e : Option Expr) (m : MO) : Prop := PO X e (TOs X.K m)
theorem PO.imp {e : Option Expr} {t t' : TO} (h : PO X e t) (i : ∀ σ H Q, t' σ H Q -> t σ H Q) : PO X e t' := fun pins s σ H Q I q => h pins s σ H Q I (i σ H Q q)
theorem pos_none : POs X none onone := PO.imp po_none fun σ H Q hpat => by obtain ⟨F0, H0, F, ρ, i, rl, e, q⟩ := hpat; cases e; exact q F H (.refl rl.fh)
theorem pos_some (h : PD X a ma) : POs X (some a) (osome ma) := PO.imp (po_some h) fun σ H Q hpat => by
 obtain ⟨F0, H0, F, ρ, i, rl, e, q⟩ := hpat
 unfold osome at e
 cases h1 : ma ρ with
 | none => rw [h1] at e; cases e
 | some d =>
  rw [h1] at e
  refine ⟨F0, H0, F, ρ, d, rl, h1, fun v F1 H1 x1 r1 => ?_⟩
  cases r1 <;> first | (cases e; done) | skip
  cases e
  exact ⟨_, rfl, q F1 H1 x1⟩
@[irreducible] noncomputable def mcut (m : ML) (lo hi : MO) : ML := fun ρ => (m ρ).bind fun ds => (lo ρ).bind fun l => (hi ρ).bind fun h => some (cutL ds l h)
theorem pf_cut {ml : ML} {lo hi : Option Expr} {l h : MO} (ha : PB X a ml) (hl : POs X lo l) (hh : POs X hi h) (hE : PE X e (tSl (rSlL X.K) (TB X.K ml) (TOs X.K l) (TOs X.K h))) : PF X e (mcut ml l h) := hE.imp fun σ H Q hpat => by
 obtain ⟨F0, H0, F, ρ, g, rl, e, q⟩ := hpat
 unfold mcut at e
 cases h1 : ml ρ with
 | none => rw [h1] at e; cases e
 | some ds =>
  cases h2 : l ρ with
  | none => rw [h1, h2] at e; cases e
  | some i =>
   cases h3 : h ρ with
   | none => rw [h1, h2, h3] at e; cases e
   | some j =>
    rw [h1, h2, h3] at e; cases e
    refine ⟨F0, H0, F, ρ, ds, rl, h1, fun p xs F1 H1 x1 s1 r1 => ⟨F0, H0, F1, ρ, i, rl.go x1, h2, fun F2 H2 x2 => ⟨F0, H0, F2, ρ, j, (rl.go x1).go x2, h3, fun F3 H3 x3 => ?_⟩⟩⟩
    refine ⟨p, xs, rfl, x3.hh.seq (x2.hh.seq s1), fun w hw => ?_⟩
    have xx := (x1.trans x2).trans x3
    exact q w _ F3 _ (xx.trans (Ext.own x3.fh hw)) (xx.hh.free hw) (x3.fh.free hw) upd_same (cut_reps (r1.mono (x2.ff.trans x3.ff)) i j)
end
end
section
theorem list_add_any (l : Addr) (items : Array Value) (n : Nat) (b : Addr) (items2 : Array Value) (n2 : Nat) (dd dd2 : Option Addr) (sl sl2 : Array (Option Value)) (hc0 : items.size + items2.size <= sizeLine) :
  Meets (Builtin.«list.__add__» ⟨[.ref l, .ref b], []⟩) (fun _ R s => s.heap.get? l = some { cls := .type "list", dict := dd, data := .seq items n, slots := sl } /\ s.heap.get? b = some { cls := .type "list", dict := dd2, data := .seq items2 n2, slots := sl2 } /\ R (.ok (.ret (Value.ref s.heap.objs.size))) { s with heap := s.heap.push { cls := Value.type "list", data := Data.seq (items ++ items2) }, toks := s.toks }) :=
 .of_wp fun prog w A R s h => by obtain ⟨hp, g, d, tk, os⟩ := s; obtain ⟨hl, hb, h⟩ := h; have f1 := AutoSeq1.idx_int; have f2 := AutoSeq1.sub_tuple_tuple; have f3 := AutoSeq1.sub_list_list; have f4 := AutoSeq1.sub_tuple_list; have f5 := AutoSeq1.sub_list_tuple; wp_walk using AutoSeq1.wpAny_loadPart' hl, AutoSeq1.wpAny_loadPart' hb; exact ⟨_, rfl, h⟩
section
variable {X : Cx} {a b c e : Expr} {ma mb : ME} {pos : Pos}
def rCatS (K : W.Frag) : R2 := fun x y H Q => ∃ l b xs zs, x = .ref l /\ y = .ref b /\ SqL K H l xs /\ SqL K H b zs /\ xs.length + zs.length <= sizeLine /\ ∀ p, H p = none -> Q (.ref p) (upd H p (.lst (xs ++ zs)))
theorem op_catS : OpR X (binaryOp .Add) (rCatS X.K) := by
 intro pins s σ H x y v u Q I rx ry h
 obtain ⟨l, b, xs, zs, rfl, rfl, hH, hB, hz, q⟩ := h
 cases rx
 cases ry
 obtain ⟨its, r, ⟨⟨cl, dd, dt, sl⟩, n, e, hc, hd, hs⟩, z⟩ := I.list hH
 obtain ⟨its2, r2, ⟨⟨cl2, dd2, dt2, sl2⟩, n2, e2, hc2, hd2, hs2⟩, z2⟩ := I.list hB
 simp only at hc hd hs hc2 hd2 hs2
 subst hc hd hs hc2 hd2 hs2
 have l1 := r.length
 have l2 := r2.length
 refine concat_meets (T := "list") ⟨_, e, rfl⟩ ⟨_, e2, rfl⟩ PySem.noFill_list_add PySem.seq_list_add F.slot_list_add F.entry_list_add (F.args_list_add_2 _ _) (list_add_any l its.toArray n b its2.toArray n2 none none sl sl2 (by rw [size_toArray, size_toArray]; omega)) ⟨e, e2, ?_⟩
 have ea : its.toArray ++ its2.toArray = (its ++ its2).toArray := by simp
 rw [ea]
 exact ⟨.ref _, _, I.lnew (t' := s.toks) (r.append r2) (by rw [length_append]; omega), rfl, q _ I.fresh⟩
@[irreducible] noncomputable def mcat (x y : ML) : ML := fun ρ => (x ρ).bind fun ds => (y ρ).bind fun es => if ds.length + es.length <= sizeLine then some (ds ++ es) else none
theorem mcat_some {x y : ML} {ρ : Ro} {gs : List D} (h : mcat x y ρ = some gs) : ∃ ds es, x ρ = some ds /\ y ρ = some es /\ ds.length + es.length <= sizeLine /\ gs = ds ++ es := by
 unfold mcat at h
 cases h1 : x ρ with
 | none => rw [h1] at h; cases h
 | some ds =>
  cases h2 : y ρ with
  | none => rw [h1, h2] at h; cases h
  | some es =>
   rw [h1, h2] at h
   have h : (if ds.length + es.length <= sizeLine then some (ds ++ es) else none) = some gs := h
   split at h
   ·rename_i hz; cases h; exact ⟨ds, es, rfl, rfl, hz, rfl⟩
   ·cases h
theorem pf_cat {x y : ML} (ha : PB X a x) (hb : PB X b y) : PF X (.BinOp a .Add b pos) (mcat x y) := (pe_op op_catS ha hb).imp fun σ H Q hpat => by
 obtain ⟨F0, H0, F, ρ, g, rl, e, q⟩ := hpat
 obtain ⟨ds, es, h1, h2, hz, rfl⟩ := mcat_some e
 refine ⟨F0, H0, F, ρ, ds, rl, h1, fun p xs F1 H1 x1 s1 r1 => ⟨F0, H0, F1, ρ, es, rl.go x1, h2, fun p2 ys F2 H2 x2 s2 r2 => ?_⟩⟩
 refine ⟨p, p2, xs, ys, rfl, rfl, x2.hh.seq s1, s2, by rw [r1.length, r2.length]; exact hz, fun w hw => ?_⟩
 have xx := x1.trans x2
 exact q w _ F2 _ (xx.trans (Ext.own x2.fh hw)) (xx.hh.free hw) (x2.fh.free hw) upd_same ((r1.mono x2.ff).append r2)
noncomputable def addD : D -> D -> Option D
 | .int i, .int j => some (.int (i + j))
 | .lst ds, .lst es => if ds.length + es.length <= sizeLine then some (.lst (ds ++ es)) else none
 | _, _ => none
theorem opd_add {K : W.Frag} : OpD K (fun x y H Q => (rI0 fun i j => V.int (i + j)) x y H Q \/ rCatS K x y H Q) addD := by
 intro F H x y d e w Q s r1 r2 h q
 cases d with
 | int i =>
  cases e with
  | int j =>
   cases h
   exact .inl ⟨_, _, r1.i', r2.i', q _ F H (.refl s) (.int _)⟩
  | _ => cases h
 | lst ds1 =>
  cases e with
  | lst ds2 =>
   obtain ⟨p1, xs1, e1, s1, t1⟩ := r1.l'
   obtain ⟨p2, xs2, e2, s2, t2⟩ := r2.l'
   have h : (if ds1.length + ds2.length <= sizeLine then some (D.lst (ds1 ++ ds2)) else none) = some w := h
   by_cases hz : ds1.length + ds2.length <= sizeLine
   ·rw [if_pos hz] at h
    cases h
    refine .inr ⟨_, _, _, _, e1, e2, s.seq s1, s.seq s2, by rw [t1.length, t2.length]; exact hz, fun p hp => ?_⟩
    exact q _ _ _ (Ext.laid s hp) (.lst (SqL.of upd_same) ((t1.append t2).mono ((Same.refl F).put (s.free hp))))
   ·rw [if_neg hz] at h; cases h
  | _ => cases h
 | _ => cases h
theorem pd_add (ha : PD X a ma) (hb : PD X b mb) : PD X (.BinOp a .Add b pos) (m2 addD ma mb) := pd_op (OpR.or op_add op_catS) opd_add ha hb
theorem pd_sub (ha : PD X a ma) (hb : PD X b mb) : PD X (.BinOp a .Sub b pos) (m2 subD ma mb) := pd_op op_sub opd_sub ha hb
theorem pd_mul (ha : PD X a ma) (hb : PD X b mb) : PD X (.BinOp a .Mult b pos) (m2 mulD ma mb) := pd_op op_mul opd_mul ha hb
theorem pd_fdiv (ha : PD X a ma) (hb : PD X b mb) : PD X (.BinOp a .FloorDiv b pos) (m2 fdivD ma mb) := pd_op op_fdiv opd_fdiv ha hb
theorem pd_mod (ha : PD X a ma) (hb : PD X b mb) : PD X (.BinOp a .Mod b pos) (m2 modD ma mb) := pd_op op_mod opd_mod ha hb
theorem pd_pow (ha : PD X a ma) (hb : PD X b mb) : PD X (.BinOp a .Pow b pos) (m2 powD ma mb) := pd_op op_pow opd_pow ha hb
theorem pd_shr (ha : PD X a ma) (hb : PD X b mb) : PD X (.BinOp a .RShift b pos) (m2 shrD ma mb) := pd_op op_shr opd_shr ha hb
@[irreducible] noncomputable def call1 (f : List D -> Option D) (m : ML) : ME := fun ρ => (m ρ).bind f
def CallD (K : W.Frag) (r : List V -> Hp -> VK -> Prop) (f : List D -> Option D) : Prop := ∀ (F H : Hp) (vs : List V) (ds : List D) (g : D) (Q : VK), Same F H -> Reps K F vs ds -> f ds = some g -> (∀ v F' H', Ext F H F' H' -> Rep K F' v g -> Q v H') -> r vs H Q
theorem call_d {r : List V -> Hp -> VK -> Prop} {f : List D -> Option D} {m : ML} (hf : CallD X.K r f) {σ : St} {H : Hp} {Q : VK} (h : TD X.K (call1 f m) σ H Q) : tCB r (TAs X.K m) σ H Q := by
 obtain ⟨F0, H0, F, ρ, g, rl, e, q⟩ := h
 unfold call1 at e
 cases h1 : m ρ with
 | none => rw [h1] at e; cases e
 | some ds =>
  rw [h1] at e
  exact ⟨F0, H0, F, ρ, ds, rl, h1, fun vs F1 H1 x1 r1 => hf F1 H1 vs ds g Q x1.fh r1 e fun v F' H' x2 => q v F' H' (x1.trans x2)⟩
noncomputable def lenF : List D -> Option D
 | [.lst ds] => some (.int ds.length)
 | [.tup ds] => some (.int ds.length)
 | [.str x] => if x.length <= sizeLine then some (.int x.length) else none
 | _ => none
theorem calld_len {K : W.Frag} : CallD K (fun xs H Q => (∃ p ys, xs = [.ref p] /\ (SqL K H p ys \/ SqT K H p ys) /\ Q (.int ys.length) H) \/ (∃ z, xs = [.str z] /\ z.length <= sizeLine /\ Q (.int z.length) H)) lenF := by
 intro F H vs ds g Q s r h q
 cases r with
 | nil => cases h
 | cons r rr =>
  cases rr with
  | cons _ _ => revert h; unfold lenF; intro h; split at h <;> simp_all
  | nil =>
   cases r with
   | lst s1 t1 => cases h; exact .inl ⟨_, _, rfl, .inl (s.seq s1), by rw [t1.length]; exact q _ F H (.refl s) (.int _)⟩
   | tup s1 t1 => cases h; exact .inl ⟨_, _, rfl, .inr (s.seqT s1), by rw [t1.length]; exact q _ F H (.refl s) (.int _)⟩
   | str x =>
    have h : (if x.length <= sizeLine then some (D.int x.length) else none) = some g := h
    split at h
    ·rename_i hz; cases h; exact .inr ⟨_, rfl, hz, q _ F H (.refl s) (.int _)⟩
    ·cases h
   | _ => cases h
theorem pd_len {e : Expr} {p : Pos} {m : ML} (hg : Gl X "len") (hm : X.mg "len" = none) (ha : PAs X [e] m) (he : starEach [e] X.env = (false, eval e X.env) :: starEach [] X.env := by rfl) (hpl : (backTo pos (starEach [] X.env)).any (·.1) = false := by rfl) : PD X (.Call (.Name "len" p) [e] [] pos) (call1 lenF m) :=
 (pe_callB (CallR.or call_len_seq call_len_str) hg hm PySem.boot_len ha (by decide) (by decide) he hpl).imp fun _ _ _ h => call_d calld_len h
theorem pd_lenB {e : Expr} {p : Pos} {m : ML} (hg : Gl X "len") (hm : X.mg "len" = none) (ha : PB X e m) (hs : starEach (e :: []) X.env = (false, eval e X.env) :: starEach [] X.env := by rfl) (he : starEach [e] X.env = (false, eval e X.env) :: starEach [] X.env := by rfl) (hpl : (backTo pos (starEach [] X.env)).any (·.1) = false := by rfl) : PD X (.Call (.Name "len" p) [e] [] pos) (mlen m) :=
 (pe_callB call_len_seq hg hm PySem.boot_len (pa_cons ha pa_nil hs) (by decide) (by decide) he hpl).imp fun σ H Q hpat => by
  obtain ⟨F0, H0, F, ρ, g, rl, e, q⟩ := hpat
  unfold mlen at e
  cases h1 : m ρ with
  | none => rw [h1] at e; cases e
  | some ds =>
   rw [h1] at e; cases e
   refine ⟨F0, H0, F, ρ, ds, rl, h1, fun p xs F1 H1 x1 s1 r1 => ⟨p, xs, rfl, .inl s1, ?_⟩⟩
   rw [r1.length]
   exact q _ F1 H1 x1 (.int _)
noncomputable def two2 (k : Int -> Int -> Int) : List D -> Option D
 | [.int i, .int j] => some (.int (k i j))
 | _ => none
theorem two2_inv {k : Int -> Int -> Int} {ds : List D} {g : D} (h : two2 k ds = some g) : ∃ i j, ds = [.int i, .int j] /\ g = .int (k i j) := by
 cases ds with
 | nil => cases h
 | cons d ds =>
  cases ds with
  | nil => cases d <;> cases h
  | cons e ds =>
   cases ds with
   | cons f ds => cases d <;> first | (cases h; done) | (cases e <;> cases h)
   | nil =>
    cases d with
    | int i =>
     cases e with
     | int j => cases h; exact ⟨i, j, rfl, rfl⟩
     | _ => cases h
    | _ => cases h
theorem calld_two {K : W.Frag} {k : Int -> Int -> Int} : CallD K (fun xs H Q => ∃ i j, xs = [.int i, .int j] /\ Q (.int (k i j)) H) (two2 k) := by
 intro F H vs ds g Q s r h q
 obtain ⟨i, j, rfl, rfl⟩ := two2_inv h
 cases r with
 | cons r rr =>
  cases rr with
  | cons r2 rr =>
   cases rr
   rw [r.i', r2.i']
   exact ⟨_, _, rfl, q _ F H (.refl s) (.int _)⟩
noncomputable def max2F : List D -> Option D := two2 fun i j => if j > i then j else i
noncomputable def min2F : List D -> Option D := two2 fun i j => if j < i then j else i
theorem pd_max2 {x y : Expr} {p : Pos} {m : ML} (hc : X.calm = true) (hg : Gl X "max") (hm : X.mg "max" = none) (ha : PAs X [x, y] m) (he : starEach [x, y] X.env = (false, eval x X.env) :: starEach [y] X.env := by rfl) (hpl : (backTo pos (starEach [y] X.env)).any (·.1) = false := by rfl) : PD X (.Call (.Name "max" p) [x, y] [] pos) (call1 max2F m) :=
 (pe_callB (call_max2 hc) hg hm PyProof.Rows.boot_max ha (by decide) (by decide) he hpl).imp fun _ _ _ h => call_d (calld_two (k := fun i j => if j > i then j else i)) h
theorem pd_min2 {x y : Expr} {p : Pos} {m : ML} (hc : X.calm = true) (hg : Gl X "min") (hm : X.mg "min" = none) (ha : PAs X [x, y] m) (he : starEach [x, y] X.env = (false, eval x X.env) :: starEach [y] X.env := by rfl) (hpl : (backTo pos (starEach [y] X.env)).any (·.1) = false := by rfl) : PD X (.Call (.Name "min" p) [x, y] [] pos) (call1 min2F m) :=
 (pe_callB (call_min2 hc) hg hm PyProof.Rows.boot_min ha (by decide) (by decide) he hpl).imp fun _ _ _ h => call_d (calld_two (k := fun i j => if j < i then j else i)) h
noncomputable def intF : List D -> Option D
 | [.int i] => some (.int i)
 | [.bl k] => some (.int (if k then 1 else 0))
 | _ => none
theorem calld_int {K : W.Frag} : CallD K (fun xs H Q => (∃ i, xs = [.int i] /\ Q (.int i) H) \/ ∃ k, xs = [.bl k] /\ Q (.int (if k then 1 else 0)) H) intF := by
 intro F H vs ds g Q s r h q
 cases r with
 | nil => cases h
 | cons r rr =>
  cases rr with
  | cons _ _ => revert h; unfold intF; intro h; split at h <;> simp_all
  | nil =>
   cases r with
   | int i => cases h; exact .inl ⟨_, rfl, q _ F H (.refl s) (.int _)⟩
   | bl i => cases h; exact .inr ⟨_, rfl, q _ F H (.refl s) (.int _)⟩
   | _ => cases h
theorem pd_intc {e : Expr} {p : Pos} {m : ML} (hg : Gl X "int") (hm : X.mg "int" = none) (ha : PAs X [e] m) (hv : bootBuiltins "int" = some (.type "int")) (he : starEach [e] X.env = (false, eval e X.env) :: starEach [] X.env := by rfl) (hpl : (backTo pos (starEach [] X.env)).any (·.1) = false := by rfl) : PD X (.Call (.Name "int" p) [e] [] pos) (call1 intF m) :=
 (pe_callTy call_int1 hg hm hv ha (by decide) (by decide) he hpl).imp fun _ _ _ h => call_d calld_int h
end
end
section
inductive Out where
 | nx (ρ : Ro) | bk (ρ : Ro) | ct (ρ : Ro) | rt (d : D) | rf (ds : List D) | rp (d : D) (ds : List D) | rg (d : D) (p : Addr) (r : List D) | rgf (ds : List D) (p : Addr) (r : List D)
noncomputable abbrev MS := Ro -> Option Out
noncomputable def okO (K : W.Frag) (F0 H0 Fb : Hp) (Dn : Ends) : Out -> Prop
 | .nx ρ => ∀ F H σ, Rl K F0 H0 F H σ ρ -> Same Fb F -> Dn.nx σ H
 | .bk ρ => ∀ F H σ, Rl K F0 H0 F H σ ρ -> Same Fb F -> Dn.bk σ H
 | .ct ρ => ∀ F H σ, Rl K F0 H0 F H σ ρ -> Same Fb F -> Dn.ct σ H
 | .rt d => ∀ v F H, Ext F0 H0 F H -> Rep K F v d -> Dn.rt v H
 | .rf ds => ∀ p xs F H, Ext F0 H0 F H -> H0 p = none -> F p = none -> H p = some (.lst xs) -> Reps K F xs ds -> Dn.rt (.ref p) H
 | .rp d ds => ∀ t v p xs F H, Ext F0 H0 F H -> H0 t = none -> H0 p = none -> t ≠ p -> F t = none -> F p = none -> H t = some (.tup [v, .ref p]) -> H p = some (.lst xs) -> Rep K F v d -> Reps K F xs ds -> Dn.rt (.ref t) H
 | .rg d p r => ∀ v F H xs, Ext F0 H0 F H -> Rep K F v d -> F p = none -> H p = some (.lst xs) -> Reps K F xs r -> Dn.rt v H
 | .rgf ds p r => ∀ q ys F H xs, Ext F0 H0 F H -> H0 q = none -> F q = none -> q ≠ p -> H q = some (.lst ys) -> Reps K F ys ds -> F p = none -> H p = some (.lst xs) -> Reps K F xs r -> Dn.rt (.ref q) H
def TSd (K : W.Frag) (m : MS) : TS := fun Dn σ H => ∃ F0 H0 F ρ o, Rl K F0 H0 F H σ ρ /\ m ρ = some o /\ okO K F0 H0 F Dn o
theorem okO.mono {K : W.Frag} {F0 H0 Fb Fb' : Hp} {Dn : Ends} (s : Same Fb Fb') : ∀ {o : Out}, okO K F0 H0 Fb Dn o -> okO K F0 H0 Fb' Dn o
 | .nx _, h => fun F H σ rl q => h F H σ rl (s.trans q)
 | .bk _, h => fun F H σ rl q => h F H σ rl (s.trans q)
 | .ct _, h => fun F H σ rl q => h F H σ rl (s.trans q)
 | .rt _, h => h
 | .rf _, h => h
 | .rp _ _, h => h
 | .rg _ _ _, h => h
 | .rgf _ _ _, h => h
def PSd (X : Cx) (st : Stmt) (m : MS) : Prop := PS X st (TSd X.K m)
def PSsd (X : Cx) (st : List Stmt) (m : MS) : Prop := PSs X st (TSd X.K m)
section
variable {X : Cx} {a b c e : Expr} {ma mb : ME} {pos : Pos} {st : Stmt} {rest : List Stmt} {m1 m2' : MS}
theorem PS.imp {t t' : TS} (h : PS X st t) (i : ∀ D σ H, t' D σ H -> t D σ H) : PS X st t' := fun pins s σ H D I q => h pins s σ H D I (i D σ H q)
theorem PSs.imp {sts : List Stmt} {t t' : TS} (h : PSs X sts t) (i : ∀ D σ H, t' D σ H -> t D σ H) : PSs X sts t' := fun pins s σ H D I q => h pins s σ H D I (i D σ H q)
noncomputable def mnext : MS := fun ρ => some (.nx ρ)
noncomputable def mseq (x y : MS) : MS := fun ρ => match x ρ with | some (.nx ρ') => y ρ' | o => o
theorem pssd_nil : PSsd X [] mnext := pss_nil.imp fun D σ H hpat => by obtain ⟨F0, H0, F, ρ, o, rl, e, ok⟩ := hpat; cases e; exact ok F H σ rl (Same.refl _)
theorem pssd_cons (h1 : PSd X st m1) (h2 : PSsd X rest m2') : PSsd X (st :: rest) (mseq m1 m2') := (pss_cons h1 h2).imp fun D σ H hpat => by
 obtain ⟨F0, H0, F, ρ, o, rl, e, ok⟩ := hpat
 unfold mseq at e
 cases h : m1 ρ with
 | none => rw [h] at e; cases e
 | some o1 =>
  rw [h] at e
  cases o1 with
  | nx ρ1 => exact ⟨F0, H0, F, ρ, _, rl, h, fun F' H' σ' rl' sf => ⟨F0, H0, F', ρ1, o, rl', e, ok.mono sf⟩⟩
  | bk ρ1 => cases e; exact ⟨F0, H0, F, ρ, _, rl, h, ok⟩
  | ct ρ1 => cases e; exact ⟨F0, H0, F, ρ, _, rl, h, ok⟩
  | rt d => cases e; exact ⟨F0, H0, F, ρ, _, rl, h, ok⟩
  | rf d => cases e; exact ⟨F0, H0, F, ρ, _, rl, h, ok⟩
  | rp d ds => cases e; exact ⟨F0, H0, F, ρ, _, rl, h, ok⟩
  | rg d p r => cases e; exact ⟨F0, H0, F, ρ, _, rl, h, ok⟩
  | rgf d p r => cases e; exact ⟨F0, H0, F, ρ, _, rl, h, ok⟩
theorem pssd_one (h1 : PSd X st m1) : PSsd X [st] m1 := pss_one h1
noncomputable def mif (c : MB) (x y : MS) : MS := fun ρ => match c ρ with | some true => x ρ | some false => y ρ | none => none
theorem psd_if {ca : MB} {x y : List Stmt} {mx my : MS} (hc : PC' X c ca) (hx : PSsd X x mx) (hy : PSsd X y my) : PSd X (.If c x y pos) (mif ca mx my) := (ps_if hc hx hy).imp fun D σ H hpat => by
 obtain ⟨F0, H0, F, ρ, o, rl, e, ok⟩ := hpat
 unfold mif at e
 split at e
 ·rename_i h1
  refine ⟨F0, H0, F, ρ, _, rl, h1, fun F1 H1 x1 => iteT ⟨F0, H0, F1, ρ, o, rl.go x1, e, ok.mono x1.ff⟩⟩
 ·rename_i h1
  refine ⟨F0, H0, F, ρ, _, rl, h1, fun F1 H1 x1 => iteF ⟨F0, H0, F1, ρ, o, rl.go x1, e, ok.mono x1.ff⟩⟩
 ·cases e
noncomputable def mnever : MS := fun _ => none
theorem psd_never : PSd X st mnever := ps_never.imp fun D σ H hpat => by obtain ⟨F0, H0, F, ρ, o, rl, e, ok⟩ := hpat; cases e
noncomputable def mset (i : Nat) (x : ME) : MS := fun ρ => (x ρ).map fun d => .nx (ρ.set i (some (.sh d)))
noncomputable def msetF (i : Nat) (x : ML) : MS := fun ρ => (x ρ).map fun ds => .nx (ρ.set i (some (.own ds)))
theorem asg_d {t : TE} {i : Nat} (h : PS X st (tAsg t (gName i))) (ht : ∀ σ H Q, TD X.K ma σ H Q -> t σ H Q) : PSd X st (mset i ma) := h.imp fun D σ H hpat => by
 obtain ⟨F0, H0, F, ρ, o, rl, e, ok⟩ := hpat
 unfold mset at e
 cases h1 : ma ρ with
 | none => rw [h1] at e; cases e
 | some d =>
  rw [h1] at e; cases e
  exact ht _ _ _ ⟨F0, H0, F, ρ, d, rl, h1, fun v F1 H1 x1 r1 => ok F1 H1 _ ((rl.go x1).set r1) x1.ff⟩
theorem asg_f {t : TE} {i : Nat} {mf : ML} (h : PS X st (tAsg t (gName i))) (ht : ∀ σ H Q, TF X.K mf σ H Q -> t σ H Q) : PSd X st (msetF i mf) := h.imp fun D σ H hpat => by
 obtain ⟨F0, H0, F, ρ, o, rl, e, ok⟩ := hpat
 unfold msetF at e
 cases h1 : mf ρ with
 | none => rw [h1] at e; cases e
 | some ds =>
  rw [h1] at e; cases e
  refine ht _ _ _ ⟨F0, H0, F, ρ, ds, rl, h1, fun p xs F1 H1 x1 hp hF hH r1 => ok F1 H1 _ ?_ x1.ff⟩
  refine (rl.go x1).setOwn hF hH r1 (rl.ext.hh.free hp) (fun j es hj e1 e2 => ?_) fun j q es e1 z => ?_
  ·obtain ⟨q, ys, a1, a2, a3, _⟩ := rl.own j es e1
   rw [a1] at e2; cases e2
   rw [hp] at a3; cases a3
  ·obtain ⟨_, _, _, ys, a3, _⟩ := rl.ob j q es e1
   rw [z, hp] at a3; cases a3
theorem psd_set {i : Nat} {x : Str} {pos' : Pos} (hN : X.N.Nodup) (hi : X.N[i]? = some x) (hx : Loc X.env.scope x) (he : PD X e ma) (hs : swapsWith e (some (.Name x pos')) pos.line X.env = pure false := by rfl) (hf : X.fn x = true \/ X.env.scope.names.lookup x = some .local := by first | exact .inl rfl | exact .inr rfl | assumption) :
  PSd X (.Assign [.Name x pos'] e pos) (mset i ma) := asg_d (ps_set hN hi hx he hs hf) fun _ _ _ h => h
theorem psd_setF {i : Nat} {x : Str} {pos' : Pos} {mf : ML} (hN : X.N.Nodup) (hi : X.N[i]? = some x) (hx : Loc X.env.scope x) (he : PF X e mf) (hs : swapsWith e (some (.Name x pos')) pos.line X.env = pure false := by rfl) (hf : X.fn x = true \/ X.env.scope.names.lookup x = some .local := by first | exact .inl rfl | exact .inr rfl | assumption) :
  PSd X (.Assign [.Name x pos'] e pos) (msetF i mf) := asg_f (ps_set hN hi hx he hs hf) fun _ _ _ h => h
noncomputable def mret (x : ME) : MS := fun ρ => (x ρ).map .rt
noncomputable def mretF (x : ML) : MS := fun ρ => (x ρ).map .rf
noncomputable def mretO (i : Nat) : MS := fun ρ => match ρ[i]? with | some (some (.own ds)) => some (.rf ds) | some (some (.sh d)) => some (.rt d) | _ => none
theorem psd_ret (he : PD X e ma) : PSd X (.Return (some e) pos) (mret ma) := (ps_ret he).imp fun D σ H hpat => by
 obtain ⟨F0, H0, F, ρ, o, rl, e, ok⟩ := hpat
 unfold mret at e
 cases h1 : ma ρ with
 | none => rw [h1] at e; cases e
 | some d =>
  rw [h1] at e; cases e
  exact ⟨F0, H0, F, ρ, d, rl, h1, fun v F1 H1 x1 r1 => ok v F1 H1 (rl.ext.trans x1) r1⟩
theorem psd_retF {mf : ML} (he : PF X e mf) : PSd X (.Return (some e) pos) (mretF mf) := (ps_ret he).imp fun D σ H hpat => by
 obtain ⟨F0, H0, F, ρ, o, rl, e, ok⟩ := hpat
 unfold mretF at e
 cases h1 : mf ρ with
 | none => rw [h1] at e; cases e
 | some ds =>
  rw [h1] at e; cases e
  exact ⟨F0, H0, F, ρ, ds, rl, h1, fun p xs F1 H1 x1 hp hF hH r1 => ok p xs F1 H1 (rl.ext.trans x1) (rl.ext.hh.free hp) hF hH r1⟩
theorem psd_retO (i : Nat) {x : Str} {pos' : Pos} (h : PE X (.Name x pos') (tVar i)) : PSd X (.Return (some (.Name x pos')) pos) (mretO i) := (ps_ret h).imp fun D σ H hpat => by
 obtain ⟨F0, H0, F, ρ, o, rl, e, ok⟩ := hpat
 unfold mretO at e
 split at e
 ·rename_i ds h1
  cases e
  obtain ⟨p, xs, e1, e2, e3, e4, e5⟩ := rl.own i _ h1
  exact ⟨_, e1, ok p xs F H rl.ext e5 e2 e3 e4⟩
 ·rename_i d h1
  cases e
  obtain ⟨v, e1, e2⟩ := rl.sh i _ h1
  exact ⟨_, e1, ok v F H rl.ext e2⟩
 ·cases e
noncomputable def mapp (i : Nat) (x : ME) : MS := fun ρ => match ρ[i]? with | some (some (.own ds)) => (x ρ).bind fun d => if ds.length < sizeLine then some (.nx (ρ.set i (some (.own (ds ++ [d]))))) else none | _ => none
theorem psd_append {i : Nat} {x : Str} {e : Expr} {px apos cpos : Pos} (hv : PE X (.Name x px) (tVar i)) (he : PD X e ma)
  (hE : ∀ t, PA X [e] t -> PE X (.Call (.Attribute (.Name x px) "append" apos) [e] [] cpos) (tBM X.K "list" rAppend (tVar i) t)) (hA : PAs X [e] (acons ma anil)) (hs : swapsWith (.Call (.Attribute (.Name x px) "append" apos) [e] [] cpos) none pos.line X.env = pure false := by rfl) :
  PSd X (.Expr (.Call (.Attribute (.Name x px) "append" apos) [e] [] cpos) pos) (mapp i ma) := (ps_expr (hE _ hA) hs).imp fun D σ H hpat => by
 obtain ⟨F0, H0, F, ρ, o, rl, e, ok⟩ := hpat
 unfold mapp at e
 split at e
 ·rename_i ds h1
  obtain ⟨p, xs, e1, e2, e3, e4, e5⟩ := rl.own i _ h1
  cases h2 : ma ρ with
  | none => rw [h2] at e; cases e
  | some d =>
   rw [h2] at e
   have e : (if ds.length < sizeLine then some (Out.nx (ρ.set i (some (.own (ds ++ [d]))))) else none) = some o := e
   split at e
   ·rename_i hz
    cases e
    refine ⟨_, e1, .inl ⟨rfl, _, SqL.of e3⟩, F0, H0, F, ρ, [d], rl, by unfold acons anil; rw [h2]; rfl, fun vs F1 H1 x1 r1 => ?_⟩
    cases r1 with
    | cons r rr =>
     cases rr
     have hp : H1 p = some (.lst xs) := x1.hh _ _ e3
     exact ⟨p, xs, _, rfl, rfl, hp, by rw [e4.length]; exact hz, ok F1 _ σ ((rl.go x1).write h1 e1 ((e4.mono x1.ff).append (.cons r .nil))) x1.ff⟩
   ·cases e
 ·cases e
noncomputable def msetix (i : Nat) (ix v : ME) : MS := fun ρ => (v ρ).bind fun d => match ρ[i]? with
 | some (some (.own ds)) => (ix ρ).bind (fun x => match x with | .int k => (ixN ds.length k).map fun j => .nx (ρ.set i (some (.own (ds.set j d)))) | _ => none)
 | some (some (.ob p ds)) => (ix ρ).bind (fun x => match x with | .int k => (ixN ds.length k).map fun j => .nx (ρ.set i (some (.ob p (ds.set j d)))) | _ => none)
 | _ => none
theorem psd_setix {i : Nat} (hE : PS X st (tAsg (TD X.K mb) (gSub (tVar i) (TD X.K ma) rSetL))) : PSd X st (msetix i ma mb) := hE.imp fun D σ H hpat => by
 obtain ⟨F0, H0, F, ρ, o, rl, e, ok⟩ := hpat
 unfold msetix at e
 cases h1 : mb ρ with
 | none => rw [h1] at e; cases e
 | some d =>
  rw [h1] at e
  refine ⟨F0, H0, F, ρ, d, rl, h1, fun y F1 H1 x1 r1 => ?_⟩
  dsimp only [Option.bind] at e
  split at e
  ·rename_i ds h2
   obtain ⟨p, xs, e1, e2, e3, e4, e5⟩ := (rl.go x1).own i _ h2
   cases h3 : ma ρ with
   | none => rw [h3] at e; cases e
   | some k' =>
    rw [h3] at e
    refine ⟨_, e1, F0, H0, F1, ρ, k', rl.go x1, h3, fun z F2 H2 x2 r2 => ?_⟩
    cases r2 <;> first | (cases e; done) | skip
    rename_i k
    have e : (ixN ds.length k).map (fun j => Out.nx (ρ.set i (some (.own (ds.set j d))))) = some o := e
    cases h4 : ixN ds.length k with
    | none => rw [h4] at e; cases e
    | some j =>
     rw [h4] at e; cases e
     have rl2 := (rl.go x1).go x2
     refine ⟨p, xs, k, j, rfl, rfl, x2.hh _ _ e3, by rw [e4.length]; exact h4, ok F2 _ σ (rl2.write h2 e1 (Reps.set (r1.mono x2.ff) j (e4.mono x2.ff))) (x1.ff.trans x2.ff)⟩
  ·rename_i p ds h2
   obtain ⟨e1, e2, e5, xs, e3, e4⟩ := (rl.go x1).ob i p _ h2
   cases h3 : ma ρ with
   | none => rw [h3] at e; cases e
   | some k' =>
    rw [h3] at e
    refine ⟨_, e1, F0, H0, F1, ρ, k', rl.go x1, h3, fun z F2 H2 x2 r2 => ?_⟩
    cases r2 <;> first | (cases e; done) | skip
    rename_i k
    have e : (ixN ds.length k).map (fun j => Out.nx (ρ.set i (some (.ob p (ds.set j d))))) = some o := e
    cases h4 : ixN ds.length k with
    | none => rw [h4] at e; cases e
    | some j =>
     rw [h4] at e; cases e
     have rl2 := (rl.go x1).go x2
     refine ⟨p, xs, k, j, rfl, rfl, x2.hh _ _ e3, by rw [e4.length]; exact h4, ok F2 _ σ (rl2.writeB h2 (Reps.set (r1.mono x2.ff) j (e4.mono x2.ff))) (x1.ff.trans x2.ff)⟩
  ·cases e
noncomputable def mfreeze (i : Nat) (m : MS) : MS := fun ρ => match ρ[i]? with | some (some (.own ds)) => m (ρ.set i (some (.sh (.lst ds)))) | _ => m ρ
theorem pssd_freeze (i : Nat) {sts : List Stmt} {m : MS} (h : PSsd X sts m) : PSsd X sts (mfreeze i m) := h.imp fun D σ H hpat => by
 obtain ⟨F0, H0, F, ρ, o, rl, e, ok⟩ := hpat
 unfold mfreeze at e
 split at e
 ·rename_i ds h1
  obtain ⟨F', rl', sf⟩ := rl.freeze h1
  exact ⟨F0, H0, F', _, o, rl', e, ok.mono sf⟩
 ·exact ⟨F0, H0, F, ρ, o, rl, e, ok⟩
inductive Tg where
 | nm (i : Nat) | tp (is : List Nat) | nt (i : Nat) (is : List Nat)
noncomputable def setAll : List Nat -> List D -> Ro -> Option Ro
 | [], [], ρ => some ρ
 | i :: is, d :: ds, ρ => setAll is ds (ρ.set i (some (.sh d)))
 | _, _, _ => none
noncomputable def tgD : Tg -> D -> Ro -> Option Ro
 | .nm i, d, ρ => some (ρ.set i (some (.sh d)))
 | .tp is, .tup ds, ρ => setAll is ds ρ
 | .nt i is, .tup [d, .tup ds], ρ => setAll is ds (ρ.set i (some (.sh d)))
 | _, _, _ => none
def TGd (K : W.Frag) (g : Tg) : TG := fun v σ H Q => ∃ F0 H0 F ρ d ρ', Rl K F0 H0 F H σ ρ /\ Rep K F v d /\ tgD g d ρ = some ρ' /\ ∀ F' H' σ', Rl K F0 H0 F' H' σ' ρ' -> Ext F H F' H' -> Q σ' H'
def PGd (X : Cx) (tg : Expr) (g : Tg) : Prop := PG X tg (TGd X.K g)
theorem PG.imp {tg : Expr} {t t' : TG} (h : PG X tg t) (i : ∀ v σ H Q, t' v σ H Q -> t v σ H Q) : PG X tg t' := fun pins s σ H v u Q I r q => h pins s σ H v u Q I r (i v σ H Q q)
theorem pgd_name {i : Nat} {x : Str} {pos : Pos} (h : PG X (.Name x pos) (gName i)) : PGd X (.Name x pos) (.nm i) := PG.imp h fun v σ H Q hpat => by
 obtain ⟨F0, H0, F, ρ, d, ρ', rl, r, e, q⟩ := hpat
 cases e; exact q F H _ (rl.set r) (.refl rl.fh)
noncomputable def gAll : List Nat -> TGs
 | [] => gNil
 | i :: is => gCons (gName i) (gAll is)
theorem gAll_ok {K : W.Frag} {F0 H0 F H : Hp} {Q : St -> Hp -> Prop} : ∀ (is : List Nat) (vs : List V) (ds : List D) (σ : St) (ρ ρ' : Ro), Rl K F0 H0 F H σ ρ -> Reps K F vs ds -> setAll is ds ρ = some ρ' -> (∀ σ', Rl K F0 H0 F H σ' ρ' -> Q σ' H) -> gAll is vs σ H Q
 | [], _, [], σ, ρ, ρ', rl, r, e, q => by cases r; cases e; exact ⟨rfl, q σ rl⟩
 | [], _, _ :: _, _, _, _, _, _, e, _ => by cases e
 | _ :: _, _, [], _, _, _, _, _, e, _ => by cases e
 | i :: is, _, d :: ds, σ, ρ, ρ', rl, r, e, q => by
  cases r with
  | cons r rr => exact ⟨_, _, rfl, gAll_ok is _ ds _ _ ρ' (rl.set r) rr e q⟩
theorem setAll_len : ∀ (is : List Nat) (ds : List D) (ρ ρ' : Ro), setAll is ds ρ = some ρ' -> ds.length = is.length
 | [], [], _, _, _ => rfl
 | [], _ :: _, _, _, e => by cases e
 | _ :: _, [], _, _, e => by cases e
 | _ :: is, _ :: ds, ρ, ρ', e => congrArg (· + 1) (setAll_len is ds _ ρ' e)
theorem pgd_tup {es : List Expr} {k n : Nat} {is : List Nat} {pos : Pos} (h : PG X (.Tuple es k pos) (gTup X.K n (gAll is))) (hn : is.length = n := by rfl) : PGd X (.Tuple es k pos) (.tp is) := PG.imp h fun v σ H Q hpat => by
 obtain ⟨F0, H0, F, ρ, d, ρ', rl, r, e, q⟩ := hpat
 cases r with
 | tup s t => exact ⟨_, _, rfl, rl.fh.seqT s, by rw [t.length, setAll_len _ _ _ _ e, hn], gAll_ok is _ _ σ ρ ρ' rl t e fun σ' rl' => q F H σ' rl' (.refl rl.fh)⟩
 | _ => cases e
structure ItD (K : W.Frag) (F : Hp) (J : It) (its : List D) : Prop where
 go : ∀ (i : Nat) F1 H1, Same F F1 -> Same F1 H1 -> i < its.length -> J.go i H1
 yld : ∀ (i : Nat) F1 H1 x H2 d, Same F F1 -> Same F1 H1 -> its[i]? = some d -> J.yld i H1 x H2 -> ∃ F2, Ext F1 H1 F2 H2 /\ Rep K F2 x d
 stop : ∀ F1 H1, Same F F1 -> Same F1 H1 -> J.stop its.length H1
def TId (K : W.Frag) (mi : ML) : TI := fun σ H R => ∃ F0 H0 F ρ its, Rl K F0 H0 F H σ ρ /\ mi ρ = some its /\ ∀ J F' H', Ext F H F' H' -> ItD K F' J its -> R J H'
def PId (X : Cx) (tg iter : Expr) (mi : ML) : Prop := PI X tg iter (TId X.K mi)
theorem PI.imp {tg it : Expr} {t t' : TI} (h : PI X tg it t) (i : ∀ σ H R, t' σ H R -> t σ H R) : PI X tg it t' := fun pins s σ H R I q => h pins s σ H R I (i σ H R q)
theorem itd_list {K : W.Frag} {F : Hp} {p : Addr} {xs : List V} {ds : List D} (s : SqL K F p xs) (r : Reps K F xs ds) : ItD K F (Itl K p) ds where
 go := fun i F1 H1 a b hi => by
  obtain ⟨v, e, _⟩ := r.get (getElem?_eq_getElem hi)
  exact ⟨xs, v, b.seq (a.seq s), e⟩
 yld := fun i F1 H1 x H2 d a b e y => by
  obtain ⟨rfl, y⟩ := y
  obtain ⟨v, e1, e2⟩ := r.get e
  have := y xs (b.seq (a.seq s))
  rw [e1] at this; cases this
  exact ⟨F1, .refl b, e2.mono a⟩
 stop := fun F1 H1 a b => ⟨xs, b.seq (a.seq s), by rw [r.length]; exact Nat.le_refl _⟩
theorem pid_seq {tg : Expr} (hd : PD X e ma) : PId X tg e (aslst ma) := PI.imp (pi_list hd) fun σ H R hpat => by
 obtain ⟨F0, H0, F, ρ, its, rl, e, q⟩ := hpat
 unfold aslst at e
 split at e
 ·rename_i ds h1
  cases e
  refine ⟨F0, H0, F, ρ, _, rl, h1, fun v F1 H1 x1 r1 => ?_⟩
  cases r1 with
  | lst s t => exact ⟨_, rfl, ⟨_, x1.fh.seq s⟩, q _ F1 H1 x1 (itd_list s t)⟩
 ·cases e
noncomputable def rangeD (lo : Int) (n : Nat) : List D := (List.range n).map fun (i : Nat) => D.int (lo + (i : Int))
theorem rangeD_length (lo : Int) (n : Nat) : (rangeD lo n).length = n := by unfold rangeD; simp
theorem itd_range {K : W.Frag} {F : Hp} {lo : Int} {n : Nat} : ItD K F (Itr lo n) (rangeD lo n) where
 go := fun i F1 H1 a b hi => by rw [rangeD_length] at hi; exact hi
 yld := fun i F1 H1 x H2 d a b e y => by
  obtain ⟨rfl, rfl⟩ := y
  unfold rangeD at e
  rw [getElem?_map] at e
  have hi : i < n := by
   rcases Nat.lt_or_ge i n with h | h
   ·exact h
   ·rw [getElem?_eq_none (by simpa using h)] at e; cases e
  rw [getElem?_range hi] at e
  cases e
  exact ⟨F1, .refl b, .int _⟩
 stop := fun F1 H1 a b => by rw [rangeD_length]; exact Nat.le_refl n
noncomputable def okR (j : Int) : Bool := decide (-(2 ^ 62) <= j) && decide (j < 2 ^ 62)
noncomputable def rng1 : List D -> Option (List D)
 | [.int j] => if okR j = true then some (rangeD 0 j.toNat) else none
 | _ => none
@[irreducible] noncomputable def mlist (f : List D -> Option (List D)) (m : ML) : ML := fun ρ => (m ρ).bind f
theorem mlist_some {f : List D -> Option (List D)} {m : ML} {ρ : Ro} {gs : List D} (h : mlist f m ρ = some gs) : ∃ ds, m ρ = some ds /\ f ds = some gs := by
 unfold mlist at h
 cases h1 : m ρ with
 | none => rw [h1] at h; cases h
 | some ds => rw [h1] at h; exact ⟨ds, rfl, h⟩
theorem pid_range1 {tg a : Expr} {m : ML} {p pos : Pos} (hg : Gl X "range") (hm : X.mg "range" = none) (ha : PAs X [a] m) (hs : starEach [a] X.env = [(false, eval a X.env)] := by rfl) : PId X tg (.Call (.Name "range" p) [a] [] pos) (mlist rng1 m) := PI.imp (pi_range1 hg hm ha hs) fun σ H R hpat => by
 obtain ⟨F0, H0, F, ρ, its, rl, e, q⟩ := hpat
 obtain ⟨ds, h1, h2⟩ := mlist_some e
 refine ⟨F0, H0, F, ρ, ds, rl, h1, fun vs F1 H1 x1 r1 => ?_⟩
 unfold rng1 at h2
 split at h2
 ·rename_i j
  split at h2
  ·rename_i hk
   cases h2
   unfold okR at hk
   simp only [Bool.and_eq_true, decide_eq_true_eq] at hk
   cases r1 with
   | cons r rr =>
    cases rr; cases r
    exact ⟨j, rfl, hk.1, hk.2, q _ F1 H1 x1 itd_range⟩
  ·cases h2
 ·cases h2
noncomputable def zip2 : List D -> Option (List D)
 | [.lst ds, .lst es] => some (List.zipWith (fun d e => .tup [d, e]) ds es)
 | _ => none
theorem itd_zip2 {K : W.Frag} {F : Hp} {p q : Addr} {xs ys : List V} {ds es : List D} (s : SqL K F p xs) (r : Reps K F xs ds) (s' : SqL K F q ys) (r' : Reps K F ys es) : ItD K F (Itz2 K p q) (List.zipWith (fun d e => D.tup [d, e]) ds es) where
 go := fun i F1 H1 a b hi => by
  rw [length_zipWith] at hi
  obtain ⟨v, e, _⟩ := r.get (getElem?_eq_getElem (show i < ds.length by omega))
  obtain ⟨w, e', _⟩ := r'.get (getElem?_eq_getElem (show i < es.length by omega))
  exact ⟨xs, ys, v, w, b.seq (a.seq s), b.seq (a.seq s'), e, e'⟩
 yld := fun i F1 H1 x H2 d a b e y => by
  obtain ⟨t, u, v, rfl, ht, rfl, y1, y2⟩ := y
  have y1 := y1 xs (b.seq (a.seq s))
  have y2 := y2 ys (b.seq (a.seq s'))
  obtain ⟨d1, e1, r1⟩ := r.get' y1
  obtain ⟨d2, e2, r2⟩ := r'.get' y2
  rw [getElem?_zipWith, e1, e2] at e
  cases e
  refine ⟨upd F1 t (.tup [u, v]), Ext.laid b ht, .tup (SqT.of upd_same) ?_⟩
  have mm : Same F (upd F1 t (.tup [u, v])) := a.trans ((Same.refl F1).put (b.free ht))
  exact .cons (r1.mono mm) (.cons (r2.mono mm) .nil)
 stop := fun F1 H1 a b => ⟨xs, ys, b.seq (a.seq s), b.seq (a.seq s'), by rw [r.length, r'.length, length_zipWith]; omega⟩
theorem pid_zip2 {es : List Expr} {tk : Nat} {tp : Pos} {a b : Expr} {m : ML} {p pos : Pos} (hg : Gl X "zip") (hm : X.mg "zip" = none) (ha : PAs X [a, b] m) (hs : starEach [a, b] X.env = [(false, eval a X.env), (false, eval b X.env)] := by rfl) (hs2 : starEach [b] X.env = [(false, eval b X.env)] := by rfl) : PId X (.Tuple es tk tp) (.Call (.Name "zip" p) [a, b] [] pos) (mlist zip2 m) := PI.imp (pi_zip2 hg hm ha hs hs2) fun σ H R hpat => by
 obtain ⟨F0, H0, F, ρ, its, rl, e, q⟩ := hpat
 obtain ⟨ds, h1, h2⟩ := mlist_some e
 refine ⟨F0, H0, F, ρ, ds, rl, h1, fun vs F1 H1 x1 r1 => ?_⟩
 unfold zip2 at h2
 split at h2
 ·cases h2
  cases r1 with
  | cons r rr =>
   cases rr with
   | cons r2 rr =>
    cases rr
    cases r with
    | lst s t =>
     cases r2 with
     | lst s2 t2 => exact ⟨_, _, _, _, rfl, x1.fh.seq s, x1.fh.seq s2, q _ F1 H1 x1 (itd_zip2 s t s2 t2)⟩
 ·cases h2
end
end
section
noncomputable def forD (g : Tg) (body : MS) : List D -> MS
 | [], ρ => some (.nx ρ)
 | d :: ds, ρ => match tgD g d ρ with
  | some ρ1 => match body ρ1 with
   | some (.nx ρ2) => forD g body ds ρ2
   | some (.ct ρ2) => forD g body ds ρ2
   | some (.bk ρ2) => some (.nx ρ2)
   | o => o
  | none => none
noncomputable def mfor (mi : ML) (g : Tg) (body : MS) : MS := fun ρ => (mi ρ).bind fun its => forD g body its ρ
theorem drop_get {α : Type} {xs : List α} {i : Nat} {d : α} (h : xs[i]? = some d) : xs.drop i = d :: xs.drop (i + 1) := by
 obtain ⟨hl, e⟩ := List.getElem?_eq_some_iff.mp h
 rw [drop_eq_getElem_cons hl, e]
section
variable {X : Cx} {a b c e : Expr} {ma mb : ME} {pos : Pos} {st : Stmt} {rest : List Stmt}
theorem psd_for {tg iter : Expr} {body : List Stmt} {mi : ML} {g : Tg} {mb : MS} (hp : PassesOwn (model X.prog X.w) X.A X.env X.xe) (hc : X.calm = true) (hi : PId X tg iter mi) (hg : PGd X tg g) (hb : PSsd X body mb)
  (hs : ∀ x, foldedSetIterable iter X.env x = pure x := by intro _; rfl) : PSd X (.For tg iter body [] pos) (mfor mi g mb) := (ps_for hp hc hi hg hb hs).imp fun Dn σ H hpat => by
 obtain ⟨F0, H0, F, ρ, o, rl, e, ok⟩ := hpat
 unfold mfor at e
 cases h1 : mi ρ with
 | none => rw [h1] at e; cases e
 | some its =>
  rw [h1] at e
  have e : forD g mb its ρ = some o := e
  refine ⟨F0, H0, F, ρ, its, rl, h1, fun J F1 H1 x1 I => ?_⟩
  refine ⟨fun i m σ' H' => ∃ F' ρ', Rl X.K F0 H0 F' H' σ' ρ' /\ Same F1 F' /\ i <= its.length /\ m = its.length - i /\ forD g mb (its.drop i) ρ' = some o, ⟨_, F1, ρ, rl.go x1, Same.refl _, Nat.zero_le _, rfl, e⟩, ?_⟩
  rintro i m σ' H' ⟨F', ρ', rl', sf, hi', rfl, e'⟩
  by_cases hlt : i < its.length
  ·right
   have hd := getElem?_eq_getElem hlt
   refine ⟨I.go i F' H' sf rl'.fh hlt, fun σ2 H2 => ∃ F2 ρ2, Rl X.K F0 H0 F2 H2 σ2 ρ2 /\ Same F1 F2 /\ forD g mb (its.drop (i + 1)) ρ2 = some o, ?_, fun x H2 y => ?_⟩
   ·rintro σ2 H2 ⟨F2, ρ2, rl2, sf2, e2⟩
    exact ⟨its.length - (i + 1), by omega, F2, ρ2, rl2, sf2, hlt, rfl, e2⟩
   ·obtain ⟨F2, x2, r2⟩ := I.yld i F' H' x H2 _ sf rl'.fh hd y
    rw [drop_get hd] at e'
    unfold forD at e'
    cases h2 : tgD g its[i] ρ' with
    | none => simp only [h2] at e'; cases e'
    | some ρ1 =>
     simp only [h2] at e'
     refine ⟨F0, H0, F2, ρ', _, ρ1, rl'.go x2, r2, h2, fun F3 H3 σ3 rl3 x3 => ?_⟩
     have s3 : Same F1 F3 := (sf.trans x2.ff).trans x3.ff
     cases h3 : mb ρ1 with
     | none => simp only [h3] at e'; cases e'
     | some o1 =>
      simp only [h3] at e'
      refine ⟨F0, H0, F3, ρ1, o1, rl3, h3, ?_⟩
      cases o1 with
      | nx ρ2 => exact fun F4 H4 σ4 rl4 s4 => ⟨F4, ρ2, rl4, s3.trans s4, e'⟩
      | ct ρ2 => exact fun F4 H4 σ4 rl4 s4 => ⟨F4, ρ2, rl4, s3.trans s4, e'⟩
      | bk ρ2 =>
       cases e'
       exact fun F4 H4 σ4 rl4 s4 => ok F4 H4 σ4 rl4 ((x1.ff.trans s3).trans s4)
      | rt d => cases e'; exact ok
      | rf d => cases e'; exact ok
      | rp d ds => cases e'; exact ok
      | rg d p r => cases e'; exact ok
      | rgf d p r => cases e'; exact ok
  ·left
   have hieq : i = its.length := by omega
   subst hieq
   rw [drop_length] at e'
   have e' : some (Out.nx ρ') = some o := e'
   cases e'
   exact ⟨I.stop F' H' sf rl'.fh, ok F' H' σ' rl' (x1.ff.trans sf)⟩
end
end
section
noncomputable def blkRo (src : List (Option Nat)) (ρ : Ro) : Ro := src.map fun o => o.bind fun i => match ρ[i]? with | some (some (.sh d)) => some (.sh d) | _ => none
noncomputable def compD (g : Tg) (c : MB) (elt : ME) : List D -> Ro -> List D -> Option (List D)
 | [], _, acc => some acc
 | d :: ds, ρ, acc => match tgD g d ρ with
  | some ρ1 => match c ρ1 with
   | some true => match elt ρ1 with
    | some x => if acc.length < sizeLine then compD g c elt ds ρ1 (acc ++ [x]) else none
    | none => none
   | some false => compD g c elt ds ρ1 acc
   | none => none
  | none => none
@[irreducible] noncomputable def mcomp (src : List (Option Nat)) (mi : ML) (g : Tg) (c : MB) (elt : ME) : ML := fun ρ => (mi ρ).bind fun its => compD g c elt its (blkRo src ρ) []
def NoOwn (ρ : Ro) : Prop := ∀ (i : Nat) ds, ρ[i]? ≠ some (some (.own ds)) /\ ∀ p, ρ[i]? ≠ some (some (.ob p ds))
theorem Rl.blk {K : W.Frag} {F0 H0 F H : Hp} {σ : St} {ρ : Ro} (r : Rl K F0 H0 F H σ ρ) (src : List (Option Nat)) : Rl K F H F H (blk0 src σ) (blkRo src ρ) /\ NoOwn (blkRo src ρ) := by
 have no1 : ∀ (i : Nat) x, (blkRo src ρ)[i]? = some (some x) -> ∃ d, x = S.sh d := fun i x e => by
  unfold blkRo at e
  rw [getElem?_map] at e
  cases h : src[i]? with
  | none => rw [h] at e; cases e
  | some o =>
   rw [h] at e
   cases o with
   | none => cases e
   | some k =>
    simp only [Option.map_some, Option.bind_some] at e
    split at e
    ·cases e; exact ⟨_, rfl⟩
    ·cases e
 have no : NoOwn (blkRo src ρ) := fun i ds => ⟨fun e => (by obtain ⟨d, z⟩ := no1 i _ e; cases z), fun p e => (by obtain ⟨d, z⟩ := no1 i _ e; cases z)⟩
 refine ⟨⟨.refl r.fh, by unfold blk0 blkRo; simp, fun i d e => ?_, fun i ds e => absurd e (no i ds).1, fun i j p ds es _ e => absurd e (no i ds).1, fun i p ds e => absurd e ((no i ds).2 p), fun i j p ds es e => absurd e ((no i ds).2 p), fun i j p q ds es e => absurd e ((no i ds).2 p)⟩, no⟩
 unfold blkRo at e
 unfold blk0
 rw [getElem?_map] at e ⊢
 cases h : src[i]? with
 | none => rw [h] at e; cases e
 | some o =>
  rw [h] at e
  cases o with
  | none => cases e
  | some k =>
   simp only [Option.map_some, Option.bind_some] at e ⊢
   split at e
   ·rename_i d' h'
    cases e
    obtain ⟨v, e1, e2⟩ := r.sh k _ h'
    exact ⟨v, by rw [e1]; rfl, e2⟩
   ·cases e
theorem Rl.rebase {K : W.Frag} {F1 F H : Hp} {σ : St} {ρ : Ro} {p : Addr} {xs ys : List V} (r : Rl K F1 (upd F1 p (.lst xs)) F H σ ρ) (hF : F p = none) (hF1 : F1 p = none) : Rl K F1 (upd F1 p (.lst ys)) F (upd H p (.lst ys)) σ ρ := by
 have ne : ∀ q, upd F1 p (.lst xs) q = none -> q ≠ p := fun q z w => by rw [w, upd_same] at z; cases z
 refine ⟨⟨r.ext.ff, fun b u e => ?_, r.fh.put hF, fun b e n => ?_, r.ext.nf⟩, r.len, r.sh, fun i ds e => ?_, r.inj, fun i q ds e => ?_, r.obn, r.ob1⟩
 ·by_cases hb : b = p
  ·subst hb; rw [upd_same] at e ⊢; exact e
  ·rw [upd_ne hb] at e ⊢
   exact r.ext.hh b u (by rw [upd_ne hb]; exact e)
 ·have hb : b ≠ p := fun w => by rw [w, hF] at n; exact n rfl
  rw [upd_ne hb]; exact e
 ·obtain ⟨q, zs, a, b, c, d, z⟩ := r.own i ds e
  have hq := ne q z
  rw [upd_ne hq] at z
  exact ⟨q, zs, a, b, by rw [upd_ne hq]; exact c, d, by rw [upd_ne hq]; exact z⟩
 ·obtain ⟨a, b, z, zs, c, d⟩ := r.ob i q ds e
  have hq := ne q z
  rw [upd_ne hq] at z
  exact ⟨a, b, by rw [upd_ne hq]; exact z, zs, by rw [upd_ne hq]; exact c, d⟩
theorem Ext.acc {F H F' H' : Hp} {p : Addr} {o : HO} (x : Ext F H F' H') (hp : H p = none) (hF : F' p = none) : Ext F H F' (upd H' p o) := ⟨x.ff, x.hh.put hp, x.fh.put hF, x.new, x.nf⟩
theorem Ext.stay {F' H' F3 H3 : Hp} {p : Addr} {o : HO} (x3 : Ext F' H' F3 H3) (hF' : F' p = none) (hH' : H' p = some o) : F3 p = none := by
 cases qq : F3 p with
 | none => rfl
 | some u => have := x3.new p hF' (by rw [qq]; simp); rw [this] at hH'; cases hH'
theorem Rl.noB {K : W.Frag} {F H : Hp} {σ : St} {ρ : Ro} {p : Addr} (r : Rl K F H F H σ ρ) (no : NoOwn ρ) (hp : H p = none) : Rl K F (upd F p (.lst [])) F (upd H p (.lst [])) σ ρ :=
 ⟨⟨Same.refl F, r.fh.put2, r.fh.put (r.fh.free hp), fun b e n => absurd e n, fun _ _ _ z => z⟩, r.len, r.sh, fun i ds e => absurd e (no i ds).1, r.inj, fun i p ds e => absurd e ((no i ds).2 p), r.obn, r.ob1⟩
theorem compD_cons {g : Tg} {c : MB} {elt : ME} {d : D} {ds acc out : List D} {ρ : Ro} (h : compD g c elt (d :: ds) ρ acc = some out) : ∃ ρ1, tgD g d ρ = some ρ1 /\ ((c ρ1 = some false /\ compD g c elt ds ρ1 acc = some out) \/ ∃ x, c ρ1 = some true /\ elt ρ1 = some x /\ acc.length < sizeLine /\ compD g c elt ds ρ1 (acc ++ [x]) = some out) := by
 rw [compD] at h
 cases h2 : tgD g d ρ with
 | none => rw [h2] at h; cases h
 | some ρ1 =>
  rw [h2] at h
  simp only at h
  refine ⟨ρ1, rfl, ?_⟩
  cases h3 : c ρ1 with
  | none => rw [h3] at h; cases h
  | some k =>
   rw [h3] at h
   cases k with
   | false => exact .inl ⟨rfl, h⟩
   | true =>
    simp only at h
    cases h4 : elt ρ1 with
    | none => rw [h4] at h; cases h
    | some x =>
     rw [h4] at h
     simp only at h
     by_cases hz : acc.length < sizeLine
     ·rw [if_pos hz] at h; exact .inr ⟨x, rfl, rfl, hz, h⟩
     ·rw [if_neg hz] at h; cases h
theorem comp_loop {K : PySem.W.Frag} {src : List (Option Nat)} {g : Tg} {c : MB} {elt : ME} {its out : List D} {F1 H1 : Hp} {σ : St} {ρb : Ro} {p : Addr} {J : It} {Q : VK} (f1 : Same F1 H1) (hp : H1 p = none) (rb : Rl K F1 (upd F1 p (.lst [])) F1 (upd H1 p (.lst [])) (blk0 src σ) ρb) (I : ItD K F1 J its) (e : compD g c elt its ρb [] = some out)
  (q : ∀ xs F' H', Ext F1 H1 F' H' -> F' p = none -> H' p = some (.lst xs) -> Reps K F' xs out -> Q (.ref p) H') :
  ∃ W : Nat -> Nat -> St -> Hp -> Prop, (∃ m, W 0 m (blk0 src σ) (upd H1 p (.lst []))) /\ ∀ i m σ' H', W i m σ' H' ->
   (J.stop i H' /\ Q (.ref p) H') \/ (J.go i H' /\ ∃ N : St -> Hp -> Prop, (∀ σ2 H2, N σ2 H2 -> ∃ m', m' < m /\ W (i + 1) m' σ2 H2) /\ ∀ x H2, J.yld i H' x H2 -> TGd K g x σ' H2 fun σ3 H3 => TC K c σ3 H3 fun b H4 =>
    if b = true then TD K elt σ3 H4 fun y H5 => ∃ xs, H5 p = some (.lst xs) /\ xs.length < sizeLine /\ N σ3 (upd H5 p (.lst (xs ++ [y]))) else N σ3 H4) := by
 have hF1 : F1 p = none := f1.free hp
 refine ⟨fun i m σ' H' => ∃ F' ρ' acc xs, Rl K F1 (upd F1 p (.lst xs)) F' H' σ' ρ' /\ Ext F1 H1 F' H' /\ H' p = some (.lst xs) /\ F' p = none /\ Reps K F' xs acc /\ i <= its.length /\ m = its.length - i /\ compD g c elt (its.drop i) ρ' acc = some out,
  ⟨_, F1, ρb, [], [], rb, (Ext.refl f1).acc hp hF1, upd_same, hF1, .nil, Nat.zero_le _, rfl, e⟩, ?_⟩
 clear rb e
 rintro i m σ' H' ⟨F', ρ', acc, xs, rl', xe, hH', hF', ra, hi', rfl, e'⟩
 by_cases hlt : i < its.length
 ·right
  have hd := getElem?_eq_getElem hlt
  refine ⟨I.go i F' H' xe.ff rl'.fh hlt, fun σ2 H2 => ∃ F2 ρ2 acc2 xs2, Rl K F1 (upd F1 p (.lst xs2)) F2 H2 σ2 ρ2 /\ Ext F1 H1 F2 H2 /\ H2 p = some (.lst xs2) /\ F2 p = none /\ Reps K F2 xs2 acc2 /\ compD g c elt (its.drop (i + 1)) ρ2 acc2 = some out, ?_, fun x H2 y => ?_⟩
  ·rintro σ2 H2 ⟨F2, ρ2, acc2, xs2, b1, b2, b3, b4, b5, b6⟩
   exact ⟨its.length - (i + 1), Nat.sub_lt_sub_left hlt (Nat.lt_succ_self i), F2, ρ2, acc2, xs2, b1, b2, b3, b4, b5, hlt, rfl, b6⟩
  ·obtain ⟨F2, x2, r2⟩ := I.yld i F' H' x H2 _ xe.ff rl'.fh hd y
   rw [drop_get hd] at e'
   obtain ⟨ρ1, h2, e3⟩ := compD_cons e'
   clear e' I q y hd
   refine ⟨F1, _, F2, ρ', _, ρ1, rl'.go x2, r2, h2, fun F3 H3 σ3 rl3 x3 => ?_⟩
   have x23 := x2.trans x3
   rcases e3 with ⟨h3, e4⟩ | ⟨d, h3, h4, hz, e4⟩
   ·refine ⟨F1, _, F3, ρ1, false, rl3, h3, fun F4 H4 x4 => ?_⟩
    have x24 := x23.trans x4
    exact iteF ⟨F4, ρ1, acc, xs, rl3.go x4, xe.trans x24, x24.hh _ _ hH', x24.stay hF' hH', ra.mono x24.ff, e4⟩
   ·refine ⟨F1, _, F3, ρ1, true, rl3, h3, fun F4 H4 x4 => iteT ⟨F1, _, F4, ρ1, d, rl3.go x4, h4, fun v F5 H5 x5 r5 => ?_⟩⟩
    have x25 := (x23.trans x4).trans x5
    have pn := x25.stay hF' hH'
    exact ⟨xs, x25.hh _ _ hH', by rw [ra.length]; exact hz, F5, ρ1, acc ++ [d], xs ++ [v], ((rl3.go x4).go x5).rebase pn hF1, (xe.trans x25).acc hp pn, upd_same, pn, (ra.mono x25.ff).append (.cons r5 .nil), e4⟩
 ·left
  have hieq : i = its.length := Nat.le_antisymm hi' (Nat.le_of_not_lt hlt)
  subst hieq
  rw [drop_length] at e'
  have e' : some acc = some out := e'
  cases e'
  exact ⟨I.stop F' H' xe.ff rl'.fh, q xs F' H' xe hF' hH' ra⟩
section
variable {X : Cx} {a b c e : Expr} {ma mb : ME} {pos : Pos} {st : Stmt} {rest : List Stmt}
def PTsd (X : Cx) (ifs : List Expr) (c : MB) : Prop := PTs X ifs (TC X.K c)
noncomputable def cyes : MB := fun _ => some true
theorem ptsd_nil : PTsd X [] cyes := fun pins s σ H Q I hpat => by
 obtain ⟨F0, H0, F, ρ, b, rl, e, q⟩ := hpat
 cases e
 exact pts_nil pins s σ H Q I (q F H (.refl rl.fh))
theorem ptsd_one {ca : MB} (h : PC' X c ca) : PTsd X [c] ca := pts_one h
theorem comp_tf {K : W.Frag} {src : List (Option Nat)} {mi : ML} {g : Tg} {c : MB} {elt : ME} {σ : St} {H : Hp} {Q : VK} (h : TF K (mcomp src mi g c elt) σ H Q) : tComp src (TId K mi) (TGd K g) (TC K c) (TD K elt) σ H Q := by
 obtain ⟨F0, H0, F, ρ, out, rl, e, q⟩ := h
 unfold mcomp at e
 cases h1 : mi ρ with
 | none => rw [h1] at e; cases e
 | some its =>
  rw [h1] at e
  refine ⟨F0, H0, F, ρ, its, rl, h1, fun J F1 H1 x1 I p hp => ?_⟩
  obtain ⟨rb, no⟩ := (rl.go x1).blk src
  exact comp_loop x1.fh hp (rb.noB no hp) I e fun xs F' H' xe hF' hH' ra => q p xs F' H' (x1.trans xe) (x1.hh.free hp) hF' hH' ra
theorem pf_comp {sc : Scope} {N : List Str} {src : List (Option Nat)} {tg elt iter : Expr} {ifs : List Expr} {mi : ML} {g : Tg} {cc : MB} {me : ME} (B : Blk X sc N src) (hc : X.calm = true)
  (hi : PId X tg iter mi) (hg : ∀ C fp s H, PGd (blkCx X sc C N fp s H) tg g) (ht : ∀ C fp s H, PTsd (blkCx X sc C N fp s H) ifs cc) (he : ∀ C fp s H, PD (blkCx X sc C N fp s H) elt me)
  (hs : ∀ x, foldedSetIterable iter X.env x = pure x := by intro _; rfl) :
  PF X (.ListComp elt [⟨tg, iter, ifs, 0⟩] sc pos) (mcomp src mi g cc me) := (pe_comp (g := TGd X.K g) (tc := TC X.K cc) (te := TD X.K me) B hc hi (fun C fp s H => hg C fp s H) (fun C fp s H => ht C fp s H) (fun C fp s H => he C fp s H) hs).imp fun _ _ _ h => comp_tf h
theorem pf_imp {mf : ML} {σ : St} {H : Hp} {Q : VK} (h : TD X.K (mlst mf) σ H Q) : TF X.K mf σ H Q := by
 obtain ⟨F0, H0, F, ρ, d, r, e, q⟩ := h
 unfold mlst at e
 cases hm : mf ρ with
 | none => rw [hm] at e; cases e
 | some ds =>
  rw [hm] at e; cases e
  refine ⟨F0, H0, F, ρ, ds, r, hm, fun p xs F' H' x hp hF hH rs => ?_⟩
  exact q _ (upd F' p (.lst xs)) H' (x.freeze hF hp hH) (.lst (SqL.of upd_same) (rs.mono ((Same.refl F').put hF)))
theorem psd_setCs {i : Nat} {src : List (Option Nat)} {mi : ML} {g : Tg} {cc : MB} {me : ME} (h : PS X st (tAsg (tComp src (TId X.K mi) (TGd X.K g) (TC X.K cc) (TD X.K me)) (gName i))) : PSd X st (mset i (mlst (mcomp src mi g cc me))) := asg_d h fun _ _ _ q => comp_tf (pf_imp q)
inductive Rt where
 | sh (d : D) | fr (ds : List D) | pr (d : D) (ds : List D)
noncomputable abbrev MF := List D -> Option Rt
noncomputable def okT (K : W.Frag) (F H : Hp) (Q : VK) : Rt -> Prop
 | .sh d => ∀ v F' H', Ext F H F' H' -> Rep K F' v d -> Q v H'
 | .fr ds => ∀ p xs F' H', Ext F H F' H' -> H p = none -> F' p = none -> H' p = some (.lst xs) -> Reps K F' xs ds -> Q (.ref p) H'
 | .pr d ds => ∀ t v p xs F' H', Ext F H F' H' -> H t = none -> H p = none -> t ≠ p -> F' t = none -> F' p = none -> H' t = some (.tup [v, .ref p]) -> H' p = some (.lst xs) -> Rep K F' v d -> Reps K F' xs ds -> Q (.ref t) H'
def spR (K : W.Frag) (n : Nat) (m : MF) : Sp := fun vs H Q _ => vs.length = n /\ ∃ F ds r, Same F H /\ Reps K F vs ds /\ m ds = some r /\ okT K F H Q r
noncomputable def startS (n : Nat) (ds : List D) : Ro := ds.map (fun d => some (.sh d)) ++ List.replicate (n - ds.length) none
noncomputable def runB (n : Nat) (m : MS) : MF := fun ds => match m (startS n ds) with
 | some (.nx _) => some (.sh .non)
 | some (.rt d) => some (.sh d)
 | some (.rf es) => some (.fr es)
 | some (.rp d es) => some (.pr d es)
 | _ => none
theorem rl_start {K : W.Frag} {F H : Hp} {N : List Str} {vs : List V} {ds : List D} (s : Same F H) (r : Reps K F vs ds) : Rl K F H F H (start N vs) (startS N.length ds) := by
 have get : ∀ (i : Nat) x, (startS N.length ds)[i]? = some (some x) -> ∃ d, x = S.sh d /\ ds[i]? = some d := fun i x e => by
  unfold startS at e
  by_cases hi : i < ds.length
  ·rw [getElem?_append_left (by simpa using hi), getElem?_map] at e
   cases q : ds[i]? with
   | none => rw [q] at e; cases e
   | some d => rw [q] at e; cases e; exact ⟨d, rfl, rfl⟩
  ·rw [getElem?_append_right (by simpa using hi), getElem?_replicate] at e
   split at e <;> cases e
 refine ⟨.refl s, ?_, fun i d e => ?_, fun i ds e => ?_, fun i j p ds es _ e => ?_, fun i p ds e => ?_, fun i j p ds es e => ?_, fun i j p q ds es e => ?_⟩
 ·unfold start startS; simp [r.length]
 ·obtain ⟨d', e1, e2⟩ := get i _ e
  cases e1
  obtain ⟨v, e3, e4⟩ := r.get e2
  have hl : i < vs.length := (List.getElem?_eq_some_iff.mp e3).1
  refine ⟨v, ?_, e4⟩
  unfold start
  rw [getElem?_append_left (by simpa using hl), getElem?_map, e3]; rfl
 ·obtain ⟨d', e1, _⟩ := get i _ e
  cases e1
 ·obtain ⟨d', e1, _⟩ := get i _ e
  cases e1
 ·obtain ⟨d', e1, _⟩ := get i _ e
  cases e1
 ·obtain ⟨d', e1, _⟩ := get i _ e
  cases e1
 ·obtain ⟨d', e1, _⟩ := get i _ e
  cases e1
theorem Fun.okD {P : Program} {w : World} {K : W.Frag} {mg : Str -> Option Value} {base : Heap} {x qual : Str} {st : Stmt} {f : Addr} {fd : FuncData} {N ps : List Str} {k : Nat} {m : MS} (Fn : Fun K x qual st f fd) (Sc : FnScope N ps (defScope st))
  (hbody : ∀ (cdv : Value) (A : Around) (outer : List Env) (s : Shared) (H : Hp) (E : XK), Room k (A.deeper (envOfC qual (defScope st) s.heap.objs.size f cdv)) -> PSsd (cxOf CX0 P w K mg base N qual (defScope st) f cdv A outer s H E).nox (defBody st) m) :
  FnOk P w K mg base CX0 (k + 1) f fd ps (spR K ps.length (runB N.length m)) := by
 refine Fn.ok Sc (fun vs H Q E h => h.1) fun cdv A outer s H vs Q E hr h => ?_
 obtain ⟨hl, F, ds, r, sf, rs, e, ok⟩ := h
 unfold runB at e
 cases h1 : m (startS N.length ds) with
 | none => rw [h1] at e; cases e
 | some o =>
  rw [h1] at e
  refine ⟨_, hbody cdv A outer s H E hr, F, H, F, startS N.length ds, o, rl_start sf rs, h1, ?_⟩
  cases o with
  | nx ρ => cases e; exact fun F' H' σ' rl _ => ok .non F' H' rl.ext .non
  | rt d => cases e; exact ok
  | rf es => cases e; exact ok
  | rp d es => cases e; exact ok
  | rg d p r => cases e
  | rgf d p r => cases e
  | bk ρ => cases e
  | ct ρ => cases e
@[irreducible] noncomputable def mcall (f : MF) (m : ML) : ME := fun ρ => (m ρ).bind fun ds => match f ds with | some (.sh d) => some d | some (.fr es) => some (.lst es) | some (.pr d es) => some (.tup [d, .lst es]) | none => none
variable {E : XK} {es : List Expr} {mf : MF} {m : ML}
theorem pd_call {n : Nat} (h : ∀ t, PA X es t -> PE X e (tCall (spR X.K n mf) [] E t)) (hl : es.length = n) (ha : PAs X es m) (hm : ∀ ρ ds, m ρ = some ds -> ds.length = es.length) : PD X e (mcall mf m) := (h _ ha).imp fun σ H Q hpat => by
 obtain ⟨F0, H0, F, ρ, d, rl, e, q⟩ := hpat
 unfold mcall at e
 cases h1 : m ρ with
 | none => rw [h1] at e; cases e
 | some ds =>
  rw [h1] at e
  refine ⟨F0, H0, F, ρ, ds, rl, h1, fun vs F1 H1 x1 r1 => ?_⟩
  dsimp only [Option.bind] at e
  show spR X.K n mf (vs ++ []) H1 Q E
  rw [append_nil]
  refine ⟨by rw [r1.length, hm ρ ds h1, hl], F1, ds, ?_⟩
  split at e
  ·rename_i d' h2
   cases e
   exact ⟨_, x1.fh, r1, h2, fun v F2 H2 x2 r2 => q v F2 H2 (x1.trans x2) r2⟩
  ·rename_i es' h2
   cases e
   exact ⟨_, x1.fh, r1, h2, fun p xs F2 H2 x2 hp hF hH r2 => q _ (upd F2 p (.lst xs)) H2 (x1.trans (x2.freeze hF hp hH)) (.lst (SqL.of upd_same) (r2.mono ((Same.refl F2).put hF)))⟩
  ·rename_i d' es' h2
   cases e
   refine ⟨_, x1.fh, r1, h2, fun t v p xs F2 H2 x2 ht hp hne hFt hFp hHt hHp rv rs => ?_⟩
   have x3 := x2.freeze hFp hp hHp
   have hFt' : upd F2 p (.lst xs) t = none := by rw [upd_ne hne]; exact hFt
   have s2 : Same F2 (upd F2 p (.lst xs)) := (Same.refl F2).put hFp
   have s3 : Same (upd F2 p (.lst xs)) (upd (upd F2 p (.lst xs)) t (.tup [v, .ref p])) := (Same.refl _).put hFt'
   exact q _ (upd (upd F2 p (.lst xs)) t (.tup [v, .ref p])) H2 (x1.trans (x3.freeze hFt' ht hHt)) (.tup (SqT.of upd_same) (.cons (rv.mono (s2.trans s3)) (.cons (.lst (SqL.of (by rw [upd_ne (Ne.symm hne)]; exact upd_same)) (rs.mono (s2.trans s3))) .nil)))
  ·cases e
theorem anil_len (ρ : Ro) (ds : List D) (h : anil ρ = some ds) : ds.length = 0 := by cases h; rfl
theorem acons_len {x : ME} {r : ML} {n : Nat} (hr : ∀ ρ ds, r ρ = some ds -> ds.length = n) (ρ : Ro) (ds : List D) (h : acons x r ρ = some ds) : ds.length = n + 1 := by
 obtain ⟨d, es, _, h2, rfl⟩ := acons_some h
 rw [length_cons, hr ρ es h2]
end
end
section
section
variable {X : Cx} {a b c e : Expr} {ma mb : ME} {pos : Pos}
noncomputable def bl2 (g : Bool -> Bool -> Bool) : D -> D -> Option D
 | .bl i, .bl j => some (.bl (g i j))
 | _, _ => none
theorem reps_ints {K : W.Frag} {F : Hp} : ∀ ns : List Int, Reps K F (ns.map V.int) (ns.map D.int)
 | [] => .nil
 | n :: ns => .cons (.int n) (reps_ints ns)
theorem sp_Z15 {K : W.Frag} {m : MF} (h : ∀ ns : List Int, ns.length <= 63 -> m [.lst (ns.map .int)] = some (.sh (.bl true))) (H : Hp) (a : Addr) (ns : List Int) (hl : ns.length <= 63) (hS : SqL K H a (ns.map V.int)) (E : XK) :
  spR K 1 m [.ref a] H (fun v _ => v = .bl true) E :=
 ⟨rfl, H, _, _, Same.refl H, .cons (.lst hS (reps_ints ns)) .nil, h ns hl, fun v F' H' _ r => by cases r; rfl⟩
end
end
section
noncomputable def blkOk (fsc : Scope) (fN : List Str) (sc : Scope) (N : List Str) (src : List (Option Nat)) : Bool :=
 (sc.kind == .function) && sc.names.all (fun y => y.2 != .cell) && sc.names.all (fun y => y.2 != .local || sc.names.lookup y.1 == some .local)
  && sc.names.all (fun y => y.2 != .free || (fsc.names.lookup y.1 == some .cell || fsc.names.lookup y.1 == some .free)) && (src.length == N.length)
  && (List.range src.length).all fun j => match src[j]? with
   | some (some i) => match N[j]? with
    | some x => fN[i]? == some x && sc.names.lookup x == some .free
    | none => false
   | _ => true
theorem blk_of {X : Cx} {sc : Scope} {N : List Str} {src : List (Option Nat)} (fsc : Scope) (fN : List Str) (h1 : X.env.scope = fsc) (h2 : X.N = fN) (h : blkOk fsc fN sc N src = true) : Blk X sc N src := by
 unfold blkOk at h
 simp only [Bool.and_eq_true, all_eq_true, beq_iff_eq, Bool.or_eq_true, bne_iff_ne, ne_eq] at h
 obtain ⟨⟨⟨⟨⟨a1, a2⟩, a3⟩, a4⟩, a5⟩, a6⟩ := h
 refine ⟨a1, a2, fun y hy hk => ?_, fun y hy hk => ?_, fun j i e => ?_, a5⟩
 ·rcases a3 y hy with z | z
  ·exact absurd hk z
  ·exact z
 ·have k : ∀ x, X.env.kindOf x = fsc.names.lookup x := fun x => by rw [<- h1]; rfl
  rw [k]
  rcases a4 y hy with z | z
  ·exact absurd hk z
  ·exact z
 ·have hj : j < src.length := (List.getElem?_eq_some_iff.mp e).1
  have := a6 j (List.mem_range.mpr hj)
  rw [e] at this
  simp only at this
  cases hx : N[j]? with
  | none => rw [hx] at this; cases this
  | some x =>
   rw [hx] at this
   simp only [Bool.and_eq_true, beq_iff_eq] at this
   exact ⟨x, rfl, by rw [h2]; exact this.1, this.2⟩
end
section
theorem pf_sl {X : Cx} {a : Expr} {ml : ML} {lo hi : Option Expr} {l h : MO} {p2 pos : Pos} (ha : PB X a ml) (hl : POs X lo l) (hh : POs X hi h) : PF X (.Subscript a (.Slice lo hi none p2) pos) (mcut ml l h) := pf_cut ha hl hh (pe_slice sl_list ha hl hh)
end
section
noncomputable def zipE (f : D -> D -> Option Bool) : List D -> List D -> Option Bool
 | d :: ds, e :: es => (f d e).bind fun a => (zipE f ds es).bind fun b => some (a && b)
 | _, _ => some true
noncomputable def eqF : Nat -> D -> D -> Option Bool
 | 0, _, _ => none
 | n + 1, .lst ds, .lst es => if ds.length = es.length then zipE (eqF n) ds es else some false
 | n + 1, .tup ds, .tup es => (zipE (eqF n) ds es).map fun b => b && ds.length == es.length
 | _ + 1, d, e => eqS d e
theorem zipE_all {f : D -> D -> Option Bool} : ∀ {ds es : List D} {k : Bool}, zipE f ds es = some k -> ∃ g : Nat -> Bool, (∀ j d e, ds[j]? = some d -> es[j]? = some e -> f d e = some (g j)) /\ k = (List.range (min ds.length es.length)).all g
 | [], es, k, h => by
  have h : some true = some k := by simpa [zipE] using h
  cases h
  exact ⟨fun _ => true, by simp, by simp⟩
 | _ :: _, [], k, h => by
  have h : some true = some k := by simpa [zipE] using h
  cases h
  exact ⟨fun _ => true, by simp, by simp⟩
 | d :: ds, e :: es, k, h => by
  unfold zipE at h
  cases h1 : f d e with
  | none => rw [h1] at h; cases h
  | some a =>
   rw [h1] at h
   cases h2 : zipE f ds es with
   | none => rw [h2] at h; cases h
   | some b =>
    rw [h2] at h
    have h : some (a && b) = some k := h
    cases h
    obtain ⟨g, q1, q2⟩ := zipE_all h2
    refine ⟨fun j => match j with | 0 => a | j + 1 => g j, ?_, ?_⟩
    ·intro j d' e' hd he
     cases j with
     | zero => simp at hd he; subst hd he; exact h1
     | succ j => exact q1 j d' e' (by simpa using hd) (by simpa using he)
    ·rw [q2, length_cons, length_cons, Nat.add_min_add_right, range_succ_eq_map, all_cons, all_map]
     rfl
section
variable {X : Cx} {pins : List (Addr × Obj)} {σ : St} {H : Hp} {s : Shared}
theorem Inv.xat (I : Inv X pins σ H s) {a C : Addr} (h : H a = some (.ext (XAt a C))) : XAt a C s.heap := (show ObjOk X.prog X.w H s.heap a (.ext (XAt a C)) from I.hok a _ h).1
theorem zipE_same {f : D -> D -> Option Bool} (hf : ∀ {v : V} {d e : D} {k : Bool}, Rep X.K H v d -> Rep X.K H v e -> f d e = some k -> k = true) : ∀ {vs : List V} {ds es : List D} {k : Bool}, Reps X.K H vs ds -> Reps X.K H vs es -> zipE f ds es = some k -> k = true
 | _, _, _, _, .nil, .nil, h => by simp [zipE] at h; exact h
 | _ :: _, d :: ds, e :: es, k, .cons r1 s1, .cons r2 s2, h => by
  unfold zipE at h
  cases h1 : f d e with
  | none => rw [h1] at h; cases h
  | some a =>
   rw [h1] at h
   cases h2 : zipE f ds es with
   | none => rw [h2] at h; cases h
   | some b =>
    rw [h2] at h
    have h : some (a && b) = some k := h
    cases h
    rw [hf r1 r2 h1, zipE_same hf s1 s2 h2]; rfl
theorem Rep.eqT (I : Inv X pins σ H s) : ∀ (n : Nat) {v : V} {d e : D} {k : Bool}, Rep X.K H v d -> Rep X.K H v e -> eqF n d e = some k -> k = true
 | 0, _, _, _, _, _, _, h => by simp [eqF] at h
 | n + 1, v, d, e, k, r1, r2, h => by
  cases r1 with
  | non => cases r2; exact (Option.some.inj (show some true = some k from h)).symm
  | bl b => cases r2; exact (Option.some.inj (show some (b == b) = some k from h)).symm.trans (beq_self_eq_true b)
  | int b => cases r2; exact (Option.some.inj (show some (b == b) = some k from h)).symm.trans (beq_self_eq_true b)
  | str b => cases r2; exact (Option.some.inj (show some (b == b) = some k from h)).symm.trans (beq_self_eq_true b)
  | lst sq rs =>
   cases r2 with
   | lst sq2 rs2 =>
    have e := I.list_inj sq sq2
    subst e
    simp only [eqF] at h
    split at h
    ·exact zipE_same (fun a b c => Rep.eqT I n a b c) rs rs2 h
    ·rename_i hl; exact absurd (rs.length.symm.trans rs2.length) hl
   | _ => cases h
  | tup sq rs =>
   cases r2 with
   | tup sq2 rs2 =>
    have e := I.tuple_inj sq sq2
    subst e
    simp only [eqF] at h
    cases hz : zipE (eqF n) _ _ with
    | none => rw [hz] at h; cases h
    | some kk =>
     rw [hz] at h
     have h := Option.some.inj h
     rw [<- h, zipE_same (fun a b c => Rep.eqT I n a b c) rs rs2 hz, rs.length.symm.trans rs2.length]
     simp
   | _ => cases h
  | _ => cases h
open PySem.SeqAt in
theorem eqS_at {K : W.Frag} {H : Hp} {A : Around} {s : Shared} {x y : V} {v u : Value} {d e : D} {k : Bool} (r1 : Rep K H x d) (r2 : Rep K H y e) (q1 : RelV x v) (q2 : RelV y u) (h : eqS d e = some k) : EqAt A s v u k /\ RcAt A s v u k /\ RcNeAt A s v u (!k) := by
 obtain ⟨k', hk'⟩ := eqS_sym d e k h
 rw [eqS_l h r1] at q1
 rw [eqS_l hk' r2] at q2
 clear r1 r2 hk'
 cases d with
 | non =>
  cases q1
  cases e with
  | non => cases q2; cases h; exact ⟨EqAt.same _, .none_none, .none_none⟩
  | bl b => cases q2; cases h; exact ⟨.none_bool _, .none_bool _, .none_bool _⟩
  | int b => obtain ⟨t, rfl⟩ := q2; cases h; exact ⟨.none_int _ _, .none_int _ _, .none_int _ _⟩
  | str b => obtain ⟨t, rfl⟩ := q2; cases h; exact ⟨.none_str _ _, .none_str _ _, .none_str _ _⟩
  | _ => cases h
 | bl i =>
  cases q1
  cases e with
  | non => cases q2; cases h; exact ⟨.bool_none _, .bool_none _, .bool_none _⟩
  | bl b => cases q2; cases h; exact ⟨.bool_bool _ _, .bool_bool _ _, .bool_bool _ _⟩
  | str b => obtain ⟨t, rfl⟩ := q2; cases h; exact ⟨.bool_str _ _ _, .bool_str _ _ _, .bool_str _ _ _⟩
  | _ => cases h
 | int i =>
  obtain ⟨t0, rfl⟩ := q1
  cases e with
  | non => cases q2; cases h; exact ⟨.int_none _ _, .int_none _ _, .int_none _ _⟩
  | int b => obtain ⟨t, rfl⟩ := q2; cases h; exact ⟨.int_int _ _ _ _, .int_int _ _ _ _, .int_int _ _ _ _⟩
  | str b => obtain ⟨t, rfl⟩ := q2; cases h; exact ⟨.int_str _ _ _ _, .int_str _ _ _ _, .int_str _ _ _ _⟩
  | _ => cases h
 | str i =>
  obtain ⟨t0, rfl⟩ := q1
  cases e with
  | non => cases q2; cases h; exact ⟨.str_none _ _, .str_none _ _, .str_none _ _⟩
  | bl b => cases q2; cases h; exact ⟨.str_bool _ _ _, .str_bool _ _ _, .str_bool _ _ _⟩
  | int b => obtain ⟨t, rfl⟩ := q2; cases h; exact ⟨.str_int _ _ _ _, .str_int _ _ _ _, .str_int _ _ _ _⟩
  | str b => obtain ⟨t, rfl⟩ := q2; cases h; exact ⟨.str_str _ _ _ _, .str_str _ _ _ _, .str_str _ _ _ _⟩
  | _ => cases h
 | _ => cases h
theorem eqF_inv {n : Nat} {d e : D} {k : Bool} (h : eqF (n + 1) d e = some k) : eqS d e = some k \/ (∃ ds es, d = .lst ds /\ e = .lst es /\ (if ds.length = es.length then zipE (eqF n) ds es else some false) = some k) \/ ∃ ds es kk, d = .tup ds /\ e = .tup es /\ zipE (eqF n) ds es = some kk /\ (kk && ds.length == es.length) = k := by
 cases d with
 | lst ds =>
  cases e with
  | lst es => exact .inr (.inl ⟨ds, es, rfl, rfl, h⟩)
  | _ => exact .inl h
 | tup ds =>
  cases e with
  | tup es =>
   have h : ((zipE (eqF n) ds es).map fun b => b && ds.length == es.length) = some k := h
   cases hz : zipE (eqF n) ds es with
   | none => rw [hz] at h; cases h
   | some kk => rw [hz] at h; exact .inr (.inr ⟨ds, es, kk, rfl, rfl, hz, Option.some.inj h⟩)
  | _ => exact .inl h
 | _ => exact .inl h
theorem items_at {K : W.Frag} {H : Hp} {A : Around} {s : Shared} {n : Nat} {xs ys : List V} {ds es : List D} {its its2 : List Value} {g : Nat -> Bool} (ih : ∀ {x y : V} {v u : Value} {d e : D} {k : Bool}, Rep K H x d -> Rep K H y e -> RelV x v -> RelV y u -> eqF n d e = some k -> PySem.SeqAt.EqAt A s v u k) (rs : Reps K H xs ds) (rs2 : Reps K H ys es) (vr : Vals xs its) (vr2 : Vals ys its2)
  (g1 : ∀ (j : Nat) d e, ds[j]? = some d -> es[j]? = some e -> eqF n d e = some (g j)) (j : Nat) (h1 : j < its.toArray.size) (h2 : j < its2.toArray.size) : PySem.SeqAt.EqAt A s its.toArray[j] its2.toArray[j] (g j) := by
 have z1 : its.length = ds.length := by rw [<- vr.length, rs.length]
 have z2 : its2.length = es.length := by rw [<- vr2.length, rs2.length]
 simp only [size_toArray] at h1 h2
 obtain ⟨d', hd'⟩ : ∃ d', ds[j]? = some d' := ⟨_, getElem?_eq_getElem (z1 ▸ h1)⟩
 obtain ⟨e', he'⟩ : ∃ e', es[j]? = some e' := ⟨_, getElem?_eq_getElem (z2 ▸ h2)⟩
 obtain ⟨v', hv', rv'⟩ := rs.get hd'
 obtain ⟨u', hu', ru'⟩ := rs2.get he'
 obtain ⟨p, hp, rp⟩ := vr.get hv'
 obtain ⟨p2, hp2, rp2⟩ := vr2.get hu'
 have e1 : its.toArray[j] = p := by
  rw [getElem?_eq_getElem h1] at hp
  simpa using hp
 have e2 : its2.toArray[j] = p2 := by
  rw [getElem?_eq_getElem h2] at hp2
  simpa using hp2
 rw [e1, e2]
 exact ih rv' ru' rp rp2 (g1 j d' e' hd' he')
open PySem.SeqAt in
theorem eq_at (I : Inv X pins σ H s) : ∀ (n : Nat) {A : Around} {x y : V} {v u : Value} {d e : D} {k : Bool}, A.units + n < cLine -> Rep X.K H x d -> Rep X.K H y e -> RelV x v -> RelV y u -> eqF n d e = some k -> EqAt A s v u k /\ RcAt A s v u k /\ RcNeAt A s v u (!k)
 | 0, A, x, y, v, u, d, e, k, hu, r1, r2, q1, q2, h => by simp [eqF] at h
 | n + 1, A, x, y, v, u, d, e, k, hu, r1, r2, q1, q2, h => by
  have hu0 : A.units < cLine := by omega
  have hu1 : A.in1.units + n < cLine := by show A.units + 1 + n < cLine; omega
  rcases eqF_inv h with h1 | ⟨ds, es, rfl, rfl, h1⟩ | ⟨ds, es, kk, rfl, rfl, hz, hk⟩
  ·exact eqS_at r1 r2 q1 q2 h1
  ·obtain ⟨a, xs, rfl, sq, rs⟩ := r1.l'
   obtain ⟨b, ys, rfl, sq2, rs2⟩ := r2.l'
   cases q1; cases q2
   obtain ⟨its, vr, ⟨o, m, ho, hc, _, hd⟩, _⟩ := I.list sq
   obtain ⟨its2, vr2, ⟨o2, m2, ho2, hc2, _, hd2⟩, _⟩ := I.list sq2
   have L1 : s.heap.IsList a its.toArray := ⟨o, ho, hc, m, hd⟩
   have L2 : s.heap.IsList b its2.toArray := ⟨o2, ho2, hc2, m2, hd2⟩
   clear ho hc hd ho2 hc2 hd2
   have z1 : its.length = ds.length := by rw [<- vr.length, rs.length]
   have z2 : its2.length = es.length := by rw [<- vr2.length, rs2.length]
   have main : RcAt A s (.ref a) (.ref b) k /\ RcNeAt A s (.ref a) (.ref b) (!k) := by
    by_cases hl : ds.length = es.length
    ·rw [if_pos hl] at h1
     obtain ⟨g, g1, g2⟩ := zipE_all h1
     have he := items_at (fun a b c d e => (eq_at I n hu1 a b c d e).1) rs rs2 vr vr2 g1
     have hz : its.toArray.size = its2.toArray.size := by simp only [size_toArray]; rw [z1, z2, hl]
     have hk : k = (List.range its.toArray.size).all g := by
      rw [g2]; simp only [size_toArray]; rw [z1, hl, Nat.min_self]
     rw [hk]
     exact ⟨.lists L1 L2 hz hu0 he, .lists L1 L2 hz hu0 he⟩
    ·rw [if_neg hl] at h1
     cases h1
     have hz : (its.toArray.size != its2.toArray.size) = true := by simp only [size_toArray]; rw [z1, z2]; exact bne_iff_ne.mpr hl
     exact ⟨.lists_lengths L1 L2 hz hu0, .lists_lengths L1 L2 hz hu0⟩
   refine ⟨?_, main⟩
   by_cases hab : a = b
   ·subst hab
    rw [Rep.eqT I (n + 1) (.lst sq rs) (.lst sq2 rs2) h]
    exact EqAt.same _
   ·exact .of_refs hab main.1
  ·obtain ⟨a, xs, rfl, sq, rs⟩ := r1.t'
   obtain ⟨b, ys, rfl, sq2, rs2⟩ := r2.t'
   cases q1; cases q2
   obtain ⟨its, vr, ⟨o, ho, hc, m, hd⟩, _⟩ := I.tuple sq
   obtain ⟨its2, vr2, ⟨o2, ho2, hc2, m2, hd2⟩, _⟩ := I.tuple sq2
   have L1 : s.heap.IsTuple a its.toArray := ⟨o, ho, hc, m, hd⟩
   have L2 : s.heap.IsTuple b its2.toArray := ⟨o2, ho2, hc2, m2, hd2⟩
   clear ho hc hd ho2 hc2 hd2
   have z1 : its.length = ds.length := by rw [<- vr.length, rs.length]
   have z2 : its2.length = es.length := by rw [<- vr2.length, rs2.length]
   have main : RcAt A s (.ref a) (.ref b) k /\ RcNeAt A s (.ref a) (.ref b) (!k) := by
    obtain ⟨g, g1, g2⟩ := zipE_all hz
    have he := items_at (fun a b c d e => (eq_at I n hu1 a b c d e).1) rs rs2 vr vr2 g1
    have hk : k = ((List.range (min its.toArray.size its2.toArray.size)).all g && its.toArray.size == its2.toArray.size) := by
     rw [<- hk, g2]; simp only [size_toArray]; rw [z1, z2]
    rw [hk]
    exact ⟨.tuples L1 L2 hu0 he, .tuples L1 L2 hu0 he⟩
   refine ⟨?_, main⟩
   by_cases hab : a = b
   ·subst hab
    rw [Rep.eqT I (n + 1) (.tup sq rs) (.tup sq2 rs2) h]
    exact EqAt.same _
   ·exact .of_refs hab main.1
end
end
section
section
variable {X : Cx} {a b c e : Expr} {ma mb : ME} {la lb : ML} {pos : Pos}
def rEqF (K : W.Frag) (neg : Bool) : R2 := fun x y H Q => ∃ d e k, Rep K H x d /\ Rep K H y e /\ eqF 8 d e = some k /\ Q (.bl (if neg then !k else k)) H
theorem op_eqF (hu : X.A.units + 64 < cLine) : OpR X (compareOp .Eq) (rEqF X.K false) := by
 intro pins s σ H x y v u Q I rx ry h
 obtain ⟨d, e, k, r1, r2, h, q⟩ := h
 exact (eq_at I 8 (by omega) r1 r2 rx ry h).2.1 X.prog X.w _ _ ⟨.bl k, H, I, rfl, q⟩
theorem op_neF (hu : X.A.units + 64 < cLine) : OpR X (compareOp .NotEq) (rEqF X.K true) := by
 intro pins s σ H x y v u Q I rx ry h
 obtain ⟨d, e, k, r1, r2, h, q⟩ := h
 exact (eq_at I 8 (by omega) r1 r2 rx ry h).2.2 X.prog X.w _ _ ⟨.bl (!k), H, I, rfl, q⟩
noncomputable def eqFD (neg : Bool) (d e : D) : Option D := (eqF 8 d e).map fun k => .bl (if neg then !k else k)
@[irreducible] noncomputable def meqB (neg : Bool) (x y : ML) : ME := fun ρ => (x ρ).bind fun ds => (y ρ).bind fun es => eqFD neg (.lst ds) (.lst es)
theorem eqB_d {neg : Bool} {σ : St} {H : Hp} {Q : VK} (h : TD X.K (meqB neg la lb) σ H Q) : tOp (rEqF X.K neg) (TB X.K la) (TB X.K lb) σ H Q := by
 obtain ⟨F0, H0, F, ρ, g, rl, e, q⟩ := h
 unfold meqB at e
 cases h1 : la ρ with
 | none => rw [h1] at e; cases e
 | some ds =>
  cases h2 : lb ρ with
  | none => rw [h1, h2] at e; cases e
  | some es =>
   rw [h1, h2] at e
   have e : eqFD neg (.lst ds) (.lst es) = some g := e
   refine ⟨F0, H0, F, ρ, ds, rl, h1, fun p xs F1 H1 x1 s1 r1 => ⟨F0, H0, F1, ρ, es, rl.go x1, h2, fun p2 xs2 F2 H2 x2 s2 r2 => ?_⟩⟩
   unfold eqFD at e
   cases hk : eqF 8 (.lst ds) (.lst es) with
   | none => rw [hk] at e; cases e
   | some k =>
    rw [hk] at e; cases e
    exact ⟨_, _, k, .lst (x2.hh.seq s1) (r1.mono (x2.ff.trans x2.fh)), .lst s2 (r2.mono x2.fh), hk, q _ F2 H2 (x1.trans x2) (.bl _)⟩
theorem pd_eqB {op : CmpOp} {neg : Bool} (ho : OpR X (compareOp op) (rEqF X.K neg)) (ha : PB X a la) (hb : PB X b lb) (hm : behindInMarks op b = false) : PD X (.Compare a [op] [b] pos) (meqB neg la lb) := (pe_cmpR ho ha hb hm).imp fun _ _ _ h => eqB_d h
theorem pc_eqB {op : CmpOp} {neg : Bool} (ho : OpR X (compareOp op) (rEqF X.K neg)) (ha : PB X a la) (hb : PB X b lb) (hm : behindInMarks op b = false) : PC' X (.Compare a [op] [b] pos) (mtest (meqB neg la lb)) := (pt_cmpR ho ha hb hm).imp fun σ H Q hpat => by
 obtain ⟨F0, H0, F, ρ, g, rl, e, q⟩ := hpat
 unfold mtest at e
 split at e
 ·rename_i k hk
  cases e
  refine eqB_d ⟨F0, H0, F, ρ, .bl g, rl, hk, fun v F' H' x r => ?_⟩
  cases r
  exact ⟨_, rfl, q F' H' x⟩
 ·cases e
noncomputable def tyD : D -> String
 | .non => "NoneType" | .bl _ => "bool" | .int _ => "int" | .str _ => "str" | .lst _ => "list" | .tup _ => "tuple" | .exc _ => "?" | .ptr _ => "?" | .obj _ _ _ => "?"
noncomputable def kitB (t c : String) : Option Bool := if t = "?" then none else if (Value.type t == Value.type c) = true then some true else if W.kitMeta c = true then (fastBuiltinMro t).map (·.contains (Value.type c)) else none
theorem kit_ty {K : W.Frag} {t c : String} {k : Bool} (h : kitB t c = some k) : t ≠ "?" /\ W.kitOne K (.type t) (.type c) = some k := by
 unfold kitB at h
 split at h
 ·cases h
 ·rename_i z; exact ⟨z, h⟩
theorem isi_rep {pins : List (Addr × Obj)} {σ : St} {H : Hp} {s : Shared} {A : Around} {E : Value -> Shared -> Prop} {Q : Value -> Shared -> Prop} {c : Value} {k : Bool} {x : V} {d : D} {u : Value} (I : Inv X pins σ H s) (rx : RelV x u) (r : Rep X.K H x d)
  (e : tyD d ≠ "?" /\ W.kitOne X.K (.type (tyD d)) c = some k) (h : ∀ tk, Q (.bool k) { s with toks := tk }) : wpAny (model X.prog X.w) A (call (.builtin "isinstance") [u, c]) Q E s := by
 obtain ⟨hz, e⟩ := e
 cases r with
 | exc _ _ => exact absurd rfl hz
 | ptr _ => exact absurd rfl hz
 | obj _ _ _ _ _ => exact absurd rfl hz
 | non => exact isinst_ok I rx .non e h
 | bl y => exact isinst_ok I rx (.bl y) e h
 | int i => exact isinst_ok I rx (.int i) e h
 | str y => exact isinst_ok I rx (.str y) e h
 | lst sq rs =>
  cases rx
  obtain ⟨its, vr, ⟨o, m, ho, hc, _, hd⟩, _⟩ := I.list sq
  exact W.kia_one W.kitx_list I.kIn ⟨_, ho, hc⟩ e (fun z => nomatch z) h
 | tup sq rs =>
  cases rx
  obtain ⟨its, vr, ⟨o, ho, hc, m, hd⟩, _⟩ := I.tuple sq
  exact W.kia_one W.kitx_tuple I.kIn ⟨_, ho, hc⟩ e (fun z => nomatch z) h
def rIsi (K : W.Frag) (c : String) : List V -> Hp -> VK -> Prop := fun vs H Q => ∃ x d k, vs = [x, .ty c] /\ Rep K H x d /\ kitB (tyD d) c = some k /\ Q (.bl k) H
theorem call_isi {c : String} : CallR X (.builtin "isinstance") (rIsi X.K c) := by
 intro pins s σ H xs us Q I r h
 obtain ⟨x, d, k, rfl, rd, e, q⟩ := h
 obtain ⟨u, w, rfl, rx, ry⟩ := vals2 r
 cases ry
 exact isi_rep I rx rd (kit_ty e) fun tk => ⟨.bl k, H, I.tok _, rfl, q⟩
@[irreducible] noncomputable def misi (c : String) (m : ME) : ME := fun ρ => (m ρ).bind fun d => (kitB (tyD d) c).map .bl
theorem pd_isi {c : Str} {C : String} {p p2 : Pos} (hg : Gl X "isinstance") (hm : X.mg "isinstance" = none) (hgc : Gl X c) (hmc : X.mg c = none) (hv : bootBuiltins c = some (.type C)) (ha : PD X a ma)
  (hn : c ≠ "__name__" := by decide) (hd : (c == ("__debug__" : Str)) = false := by decide)
  (hs : starEach (a :: [.Name c p2]) X.env = (false, eval a X.env) :: starEach [.Name c p2] X.env := by rfl) (hs2 : starEach [.Name c p2] X.env = (false, eval (.Name c p2) X.env) :: starEach [] X.env := by rfl)
  (hpl : (backTo pos (starEach [.Name c p2] X.env)).any (·.1) = false := by rfl) : PD X (.Call (.Name "isinstance" p) [a, .Name c p2] [] pos) (misi C ma) :=
 (pe_callB (call_isi (c := C)) hg hm PyProof.Rows.boot_isinstance (pa_cons ha (pa_cons (pe_bltn (v := .ty C) hgc hmc hv rfl hn hd) pa_nil hs2) hs) (by decide) (by decide) hs hpl).imp fun σ H Q hpat => by
  obtain ⟨F0, H0, F, ρ, g, rl, e, q⟩ := hpat
  unfold misi at e
  cases h1 : ma ρ with
  | none => rw [h1] at e; cases e
  | some d =>
   rw [h1] at e
   have e : (kitB (tyD d) C).map D.bl = some g := e
   cases h2 : kitB (tyD d) C with
   | none => rw [h2] at e; cases e
   | some k =>
    rw [h2] at e; cases e
    exact ⟨F0, H0, F, ρ, d, rl, h1, fun v F1 H1 x1 r1 => ⟨v, d, k, rfl, r1.mono x1.fh, h2, q _ F1 H1 x1 (.bl _)⟩⟩
end
end
section
section
variable {X : Cx} {a b c e k : Expr} {te : TE} {ma mb : ME} {la lb : ML} {pos p2 : Pos} {st : Stmt}
end
end
section
section
variable {X : Cx} {a b c e : Expr} {ma mb : ME} {la lb : ML} {pos : Pos} {st : Stmt}
noncomputable def kitB2 (t c1 c2 : String) : Option Bool := match kitB t c1 with | some true => some true | some false => (match kitB t c2 with | some true => some true | some false => some false | none => none) | none => none
theorem kit_ty2 {K : W.Frag} {t c1 c2 : String} {k : Bool} (h : kitB2 t c1 c2 = some k) : t ≠ "?" /\ W.kitAny K (.type t) [.type c1, .type c2] = some k := by
 unfold kitB2 at h
 split at h
 ·rename_i q1
  obtain ⟨z, e⟩ := kit_ty (K := K) q1
  refine ⟨z, ?_⟩
  unfold W.kitAny; rw [e]; exact h
 ·rename_i q1
  obtain ⟨z, e⟩ := kit_ty (K := K) q1
  refine ⟨z, ?_⟩
  unfold W.kitAny; rw [e]
  split at h
  ·rename_i q2
   unfold W.kitAny; rw [(kit_ty (K := K) q2).2]; exact h
  ·rename_i q2
   unfold W.kitAny; rw [(kit_ty (K := K) q2).2]; exact h
  ·cases h
 ·cases h
theorem isi_rep2 {pins : List (Addr × Obj)} {σ : St} {H : Hp} {s : Shared} {A : Around} {E : Value -> Shared -> Prop} {Q : Value -> Shared -> Prop} {k : Bool} {x : V} {d : D} {u : Value} {tp : Addr} {dd : Option Addr} {its : List Value} {n : Nat} {sl : Array (Option Value)} (I : Inv X pins σ H s) (rx : RelV x u) (r : Rep X.K H x d)
  (htp : s.heap.get? tp = some ⟨.type "tuple", dd, .seq its.toArray n, sl⟩)
  (e : tyD d ≠ "?" /\ W.kitAny X.K (.type (tyD d)) its = some k) (h : ∀ tk, Q (.bool k) { s with toks := tk }) : wpAny (model X.prog X.w) A (call (.builtin "isinstance") [u, .ref tp]) Q E s := by
 obtain ⟨hz, e⟩ := e
 cases r with
 | exc _ _ => exact absurd rfl hz
 | ptr _ => exact absurd rfl hz
 | obj _ _ _ _ _ => exact absurd rfl hz
 | non => cases rx; exact W.kia_tup W.kitx_none I.kIn True.intro htp e (fun z => nomatch z) h
 | bl y => cases rx; exact W.kia_tup W.kitx_bool I.kIn True.intro htp e (fun z => nomatch z) h
 | int i => obtain ⟨t, rfl⟩ := rx; exact W.kia_tup W.kitx_int I.kIn True.intro htp e (fun z => nomatch z) h
 | str y => obtain ⟨t, rfl⟩ := rx; exact W.kia_tup W.kitx_str I.kIn True.intro htp e (fun z => nomatch z) h
 | lst sq rs =>
  cases rx
  obtain ⟨its, vr, ⟨o, m, ho, hc, _, hd⟩, _⟩ := I.list sq
  exact W.kia_tup W.kitx_list I.kIn ⟨_, ho, hc⟩ htp e (fun z => nomatch z) h
 | tup sq rs =>
  cases rx
  obtain ⟨its, vr, ⟨o, ho, hc, m, hd⟩, _⟩ := I.tuple sq
  exact W.kia_tup W.kitx_tuple I.kIn ⟨_, ho, hc⟩ htp e (fun z => nomatch z) h
def rIsi2 (K : W.Frag) (c1 c2 : String) : List V -> Hp -> VK -> Prop := fun vs H Q => ∃ x p d k, vs = [x, .ref p] /\ H p = some (.tup [.ty c1, .ty c2]) /\ Rep K H x d /\ kitB2 (tyD d) c1 c2 = some k /\ Q (.bl k) H
theorem call_isi2 {c1 c2 : String} : CallR X (.builtin "isinstance") (rIsi2 X.K c1 c2) := by
 intro pins s σ H xs us Q I r h
 obtain ⟨x, p, d, k, rfl, hp, rd, e, q⟩ := h
 obtain ⟨u, w, rfl, rx, ry⟩ := vals2 r
 cases ry
 obtain ⟨z, its, vr, ⟨⟨cls, dd, data, sl⟩, ho, hc, n, hd⟩⟩ := (show ObjOk X.prog X.w H s.heap p (.tup [.ty c1, .ty c2]) from I.hok p _ hp)
 obtain ⟨u1, u2, rfl, r1, r2⟩ := vals2 vr
 cases r1; cases r2
 simp only at hc hd
 subst hc hd
 exact isi_rep2 I rx rd ho (kit_ty2 e) fun tk => ⟨.bl k, H, I.tok _, rfl, q⟩
@[irreducible] noncomputable def misi2 (c1 c2 : String) (m : ME) : ME := fun ρ => (m ρ).bind fun d => (kitB2 (tyD d) c1 c2).map .bl
theorem pd_isi2 {c1 c2 : Str} {C1 C2 : String} {p p1 p2 p3 : Pos} {x1} (hg : Gl X "isinstance") (hm : X.mg "isinstance" = none) (hg1 : Gl X c1) (hm1 : X.mg c1 = none) (hv1 : bootBuiltins c1 = some (.type C1)) (hg2 : Gl X c2) (hm2 : X.mg c2 = none) (hv2 : bootBuiltins c2 = some (.type C2)) (ha : PD X a ma)
  (hn1 : c1 ≠ "__name__" := by decide) (hd1 : (c1 == ("__debug__" : Str)) = false := by decide) (hn2 : c2 ≠ "__name__" := by decide) (hd2 : (c2 == ("__debug__" : Str)) = false := by decide)
  (hs : starEach (a :: [.Tuple [.Name c1 p1, .Name c2 p2] x1 p3]) X.env = (false, eval a X.env) :: starEach [.Tuple [.Name c1 p1, .Name c2 p2] x1 p3] X.env := by rfl) (hs2 : starEach [.Tuple [.Name c1 p1, .Name c2 p2] x1 p3] X.env = (false, eval (.Tuple [.Name c1 p1, .Name c2 p2] x1 p3) X.env) :: starEach [] X.env := by rfl)
  (hs3 : starEach [.Name c1 p1, .Name c2 p2] X.env = (false, eval (.Name c1 p1) X.env) :: starEach [.Name c2 p2] X.env := by rfl) (hs4 : starEach [.Name c2 p2] X.env = (false, eval (.Name c2 p2) X.env) :: starEach [] X.env := by rfl)
  (hpl : (backTo pos (starEach [.Tuple [.Name c1 p1, .Name c2 p2] x1 p3] X.env)).any (·.1) = false := by rfl) : PD X (.Call (.Name "isinstance" p) [a, .Tuple [.Name c1 p1, .Name c2 p2] x1 p3] [] pos) (misi2 C1 C2 ma) :=
 (pe_callB (call_isi2 (c1 := C1) (c2 := C2)) hg hm PyProof.Rows.boot_isinstance (pa_cons ha (pa_cons (pe_tup (pa_cons (pe_bltn (v := .ty C1) hg1 hm1 hv1 rfl hn1 hd1) (pa_cons (pe_bltn (v := .ty C2) hg2 hm2 hv2 rfl hn2 hd2) pa_nil hs4) hs3)) pa_nil hs2) hs) (by decide) (by decide) hs hpl).imp fun σ H Q hpat => by
  obtain ⟨F0, H0, F, ρ, g, rl, e, q⟩ := hpat
  unfold misi2 at e
  cases h1 : ma ρ with
  | none => rw [h1] at e; cases e
  | some d =>
   rw [h1] at e
   have e : (kitB2 (tyD d) C1 C2).map D.bl = some g := e
   cases h2 : kitB2 (tyD d) C1 C2 with
   | none => rw [h2] at e; cases e
   | some k =>
    rw [h2] at e; cases e
    refine ⟨F0, H0, F, ρ, d, rl, h1, fun v F1 H1 x1 r1 => ⟨by show 2 <= sizeLine; rw [sizeLine_eq]; decide, fun w hw => ?_⟩⟩
    exact ⟨v, w, d, k, rfl, upd_same, r1.mono (x1.fh.put (x1.fh.free hw)), h2, q _ F1 _ (x1.trans (Ext.own x1.fh hw)) (.bl _)⟩
end
end
section
section
variable {K : W.Frag} {F0 H0 F H : Hp} {σ : St} {ρ : Ro}
end
end
section
section
variable {X : Cx} {a b c e : Expr} {ma mb mz : ME} {la lb : ML} {pos : Pos}
noncomputable def flV : D -> Option V
 | .non => some .non | .bl b => some (.bl b) | .int i => some (.int i) | .str x => some (.str x)
 | _ => none
noncomputable def flVs : List D -> Option (List V)
 | [] => some []
 | d :: r => match flV d with | some v => (match flVs r with | some vs => some (v :: vs) | none => none) | none => none
theorem flV_rep {K : W.Frag} {F : Hp} {v u : V} {d : D} (r : Rep K F v d) (h : flV d = some u) : v = u /\ flatV u = true := by
 cases r <;> cases h <;> exact ⟨rfl, rfl⟩
theorem flVs_reps {K : W.Frag} {F : Hp} : ∀ {vs us : List V} {ds : List D}, Reps K F vs ds -> flVs ds = some us -> vs = us /\ us.all flatV = true
 | _, _, _, .nil, h => by cases h; exact ⟨rfl, rfl⟩
 | _, _, _, .cons (d := d) (ds := ds) r t, h => by
  unfold flVs at h
  cases h1 : flV d with
  | none => rw [h1] at h; cases h
  | some u =>
   cases h2 : flVs ds with
   | none => rw [h1, h2] at h; cases h
   | some us =>
    rw [h1, h2] at h; cases h
    obtain ⟨a1, a2⟩ := flV_rep r h1
    obtain ⟨b1, b2⟩ := flVs_reps t h2
    subst a1 b1
    exact ⟨rfl, by rw [all_cons, a2, b2]; rfl⟩
noncomputable def inDs (neg : Bool) (d : D) (ds : List D) : Option D := match flV d, flVs ds with
 | some v, some vs => some (.bl (if neg then !inV v vs else inV v vs))
 | _, _ => none
noncomputable def inD (neg : Bool) : D -> D -> Option D
 | d, .lst ds => inDs neg d ds
 | d, .tup ds => inDs neg d ds
 | _, _ => none
theorem inDs_some {neg : Bool} {d w : D} {ds : List D} (h : inDs neg d ds = some w) : ∃ v vs, flV d = some v /\ flVs ds = some vs /\ w = .bl (if neg then !inV v vs else inV v vs) := by
 unfold inDs at h
 split at h
 ·rename_i v vs h1 h2; cases h; exact ⟨v, vs, h1, h2, rfl⟩
 ·cases h
theorem opd_in {K : W.Frag} {neg : Bool} : OpD K (rIn K neg) (inD neg) := by
 intro F H x y d e w Q s r1 r2 h q
 cases r2 with
 | lst sq rs =>
  obtain ⟨v, vs, h1, h2, rfl⟩ := inDs_some (show inDs neg d _ = some w from h)
  obtain ⟨a1, a2⟩ := flV_rep r1 h1
  obtain ⟨b1, b2⟩ := flVs_reps rs h2
  subst a1 b1
  exact ⟨_, _, rfl, .inl (s.seq sq), a2, b2, q _ F H (.refl s) (.bl _)⟩
 | tup sq rs =>
  obtain ⟨v, vs, h1, h2, rfl⟩ := inDs_some (show inDs neg d _ = some w from h)
  obtain ⟨a1, a2⟩ := flV_rep r1 h1
  obtain ⟨b1, b2⟩ := flVs_reps rs h2
  subst a1 b1
  exact ⟨_, _, rfl, .inr (s.seqT sq), a2, b2, q _ F H (.refl s) (.bl _)⟩
 | _ => cases d <;> cases h
noncomputable def addSD : D -> D -> Option D
 | .str x, .str y => if x.length + y.length <= sizeLine then some (.str (x ++ y)) else none
 | _, _ => none
theorem opd_addS {K : W.Frag} : OpD K (fun x y H Q => ∃ i j, x = .str i /\ y = .str j /\ i.length + j.length <= sizeLine /\ Q (.str (i ++ j)) H) addSD := by
 intro F H x y d e w Q s r1 r2 h q
 cases d with
 | str x =>
  cases e with
  | str y =>
   have h : (if x.length + y.length <= sizeLine then some (D.str (x ++ y)) else none) = some w := h
   by_cases hz : x.length + y.length <= sizeLine
   ·rw [if_pos hz] at h; cases h; exact ⟨x, y, r1.s', r2.s', hz, q _ F H (.refl s) (.str _)⟩
   ·rw [if_neg hz] at h; cases h
  | _ => cases h
 | _ => cases h
theorem pd_addS (ha : PD X a ma) (hb : PD X b mb) : PD X (.BinOp a .Add b pos) (m2 addSD ma mb) := pd_op op_add_str opd_addS ha hb
@[irreducible] noncomputable def mchain (f g : D -> D -> Option D) (x y z : ME) : ME := fun ρ => match x ρ, y ρ with
 | some d, some e => (match f d e with | some (.bl true) => (match z ρ with | some h => g e h | none => none) | some (.bl false) => some (.bl false) | _ => none)
 | _, _ => none
theorem chain_d {r r' : R2} {f g : D -> D -> Option D} (hf : OpD X.K r f) (hg : OpD X.K r' g) {σ : St} {H : Hp} {Q : VK} (h : TD X.K (mchain f g ma mb mz) σ H Q) : tChain r r' (TD X.K ma) (TD X.K mb) (TD X.K mz) σ H Q := by
 obtain ⟨F0, H0, F, ρ, w, rl, e, q⟩ := h
 unfold mchain at e
 cases h1 : ma ρ with
 | none => rw [h1] at e; cases e
 | some d =>
  cases h2 : mb ρ with
  | none => rw [h1, h2] at e; cases e
  | some d2 =>
   rw [h1, h2] at e
   refine ⟨F0, H0, F, ρ, d, rl, h1, fun x F1 H1 x1 r1 => ⟨F0, H0, F1, ρ, d2, rl.go x1, h2, fun y F2 H2 x2 r2 => ?_⟩⟩
   cases h3 : f d d2 with
   | none => simp only [h3] at e; cases e
   | some k =>
    refine hf F2 H2 x y d d2 k _ x2.fh (r1.mono x2.ff) r2 h3 fun v F3 H3 x3 r3 => ?_
    simp only [h3] at e
    cases r3 with
    | bl k =>
     cases k with
     | false =>
      cases e
      exact ⟨false, rfl, by rw [if_neg (by simp)]; exact q _ F3 H3 ((x1.trans x2).trans x3) (.bl _)⟩
     | true =>
      refine ⟨true, rfl, ?_⟩
      rw [if_pos rfl]
      cases h4 : mz ρ with
      | none => simp only [h4] at e; cases e
      | some d4 =>
       simp only [h4] at e
       refine ⟨F0, H0, F3, ρ, d4, ((rl.go x1).go x2).go x3, h4, fun w' F4 H4 x4 r4 => ?_⟩
       exact hg F4 H4 y w' d2 d4 w _ x4.fh (r2.mono (x3.ff.trans x4.ff)) r4 e fun v' F5 H5 x5 => q v' F5 H5 ((((x1.trans x2).trans x3).trans x4).trans x5)
    | _ => cases e
theorem pc_chain {op op' : CmpOp} {r r' : R2} {f g : D -> D -> Option D} (ho : OpR X (compareOp op) r) (hf : OpD X.K r f) (ho' : OpR X (compareOp op') r') (hg : OpD X.K r' g) (ha : PD X a ma) (hb : PD X b mb) (hc : PD X c mz)
  (hm : lastMarks [op, op'] [b, c] = false := by with_unfolding_all rfl) : PC' X (.Compare a [op, op'] [b, c] pos) (mtest (mchain f g ma mb mz)) := (pt_chain ho ho' ha hb hc hm).imp fun σ H Q hpat => by
 obtain ⟨F0, H0, F, ρ, w, rl, e, q⟩ := hpat
 unfold mtest at e
 split at e
 ·rename_i k hk
  cases e
  refine chain_d hf hg ⟨F0, H0, F, ρ, .bl w, rl, hk, fun v F' H' x r => ?_⟩
  cases r
  exact ⟨_, rfl, q F' H' x⟩
 ·cases e
noncomputable def intsD : List D -> Option (List Int)
 | [] => some []
 | .int i :: r => match intsD r with | some ns => some (i :: ns) | none => none
 | _ => none
noncomputable def tabVs : List (Str × Str) -> List DictEntry -> Prop
 | [], [] => True
 | (k, v) :: r, e :: es => (∃ t, e.key = .str k t) /\ (∃ t, e.val = .str v t) /\ tabVs r es
 | _, _ => False
structure KTab (w : World) (K : W.Frag) (a : Addr) (tab : List (Str × Str)) : Prop where
 ns : (a == sysModules) = false
 nd : (tab.map (·.1)).Nodup
 obj : ∃ es ep, K.lookup a = some ⟨.type "dict", none, .dict es ep, #[]⟩ /\ tabVs tab es.toList /\ ∀ e ∈ es.toList, ∀ k t, e.key = .str k t -> e.hash = hashStr w k
end
end
section
section
variable {prog : Program} {w : World} {A : Around} {E : Value -> Shared -> Prop} {s : Shared}
structure ApT (z TO i1 i2 l : Addr) : Prop where
 lz : l ≠ z
 lTO : l ≠ TO
 l1 : l ≠ i1
 l2 : l ≠ i2
end
end
section
section
variable {prog : Program} {w : World} {A : Around} {E : Value -> Shared -> Prop} {s : Shared}
end
section
variable {X : Cx}
end
end
section
section
variable {X : Cx} {a b c e : Expr} {ma mb : ME} {la lb : ML} {pos : Pos}
end
section
variable {K : W.Frag} {F0 H0 F H H' : Hp} {σ : St} {ρ : Ro}
end
section
variable {X : Cx} {a b c e3 : Expr} {ma mb : ME} {la lb : ML} {pos : Pos} {E : XK} {es : List Expr} {mf : MF} {m : ML} {rb : List Stmt} {mx : MS} {cc : MB} {y : D}
end
end
section
noncomputable abbrev MEm := Ro -> Option (D × Ro)
noncomputable abbrev MLm := Ro -> Option (List D × Ro)
section
variable {X : Cx} {a b c e : Expr} {ma mb : ME} {na nb : MEm} {pos : Pos} {es : List Expr}
variable {st : Stmt}
end
noncomputable abbrev MG := Addr -> List D -> List D -> Option (Rt × List D)
end
section
section
variable {K : W.Frag} {F0 H0 F H F' H' : Hp} {σ : St} {ρ : Ro}
end
open Classical in
section
variable {X : Cx} {e : Expr} {pos : Pos} {es : List Expr} {E : XK} {mf : MG} {m : MLm}
end
end
section
section
variable {X : Cx} {a b c e : Expr} {ma mb : ME} {pos : Pos}
end
end
section
section
open PySem.SeqAt
open PySem.AutoSeq1 (wpAny_loadPart')
open PySem.MeetsSeq PySem.MeetsSeq2 PySem.MeetsSeq3
end
section
variable {X : Cx} {pins : List (Addr × Obj)} {σ : St} {H : Hp} {s : Shared}
end
end
section
section
variable {X : Cx} {pins : List (Addr × Obj)} {σ : St}
end
end
section
section
variable {X : Cx} {pins : List (Addr × Obj)} {σ : St}
end
end
section
section
variable {prog : Program} {w : World} {A : Around} {E : Value -> Shared -> Prop} {s : Shared}
end
section
variable {X : Cx}
end
end
section
section
variable {X : Cx} {a b : Expr} {pos : Pos}
end
end
section
section
variable {X : Cx} {e : Expr} {pos : Pos} {es : List Expr} {E : XK} {mf : MG} {st : Stmt} {na : MEm}
end
section
variable {X : Cx} {a b : Expr} {pos : Pos}
end
end
section
section
variable {X : Cx} {pins : List (Addr × Obj)} {σ : St}
end
end
section
section
variable {X : Cx} {pins : List (Addr × Obj)} {σ : St}
end
end
section
section
variable {X : Cx} {pins : List (Addr × Obj)} {σ : St}
end
section
variable {X : Cx}
end
end
section
section
variable {X : Cx} {pins : List (Addr × Obj)} {σ : St}
end
end
end L2
namespace L2
open List
open PySem PySem.Spec PyProof.Rows PySem.Builtin PySem.Builtin.Str
section
section
variable {X : Cx} {a b c e o : Expr} {ma mb mo : ME} {pos : Pos}
theorem pd_globS {x z : Str} {t : Tok} {p : Pos} (hg : Gl X x) (hm : X.mg x = some (.str z t)) (hd : (x == ("__debug__" : Str)) = false := by decide) : PD X (.Name x p) (mc (.str z)) := (pe_glob (v := .str z) hg hm ⟨_, rfl⟩ hd).imp fun σ H Q hpat => by
 obtain ⟨F0, H0, F, ρ, d, r, e, q⟩ := hpat
 cases e; exact q _ F H (.refl r.fh) (.str z)
theorem pd_globI {x : Str} {z : Int} {t : Tok} {p : Pos} (hg : Gl X x) (hm : X.mg x = some (.int z t)) (hd : (x == ("__debug__" : Str)) = false := by decide) : PD X (.Name x p) (mc (.int z)) := (pe_glob (v := .int z) hg hm ⟨_, rfl⟩ hd).imp fun σ H Q hpat => by
 obtain ⟨F0, H0, F, ρ, d, r, e, q⟩ := hpat
 cases e; exact q _ F H (.refl r.fh) (.int z)
noncomputable def strF : List D -> Option D
 | [.int i] => if i.natAbs.log2 < 1920 then some (.str (Str.ofString (toString i))) else none
 | _ => none
theorem calld_str {K : W.Frag} : CallD K (fun xs H Q => ∃ i, xs = [.int i] /\ i.natAbs.log2 < 1920 /\ Q (.str (toString i)) H) strF := by
 intro F H vs ds g Q s r h q
 cases r with
 | nil => cases h
 | cons r rr =>
  cases rr with
  | cons _ _ => revert h; unfold strF; intro h; split at h <;> simp_all
  | nil =>
   cases r with
   | int i =>
    have h : (if i.natAbs.log2 < 1920 then some (D.str (Str.ofString (toString i))) else none) = some g := h
    split at h
    ·rename_i hz; cases h; exact ⟨i, rfl, hz, q _ F H (.refl s) (.str _)⟩
    ·cases h
   | _ => cases h
theorem pd_strc {e : Expr} {p : Pos} {m : ML} (hg : Gl X "str") (hm : X.mg "str" = none) (ha : PAs X [e] m) (hv : bootBuiltins "str" = some (.type "str")) (he : starEach [e] X.env = (false, eval e X.env) :: starEach [] X.env := by rfl) (hpl : (backTo pos (starEach [] X.env)).any (·.1) = false := by rfl) : PD X (.Call (.Name "str" p) [e] [] pos) (call1 strF m) :=
 (pe_callTy call_str_int hg hm hv ha (by decide) (by decide) he hpl).imp fun _ _ _ h => call_d calld_str h
noncomputable def intTF : List D -> Option D
 | [.str x] => if x.length <= 640 then (intText? x).map .int else none
 | _ => none
theorem call_int_text : CallR X (.type "int") (fun xs H Q => ∃ x n, xs = [.str x] /\ x.length <= 640 /\ intText? x = some n /\ Q (.int n) H) := by
 intro pins s σ H xs us Q I r h
 obtain ⟨x, n, rfl, hz, hn, q⟩ := h
 obtain ⟨u, rfl, t, rfl⟩ := vals1 r
 exact W.KIN.call_text hn hz ⟨.int n, H, I.tok _, ⟨_, rfl⟩, q⟩
theorem calld_intT {K : W.Frag} : CallD K (fun xs H Q => ∃ x n, xs = [.str x] /\ x.length <= 640 /\ intText? x = some n /\ Q (.int n) H) intTF := by
 intro F H vs ds g Q s r h q
 cases r with
 | nil => cases h
 | cons r rr =>
  cases rr with
  | cons _ _ => revert h; unfold intTF; intro h; split at h <;> simp_all
  | nil =>
   cases r with
   | str x =>
    have h : (if x.length <= 640 then (intText? x).map D.int else none) = some g := h
    split at h
    ·rename_i hz
     cases hn : intText? x with
     | none => rw [hn] at h; cases h
     | some n => rw [hn] at h; cases h; exact ⟨x, n, rfl, hz, hn, q _ F H (.refl s) (.int _)⟩
    ·cases h
   | _ => cases h
theorem pd_intT {e : Expr} {p : Pos} {m : ML} (hg : Gl X "int") (hm : X.mg "int" = none) (ha : PAs X [e] m) (hv : bootBuiltins "int" = some (.type "int")) (he : starEach [e] X.env = (false, eval e X.env) :: starEach [] X.env := by rfl) (hpl : (backTo pos (starEach [] X.env)).any (·.1) = false := by rfl) : PD X (.Call (.Name "int" p) [e] [] pos) (call1 intTF m) :=
 (pe_callTy call_int_text hg hm hv ha (by decide) (by decide) he hpl).imp fun _ _ _ h => call_d calld_intT h
noncomputable def strM (g : Str -> List D -> Option D) : D -> List D -> Option D
 | .str z, ds => g z ds
 | _, _ => none
@[irreducible] noncomputable def mmeth (g : Str -> List D -> Option D) (x : ME) (m : ML) : ME := fun ρ => (x ρ).bind fun d => (m ρ).bind fun ds => strM g d ds
def MtS (K : W.Frag) (r : V -> List V -> Hp -> VK -> Prop) (g : Str -> List D -> Option D) : Prop := ∀ (F H : Hp) (z : Str) (vs : List V) (ds : List D) (y : D) (Q : VK), Same F H -> Reps K F vs ds -> g z ds = some y -> (∀ v F' H', Ext F H F' H' -> Rep K F' v y -> Q v H') -> r (.str z) vs H Q
theorem pd_meth {id : String} {name : Str} {es : List Expr} {apos cpos : Pos} {r : V -> List V -> Hp -> VK -> Prop} {g : Str -> List D -> Option D} {m : ML} (hE : ∀ t, PA X (e :: es) t -> PE X (.Call (.Attribute o name apos) (e :: es) [] cpos) (tBM X.K "str" r (TD X.K mo) t)) (hD : MtS X.K r g) (ha : PAs X (e :: es) m) :
  PD X (.Call (.Attribute o name apos) (e :: es) [] cpos) (mmeth g mo m) := (hE _ ha).imp fun σ H Q hpat => by
 obtain ⟨F0, H0, F, ρ, y, rl, e, q⟩ := hpat
 unfold mmeth at e
 cases h1 : mo ρ with
 | none => rw [h1] at e; cases e
 | some d =>
  rw [h1] at e
  cases h2 : m ρ with
  | none => rw [h2] at e; cases e
  | some ds =>
   rw [h2] at e
   have e : strM g d ds = some y := e
   refine ⟨F0, H0, F, ρ, d, rl, h1, fun v F1 H1 x1 r1 => ?_⟩
   cases r1 with
   | str z =>
    refine ⟨rfl, F0, H0, F1, ρ, ds, rl.go x1, h2, fun vs F2 H2 x2 r2 => ?_⟩
    exact hD F2 H2 z vs ds y Q x2.fh r2 e fun v F' H' x3 => q v F' H' ((x1.trans x2).trans x3)
   | _ => cases e
@[irreducible] noncomputable def mmeth0 (g : Str -> Option D) (x : ME) : ME := fun ρ => (x ρ).bind fun d => match d with | .str z => g z | _ => none
theorem pd_meth0 {name : Str} {apos cpos : Pos} {r : V -> List V -> Hp -> VK -> Prop} {g : Str -> Option D} (hE : PE X (.Call (.Attribute o name apos) [] [] cpos) (tBM0 X.K "str" r (TD X.K mo)))
  (hD : ∀ (F H : Hp) (z : Str) (y : D) (Q : VK), Same F H -> g z = some y -> (∀ v F' H', Ext F H F' H' -> Rep X.K F' v y -> Q v H') -> r (.str z) [] H Q) : PD X (.Call (.Attribute o name apos) [] [] cpos) (mmeth0 g mo) := hE.imp fun σ H Q hpat => by
 obtain ⟨F0, H0, F, ρ, y, rl, e, q⟩ := hpat
 unfold mmeth0 at e
 cases h1 : mo ρ with
 | none => rw [h1] at e; cases e
 | some d =>
  rw [h1] at e
  refine ⟨F0, H0, F, ρ, d, rl, h1, fun v F1 H1 x1 r1 => ?_⟩
  cases r1 with
  | str z => exact ⟨rfl, hD F1 H1 z y Q x1.fh e fun v F' H' x2 => q v F' H' (x1.trans x2)⟩
  | _ => cases e
def rTst (f : Str -> Bool) : V -> List V -> Hp -> VK -> Prop := fun x xs H Q => ∃ z, x = .str z /\ xs = [] /\ Q (.bl (f z)) H
theorem mt_isdigit : MtR X "str.isdigit" (rTst Txt.isdigit) := by
 intro pins s σ H x vs v us Q I rx rv h
 obtain ⟨z, rfl, rfl, q⟩ := h
 obtain ⟨t, rfl⟩ := rx
 cases rv
 exact SC.isdigit ⟨.bl _, H, I, rfl, q⟩
theorem mt_isascii : MtR X "str.isascii" (rTst Txt.isascii) := by
 intro pins s σ H x vs v us Q I rx rv h
 obtain ⟨z, rfl, rfl, q⟩ := h
 obtain ⟨t, rfl⟩ := rx
 cases rv
 exact SC.isascii ⟨.bl _, H, I, rfl, q⟩
theorem dTst {K : W.Frag} (f : Str -> Bool) : ∀ (F H : Hp) (z : Str) (y : D) (Q : VK), Same F H -> (fun z => some (D.bl (f z))) z = some y -> (∀ v F' H', Ext F H F' H' -> Rep K F' v y -> Q v H') -> rTst f (.str z) [] H Q := by
 intro F H z y Q s h q
 cases h
 exact ⟨z, rfl, rfl, q _ F H (.refl s) (.bl _)⟩
def rStarts : V -> List V -> Hp -> VK -> Prop := fun x xs H Q => ∃ z y, x = .str z /\ xs = [.str y] /\ Q (.bl (Txt.startswith z y)) H
theorem mt_starts : MtR X "str.startswith" rStarts := by
 intro pins s σ H x vs v us Q I rx rv h
 obtain ⟨z, y, rfl, rfl, q⟩ := h
 obtain ⟨t, rfl⟩ := rx
 obtain ⟨u, rfl, ru⟩ := rv.one
 obtain ⟨t2, rfl⟩ := ru
 exact SC.startswith ⟨.bl _, H, I, rfl, q⟩
noncomputable def startsF (z : Str) : List D -> Option D
 | [.str y] => some (.bl (Txt.startswith z y))
 | _ => none
theorem dStarts {K : W.Frag} : MtS K rStarts startsF := by
 intro F H z vs ds y Q s r h q
 cases r with
 | nil => cases h
 | cons r rr =>
  cases rr with
  | cons _ _ => revert h; unfold startsF; intro h; split at h <;> simp_all
  | nil => cases r <;> first | (cases h; done) | skip
           cases h; exact ⟨z, _, rfl, rfl, q _ F H (.refl s) (.bl _)⟩
def rRemP : V -> List V -> Hp -> VK -> Prop := fun x xs H Q => ∃ z y, x = .str z /\ xs = [.str y] /\ z.length <= sizeLine /\ Q (.str (Txt.removeprefix z y)) H
theorem mt_remP : MtR X "str.removeprefix" rRemP := by
 intro pins s σ H x vs v us Q I rx rv h
 obtain ⟨z, y, rfl, rfl, hz, q⟩ := h
 obtain ⟨t, rfl⟩ := rx
 obtain ⟨u, rfl, ru⟩ := rv.one
 obtain ⟨t2, rfl⟩ := ru
 exact SC.removeprefix (fun t' k => ⟨.str _, H, I.tok _, ⟨_, rfl⟩, q⟩) hz
noncomputable def remPF (z : Str) : List D -> Option D
 | [.str y] => if z.length <= sizeLine then some (.str (Txt.removeprefix z y)) else none
 | _ => none
theorem dRemP {K : W.Frag} : MtS K rRemP remPF := by
 intro F H z vs ds g Q s r h q
 cases r with
 | nil => cases h
 | cons r rr =>
  cases rr with
  | cons _ _ => revert h; unfold remPF; intro h; split at h <;> simp_all
  | nil =>
   cases r with
   | str y =>
    have h : (if z.length <= sizeLine then some (D.str (Txt.removeprefix z y)) else none) = some g := h
    split at h
    ·rename_i hz; cases h; exact ⟨z, y, rfl, rfl, hz, q _ F H (.refl s) (.str _)⟩
    ·cases h
   | _ => cases h
noncomputable def strsD : List D -> Option (List Str)
 | [] => some []
 | .str i :: r => match strsD r with | some ns => some (i :: ns) | none => none
 | _ => none
theorem strsD_reps {K : W.Frag} {F : Hp} : ∀ {vs : List V} {ds : List D} {ns : List Str}, Reps K F vs ds -> strsD ds = some ns -> vs = ns.map V.str
 | _, _, _, .nil, h => by cases h; rfl
 | _, _, _, .cons (d := d) (ds := ds) r t, h => by
  cases r with
  | str i =>
   unfold strsD at h
   cases h1 : strsD ds with
   | none => simp only [h1] at h; cases h
   | some ns => simp only [h1] at h; cases h; rw [strsD_reps t h1]; rfl
  | _ => cases h
theorem strsD_map : ∀ ns : List Str, strsD (ns.map D.str) = some ns
 | [] => rfl
 | n :: ns => by show (match strsD (ns.map D.str) with | some ns => some (n :: ns) | none => none) = _; rw [strsD_map ns]
theorem vals_strs : ∀ {ys : List Str} {us : List Value}, Vals (ys.map V.str) us -> StrsAre us ys
 | [], us, r => by rw [map_nil] at r; cases r; exact .nil
 | y :: ys, us, r => by
  rw [map_cons] at r
  cases r with
  | cons r1 r2 => obtain ⟨t, e⟩ := r1; subst e; exact .cons y t (vals_strs r2)
def rJoin (K : W.Frag) : V -> List V -> Hp -> VK -> Prop := fun x xs H Q => ∃ z p ys, x = .str z /\ xs = [.ref p] /\ SqL K H p (ys.map V.str) /\ (ys.map (·.length)).sum + ys.length * z.length <= 16777216 /\ Q (.str (Txt.join z ys)) H
theorem mt_join : MtR X "str.join" (rJoin X.K) := by
 intro pins s σ H x vs v us Q I rx rv h
 obtain ⟨z, p, ys, rfl, rfl, sq, hz, q⟩ := h
 obtain ⟨t, rfl⟩ := rx
 obtain ⟨u, rfl, ru⟩ := rv.one
 cases ru
 obtain ⟨its, vr, pl, _⟩ := I.list sq
 exact join_list pl.isList (vals_strs vr) hz fun t' k => ⟨.str _, H, I.tok _, ⟨_, rfl⟩, q⟩
noncomputable def joinF (z : Str) : List D -> Option D
 | [.lst ds] => match strsD ds with | some ys => if (ys.map (·.length)).sum + ys.length * z.length <= 16777216 then some (.str (Txt.join z ys)) else none | none => none
 | _ => none
theorem dJoin {K : W.Frag} : MtS K (rJoin K) joinF := by
 intro F H z vs ds g Q s r h q
 cases r with
 | nil => cases h
 | cons r rr =>
  cases rr with
  | cons _ _ => revert h; unfold joinF; intro h; split at h <;> simp_all
  | nil =>
   cases r with
   | lst sq rs =>
    rename_i ds
    have h : (match strsD ds with | some ys => if (ys.map (·.length)).sum + ys.length * z.length <= 16777216 then some (D.str (Txt.join z ys)) else none | none => none) = some g := h
    cases h1 : strsD ds with
    | none => simp only [h1] at h; cases h
    | some ys =>
     simp only [h1] at h
     split at h
     ·rename_i hz; cases h
      refine ⟨z, _, ys, rfl, rfl, ?_, hz, q _ F H (.refl s) (.str _)⟩
      rw [<- strsD_reps rs h1]; exact s.seq sq
     ·cases h
   | _ => cases h
theorem vals_strValues : ∀ (l : List (Str × Tok)), Vals ((l.map (·.1)).map V.str) (strValues l)
 | [] => .nil
 | p :: r => .cons ⟨p.2, rfl⟩ (vals_strValues r)
def rSplit : V -> List V -> Hp -> VK -> Prop := fun x xs H Q => ∃ z y, x = .str z /\ xs = [.str y] /\ (y.length == 0) = false /\ z.length + 2 <= sizeLine /\ ∀ p, H p = none -> Q (.ref p) (upd H p (.lst ((Txt.split z y).map V.str)))
theorem split_len (x y : Str) (h : x.length + 2 <= sizeLine) : (partsBetween x (occurrences x y 0 x.length (x.length + 1)) y.length).length <= sizeLine := by
 have e1 := StrLaws.occ_length_le x y 0 x.length (x.length + 1)
 rw [length_partsBetween]; omega
theorem mt_split : MtR X "str.split" rSplit := by
 intro pins s σ H x vs v us Q I rx rv h
 obtain ⟨z, y, rfl, rfl, hy, hz, q⟩ := h
 obtain ⟨t, rfl⟩ := rx
 obtain ⟨u, rfl, ru⟩ := rv.one
 obtain ⟨t2, rfl⟩ := ru
 have hn := split_len z y hz
 have fin : ∀ (l : List (Str × Tok)) (k : Nat), l.map (·.1) = Txt.split z y -> EP X pins σ Q (.ref s.heap.objs.size) { s with heap := s.heap.push { cls := .type "list", data := .seq (strValues l).toArray }, toks := k } := fun l k hl => by
  refine ⟨.ref s.heap.objs.size, _, I.laid (t' := k) (fun b ob q => Heap.get?_push_of_some _ q) (Nat.le_refl _) (o := .lst ((Txt.split z y).map V.str)) ?_, rfl, q _ (I.hok.fresh (Nat.le_refl _))⟩
  refine ⟨?_, strValues l, 0, ?_, Heap.get?_push_size _ rfl⟩
  ·rw [length_map]
   unfold Txt.split
   split
   ·exact Nat.le_trans (Nat.le_add_left 1 _) (Nat.le_trans (show z.length + 1 <= z.length + 2 by omega) hz)
   ·split
    ·exact Nat.le_trans (Nat.le_add_left 1 _) (Nat.le_trans (show z.length + 1 <= z.length + 2 by omega) hz)
    ·exact hn
  ·rw [<- hl]; exact vals_strValues l
 cases h1 : (decide (z.length < y.length) || decide (strKind z < strKind y))
 ·cases hf : (occurrences z y 0 z.length (z.length + 1)).isEmpty
  ·refine call_meets F.slot_str_split (typeIs_str _ _ _) F.entry_str_split (F.args_str_split_2 _ _) (meets_str_split_sep z y t t2 h1 hy hf (by omega) hn) ?_
   show wants _ _ _ { s with toks := _, heap := s.heap.push { cls := .type "list", data := .seq (strsFrom s.toks (partsBetween z (occurrences z y 0 z.length (z.length + 1)) y.length)).toArray } }
   rw [strsFrom_eq]
   exact fin (numbered s.toks _) _ ((numbered_texts _ _).trans ((if_neg (ne_true_of_eq_false h1)).trans (if_neg (ne_true_of_eq_false hf))).symm)
  ·exact call_meets F.slot_str_split (typeIs_str _ _ _) F.entry_str_split (F.args_str_split_2 _ _) (meets_str_split_not_found z y t t2 h1 hy hf)
    (fin [(z, t)] s.toks ((if_neg (ne_true_of_eq_false h1)).trans (if_pos hf)).symm)
 ·exact call_meets F.slot_str_split (typeIs_str _ _ _) F.entry_str_split (F.args_str_split_2 _ _) (meets_str_split_cannot_occur z y t t2 h1)
   (fin [(z, t)] s.toks (if_pos h1).symm)
noncomputable def splitF (z : Str) : List D -> Option D
 | [.str y] => if (y.length == 0) = false /\ z.length + 2 <= sizeLine then some (.lst ((Txt.split z y).map D.str)) else none
 | _ => none
theorem reps_strs {K : W.Frag} {F : Hp} : ∀ (l : List Str), Reps K F (l.map V.str) (l.map D.str)
 | [] => .nil
 | z :: l => .cons (.str z) (reps_strs l)
theorem dSplit {K : W.Frag} : MtS K rSplit splitF := by
 intro F H z vs ds g Q s r h q
 cases r with
 | nil => cases h
 | cons r rr =>
  cases rr with
  | cons _ _ => revert h; unfold splitF; intro h; split at h <;> simp_all
  | nil =>
   cases r with
   | str y =>
    have h : (if (y.length == 0) = false /\ z.length + 2 <= sizeLine then some (D.lst ((Txt.split z y).map D.str)) else none) = some g := h
    split at h
    ·rename_i hz; cases h
     refine ⟨z, y, rfl, rfl, hz.1, hz.2, fun p hp => q _ _ _ (Ext.laid s hp) (.lst (SqL.of upd_same) (reps_strs _))⟩
    ·cases h
   | _ => cases h
def rSlS : V -> Option Int -> Option Int -> Hp -> VK -> Prop := fun x lo hi H Q => ∃ z, x = .str z /\ z.length <= sizeLine /\ Q (.str (Txt.slice z lo hi)) H
theorem sl_str : SlR X rSlS := by
 intro pins s σ H x v vl vu lo hi sl Q I rx hs pl pu h
 obtain ⟨z, rfl, hz, q⟩ := h
 obtain ⟨t, rfl⟩ := rx
 refine ⟨"str", _, F.slot_str_getitem.lookup, typeIs_str _ _ _, ?_⟩
 have fin : ∀ (t' : Tok) (k : Nat), EP X pins σ Q (.str (Txt.slice z lo hi) t') { s with toks := k } := fun t' k => ⟨.str _, H, I.tok _, ⟨_, rfl⟩, q⟩
 cases pl with
 | none =>
  cases pu with
  | none => exact wpAny_getItem_str_slice (l := none) (u := none) (st := none) hs rfl (post_val_or_str ⟨Nat.le_trans (Txt.slice_le z _ _) hz, fin⟩)
  | int j uj => exact wpAny_getItem_str_slice (l := none) (u := some (j, uj)) (st := none) hs rfl (post_val_or_str ⟨Nat.le_trans (Txt.slice_le z _ _) hz, fin⟩)
 | int i ui =>
  cases pu with
  | none => exact wpAny_getItem_str_slice (l := some (i, ui)) (u := none) (st := none) hs rfl (post_val_or_str ⟨Nat.le_trans (Txt.slice_le z _ _) hz, fin⟩)
  | int j uj => exact wpAny_getItem_str_slice (l := some (i, ui)) (u := some (j, uj)) (st := none) hs rfl (post_val_or_str ⟨Nat.le_trans (Txt.slice_le z _ _) hz, fin⟩)
@[irreducible] noncomputable def mcutS (m : ME) (lo hi : MO) : ME := fun ρ => (m ρ).bind fun d => (lo ρ).bind fun l => (hi ρ).bind fun h => match d with | .str z => if z.length <= sizeLine then some (.str (Txt.slice z l h)) else none | _ => none
theorem pd_slS {lo hi : Option Expr} {l h : MO} {p2 : Pos} (ha : PD X a ma) (hl : POs X lo l) (hh : POs X hi h) : PD X (.Subscript a (.Slice lo hi none p2) pos) (mcutS ma l h) := (pe_slice sl_str ha hl hh).imp fun σ H Q hpat => by
 obtain ⟨F0, H0, F, ρ, g, rl, e, q⟩ := hpat
 unfold mcutS at e
 cases h1 : ma ρ with
 | none => rw [h1] at e; cases e
 | some d =>
  cases h2 : l ρ with
  | none => rw [h1, h2] at e; cases e
  | some i =>
   cases h3 : h ρ with
   | none => rw [h1, h2, h3] at e; cases e
   | some j =>
    rw [h1, h2, h3] at e
    refine ⟨F0, H0, F, ρ, d, rl, h1, fun v F1 H1 x1 r1 => ⟨F0, H0, F1, ρ, i, rl.go x1, h2, fun F2 H2 x2 => ⟨F0, H0, F2, ρ, j, (rl.go x1).go x2, h3, fun F3 H3 x3 => ?_⟩⟩⟩
    cases r1 with
    | str z =>
     have e : (if z.length <= sizeLine then some (D.str (Txt.slice z i j)) else none) = some g := e
     split at e
     ·rename_i hz; cases e
      exact ⟨z, rfl, hz, q _ F3 H3 ((x1.trans x2).trans x3) (.str _)⟩
     ·cases e
    | _ => cases e
theorem pd_lenS {e : Expr} {p : Pos} {m : ML} (hg : Gl X "len") (hm : X.mg "len" = none) (ha : PAs X [e] m) (he : starEach [e] X.env = (false, eval e X.env) :: starEach [] X.env := by rfl) (hpl : (backTo pos (starEach [] X.env)).any (·.1) = false := by rfl) : PD X (.Call (.Name "len" p) [e] [] pos) (call1 lenF m) := pd_len hg hm ha he hpl
end
end
section
section
variable {X : Cx} {a b c e o : Expr} {ma mb mo : ME} {pos : Pos}
noncomputable def mulSOk (x : Str) (n : Int) : Bool := decide (0 <= n) && decide (n <= 1000) && decide (x.length <= 1000)
theorem mulSOk_ok {x : Str} {n : Int} (h : mulSOk x n = true) : MulOk x n := by
 unfold mulSOk at h
 simp only [Bool.and_eq_true, decide_eq_true_eq] at h
 obtain ⟨⟨h0, h1⟩, h2⟩ := h
 refine ⟨?_, fun hn _ => ?_, fun hn _ => ?_⟩
 ·rw [decide_eq_false (by omega), decide_eq_false (by omega)]; rfl
 ·have e : (9223372036854775807 : Int) / 1000 <= (2 ^ 63 - 1) / n := by
   have h3 : (2 ^ 63 - 1 : Int) / 1000 <= (2 ^ 63 - 1) / n := by
    apply Int.le_ediv_of_mul_le (by omega)
    calc (2 ^ 63 - 1 : Int) / 1000 * n <= (2 ^ 63 - 1 : Int) / 1000 * 1000 := Int.mul_le_mul_of_nonneg_left h1 (by decide)
     _ <= 2 ^ 63 - 1 := by decide
   exact h3
  have e2 : ((1000 : Nat) : Int) <= (9223372036854775807 : Int) / 1000 := by decide
  omega
 ·have : x.length * n.toNat <= 1000 * 1000 := Nat.mul_le_mul h2 (by omega)
  unfold tooLong
  have h3 : (1000 * 1000 : Nat) <= sizeLine := by rw [show sizeLine = 2 ^ 24 from rfl]; decide
  exact decide_eq_false (by omega)
noncomputable def mulSD : D -> D -> Option D
 | .str x, .int n => if mulSOk x n = true then some (.str (Txt.mul x n)) else none
 | _, _ => none
theorem op_mul_str : OpR X (binaryOp .Mult) (fun x y H Q => ∃ i j, x = .str i /\ y = .int j /\ mulSOk i j = true /\ Q (.str (Txt.mul i j)) H) := by
 intro pins s σ H x y v u Q I rx ry h
 obtain ⟨i, j, rfl, rfl, hz, q⟩ := h
 obtain ⟨t, rfl⟩ := rx
 obtain ⟨t', rfl⟩ := ry
 exact SB.mul (mulSOk_ok hz) fun t' k => ⟨.str _, H, I.tok _, ⟨_, rfl⟩, q⟩
theorem opd_mulS {K : W.Frag} : OpD K (fun x y H Q => ∃ i j, x = .str i /\ y = .int j /\ mulSOk i j = true /\ Q (.str (Txt.mul i j)) H) mulSD := by
 intro F H x y d e w Q s r1 r2 h q
 cases d with
 | str x =>
  cases e with
  | int y =>
   have h : (if mulSOk x y = true then some (D.str (Txt.mul x y)) else none) = some w := h
   by_cases hz : mulSOk x y = true
   ·rw [if_pos hz] at h; cases h; exact ⟨x, y, r1.s', r2.i', hz, q _ F H (.refl s) (.str _)⟩
   ·rw [if_neg hz] at h; cases h
  | _ => cases h
 | _ => cases h
theorem pd_mulS (ha : PD X a ma) (hb : PD X b mb) : PD X (.BinOp a .Mult b pos) (m2 mulSD ma mb) := pd_op op_mul_str opd_mulS ha hb
end
end
end L2
namespace L2
open List
open PySem PySem.Spec PyProof.Rows
section
section
variable {X : Cx} {a b c e o : Expr} {ma mb mo : ME} {pos : Pos} {st : Stmt}
end
end
section
section
variable {prog : Program} {w : World} {A : Around} {E : Value -> Shared -> Prop} {s : Shared} {l : Addr} {xs : Array (Int × Tok)}
end
section
variable {X : Cx} {a b c e o : Expr} {ma mb mo : ME} {pos : Pos} {st : Stmt}
end
section
variable {X : Cx} {a b c e : Expr} {na nb : MEm} {pos : Pos} {st : Stmt} {es : List Expr} {E : XK} {mf : MF} {m : MLm}
noncomputable abbrev MBm := Ro -> Option (Bool × Ro)
end
end
section
section
variable {X : Cx} {a b c e : Expr} {na nb : MEm} {pos : Pos} {st : Stmt} {es : List Expr} {m : MLm}
end
section
variable {X : Cx} {pos : Pos}
end
end
section
section
variable {X : Cx} {e : Expr} {na : MEm} {pos : Pos} {st : Stmt} {es : List Expr} {m : ML} {mf : MG} {E : XK}
open Classical in
end
end
section
section
variable {X : Cx}
end
end
section
section
variable {X : Cx} {e : Expr} {pos : Pos}
@[irreducible] noncomputable def many (m : ML) : ME := fun ρ => match m ρ with | some ds => (match intsD ds with | some ns => some (.bl (ns.any fun i => i != 0)) | none => none) | none => none
end
end
section
section
variable {X : Cx} {e : Expr} {ma : ME} {pos : Pos}
end
end
section
section
variable {X : Cx} {e : Expr} {ma : ME} {pos : Pos}
end
end
section
section
variable {prog : Program} {w : World} {A : Around} {E : Value -> Shared -> Prop} {s : Shared}
end
section
variable {X : Cx}
end
end
section
section
variable {X : Cx} {a : Expr} {na : MEm} {pos : Pos} {ca : MBm}
end
end
section
section
variable {X : Cx} {a b : Expr} {m : ML} {pos : Pos}
end
end
end L2
namespace L2
open List
open PySem
section
theorem runs_fn {M : Model} {Γ : Ctx} {p : Pos} {t : Sem Fin} {fs : List Frame} {s s1 : Shared} {e1 : End} (h : Runs M Γ p t fs s e1 s1) : ∀ {e2 s2}, Runs M Γ p t fs s e2 s2 -> e1 = e2 /\ s1 = s2 := by
 induction h with
 | done => intro e2 s2 h'; cases h'; exact ⟨rfl, rfl⟩
 | raise => intro e2 s2 h'; cases h'; exact ⟨rfl, rfl⟩
 | again _ _ ih => intro e2 s2 h'; cases h' with | again _ h2 => exact ih h2
 | rule _ ih => intro e2 s2 h'; cases h' with | rule h2 => exact ih h2
 | «at» _ ih => intro e2 s2 h'; cases h' with | «at» h2 => exact ih h2
 | load q _ ih => intro e2 s2 h'; cases h' with | load q2 h2 => rw [q] at q2; cases q2; exact ih h2
 | update _ _ ih => intro e2 s2 h'; cases h' with | update _ h2 => exact ih h2
 | loadIfAlive _ ih => intro e2 s2 h'; cases h' with | loadIfAlive h2 => exact ih h2
 | point _ ih => intro e2 s2 h'; cases h' with | point h2 => exact ih h2
 | alloc _ ih => intro e2 s2 h'; cases h' with | alloc h2 => exact ih h2
 | fresh _ ih => intro e2 s2 h'; cases h' with | fresh h2 => exact ih h2
 | ask _ ih => intro e2 s2 h'; cases h' with | ask h2 => exact ih h2
 | choose _ _ ih => intro e2 s2 h'; cases h' with | choose _ h2 => exact ih h2
 | os _ ih => intro e2 s2 h'; cases h' with | os h2 => exact ih h2
 | handled _ ih => intro e2 s2 h'; cases h' with | handled h2 => exact ih h2
 | genState q _ ih => intro e2 s2 h'; cases h' with | genState q2 h2 => rw [q] at q2; cases q2; exact ih h2
 | stack _ ih => intro e2 s2 h'; cases h' with | stack h2 => exact ih h2
 | thread _ ih => intro e2 s2 h'; cases h' with | thread h2 => exact ih h2
 | newGen _ ih => intro e2 s2 h'; cases h' with | newGen h2 => exact ih h2
 | call _ _ i1 i2 =>
  intro e2 s2 h'
  cases h' with
  | call a b => obtain ⟨x, y⟩ := i1 a; cases x; cases y; exact i2 b
  | callSusp a => obtain ⟨x, y⟩ := i1 a; cases x
 | callSusp _ i1 =>
  intro e2 s2 h'
  cases h' with
  | call a b => obtain ⟨x, y⟩ := i1 a; cases x
  | callSusp a => obtain ⟨x, y⟩ := i1 a; cases x; cases y; exact ⟨rfl, rfl⟩
 | yield => intro e2 s2 h'; cases h'; exact ⟨rfl, rfl⟩
 | resumeFresh q _ _ _ i1 i2 =>
  intro e2 s2 h'
  cases h' with
  | resumeFresh q2 a _ b => rw [q] at q2; cases q2; obtain ⟨x, y⟩ := i1 a; cases x; cases y; exact i2 b
  | resumeSuspended q2 => rw [q] at q2; cases q2
  | resumeJustStarted q2 n => exact absurd rfl n
  | resumeRunning q2 => rw [q] at q2; cases q2
  | resumeFinished q2 => rw [q] at q2; cases q2
 | resumeSuspended q _ _ _ i1 i2 =>
  intro e2 s2 h'
  cases h' with
  | resumeFresh q2 => rw [q] at q2; cases q2
  | resumeSuspended q2 a _ b => rw [q] at q2; cases q2; obtain ⟨x, y⟩ := i1 a; cases x; cases y; exact i2 b
  | resumeJustStarted q2 => rw [q] at q2; cases q2
  | resumeThrowFresh q2 => rw [q] at q2; cases q2
  | resumeRunning q2 => rw [q] at q2; cases q2
  | resumeFinished q2 => rw [q] at q2; cases q2
 | resumeJustStarted q n _ ih =>
  intro e2 s2 h'
  cases h' with
  | resumeFresh => exact absurd rfl n
  | resumeSuspended q2 => rw [q] at q2; cases q2
  | resumeJustStarted _ _ b => exact ih b
  | resumeRunning q2 => rw [q] at q2; cases q2
  | resumeFinished q2 => rw [q] at q2; cases q2
 | resumeThrowFresh q _ ih =>
  intro e2 s2 h'
  cases h' with
  | resumeSuspended q2 => rw [q] at q2; cases q2
  | resumeThrowFresh _ b => exact ih b
  | resumeRunning q2 => rw [q] at q2; cases q2
  | resumeFinished q2 => rw [q] at q2; cases q2
 | resumeRunning q _ ih =>
  intro e2 s2 h'
  cases h' with
  | resumeFresh q2 => rw [q] at q2; cases q2
  | resumeSuspended q2 => rw [q] at q2; cases q2
  | resumeJustStarted q2 => rw [q] at q2; cases q2
  | resumeThrowFresh q2 => rw [q] at q2; cases q2
  | resumeRunning _ b => exact ih b
  | resumeFinished q2 => rw [q] at q2; cases q2
 | resumeFinished q _ ih =>
  intro e2 s2 h'
  cases h' with
  | resumeFresh q2 => rw [q] at q2; cases q2
  | resumeSuspended q2 => rw [q] at q2; cases q2
  | resumeJustStarted q2 => rw [q] at q2; cases q2
  | resumeThrowFresh q2 => rw [q] at q2; cases q2
  | resumeRunning q2 => rw [q] at q2; cases q2
  | resumeFinished _ b => exact ih b
 | segRet _ _ i1 i2 =>
  intro e2 s2 h'
  cases h' with
  | segRet a b => obtain ⟨x, y⟩ := i1 a; cases x; cases y; exact i2 b
  | segSuspOut _ a => obtain ⟨x, y⟩ := i1 a; cases x
  | segSuspGen _ a => obtain ⟨x, y⟩ := i1 a; cases x
 | segGen _ _ i1 i2 =>
  intro e2 s2 h'
  cases h' with
  | segGen a b => obtain ⟨x, y⟩ := i1 a; cases x; cases y; exact i2 b
  | segSuspOut _ a => obtain ⟨x, y⟩ := i1 a; cases x
  | segSuspGen _ a => obtain ⟨x, y⟩ := i1 a; cases x
 | segSuspOut q _ i1 =>
  intro e2 s2 h'
  cases h' with
  | segRet a b => obtain ⟨x, y⟩ := i1 a; cases x
  | segGen a b => obtain ⟨x, y⟩ := i1 a; cases x
  | segSuspOut _ a => obtain ⟨x, y⟩ := i1 a; cases x; cases y; exact ⟨rfl, rfl⟩
  | segSuspGen q2 => rw [q] at q2; cases q2
 | segSuspGen q _ _ _ i1 i2 =>
  intro e2 s2 h'
  cases h' with
  | segRet a b => obtain ⟨x, y⟩ := i1 a; cases x
  | segGen a b => obtain ⟨x, y⟩ := i1 a; cases x
  | segSuspOut q2 => rw [q] at q2; cases q2
  | segSuspGen q2 a _ b => rw [q] at q2; cases q2; obtain ⟨x, y⟩ := i1 a; cases x; cases y; exact i2 b
theorem returns_fn {M : Model} {Γ : Ctx} {p : Pos} {s s1 s2 : Shared} {r1 r2 : Result} (h1 : Returns M Γ p s r1 s1) (h2 : Returns M Γ p s r2 s2) : r1 = r2 /\ s1 = s2 := by
 obtain ⟨x, y⟩ := runs_fn h1 h2
 cases x
 exact ⟨rfl, y⟩
theorem wakes_fn {M : Model} {Γ : Ctx} {p : Pos} {g : Nat} {r : Resume} {s s1 s2 : Shared} {r1 r2 : GenResult} (h1 : Wakes M Γ p g r s r1 s1) (h2 : Wakes M Γ p g r s r2 s2) : r1 = r2 /\ s1 = s2 := by
 have two : ∀ {Γ' : Ctx} {p' : Pos} {t : Sem Fin} {fs : List Frame} {s0 : Shared}, (∃ e₁ s₁, Runs M Γ' p' t fs s0 e₁ s₁ /\ e₁.quiet = true /\ r1 = e₁.result /\ s1 = s₁.setGen g e₁.genState) -> (∃ e₁ s₁, Runs M Γ' p' t fs s0 e₁ s₁ /\ e₁.quiet = true /\ r2 = e₁.result /\ s2 = s₁.setGen g e₁.genState) -> r1 = r2 /\ s1 = s2 := by
  rintro Γ' p' t fs s0 ⟨e1, u1, a1, _, b1, c1⟩ ⟨e2, u2, a2, _, b2, c2⟩
  obtain ⟨x, y⟩ := runs_fn a1 a2
  subst x y
  exact ⟨b1.trans b2.symm, c1.trans c2.symm⟩
 unfold Wakes at h1 h2
 cases hg : s.gens[g]? with
 | none => rw [hg] at h1; exact h1.elim
 | some st =>
  rw [hg] at h1 h2
  cases st with
  | fresh c =>
   cases r with
   | throw x => exact ⟨h1.1.trans h2.1.symm, h1.2.trans h2.2.symm⟩
   | send v =>
    cases v with
    | none => exact two h1 h2
    | _ => exact ⟨h1.1.trans h2.1.symm, h1.2.trans h2.2.symm⟩
  | suspended k0 l0 c0 p0 fs cl => exact two h1 h2
  | running => exact ⟨h1.1.trans h2.1.symm, h1.2.trans h2.2.symm⟩
  | finished => exact ⟨h1.1.trans h2.1.symm, h1.2.trans h2.2.symm⟩
section
open PySem.Sem (wp)
theorem wp_both {α : Type} {M : Model} {Γ : Ctx} (t : Sem α) : ∀ {Q1 Q2 : α -> Pos -> Shared -> Prop} {E1 E2 : Value -> Pos -> Shared -> Prop} {p : Pos} {s : Shared}, wp M Γ t Q1 E1 p s -> wp M Γ t Q2 E2 p s -> wp M Γ t (fun a p s => Q1 a p s /\ Q2 a p s) (fun a p s => E1 a p s /\ E2 a p s) p s := by
 induction t with
 | pure a => intro Q1 Q2 E1 E2 p s h1 h2; rw [wp] at h1 h2 ⊢; exact ⟨h1, h2⟩
 | raise e => intro Q1 Q2 E1 E2 p s h1 h2; rw [wp] at h1 h2 ⊢; exact ⟨h1, h2⟩
 | load a x k ih =>
  intro Q1 Q2 E1 E2 p s h1 h2
  rw [wp] at h1 h2 ⊢
  obtain ⟨o, e, h1⟩ := h1
  obtain ⟨o', e', h2⟩ := h2
  rw [e] at e'; cases e'
  exact ⟨o, e, ih o h1 h2⟩
 | update a x f k ih =>
  intro Q1 Q2 E1 E2 p s h1 h2
  rw [wp] at h1 h2 ⊢
  exact ⟨h1.1, ih () h1.2 h2.2⟩
 | choose src n k ih =>
  intro Q1 Q2 E1 E2 p s h1 h2
  rw [wp] at h1 h2 ⊢
  exact ⟨h1.1, ih _ h1.2 h2.2⟩
 | genState g k ih =>
  intro Q1 Q2 E1 E2 p s h1 h2
  rw [wp] at h1 h2 ⊢
  obtain ⟨o, e, h1⟩ := h1
  obtain ⟨o', e', h2⟩ := h2
  rw [e] at e'; cases e'
  exact ⟨o, e, ih _ h1 h2⟩
 | call c h l x k ih =>
  intro Q1 Q2 E1 E2 p s h1 h2
  rw [wp] at h1 h2 ⊢
  obtain ⟨r, s1, e, h1⟩ := h1
  obtain ⟨r', s2, e', h2⟩ := h2
  obtain ⟨x1, x2⟩ := returns_fn e e'
  subst x1 x2
  exact ⟨r, s1, e, ih _ h1 h2⟩
 | resume g r l k ih =>
  intro Q1 Q2 E1 E2 p s h1 h2
  rw [wp] at h1 h2 ⊢
  obtain ⟨r, s1, e, h1⟩ := h1
  obtain ⟨r', s2, e', h2⟩ := h2
  obtain ⟨x1, x2⟩ := wakes_fn e e'
  subst x1 x2
  exact ⟨r, s1, e, ih _ h1 h2⟩
 | _ =>
  intro Q1 Q2 E1 E2 p s h1 h2
  rw [wp] at h1 h2 ⊢
  first
   | exact h1.elim
   | (rename_i ih _ _ _ _; exact ih _ h1 h2)
   | (rename_i ih; exact ih _ h1 h2)
end
theorem wpAny_both {α : Type} {M : Model} {A : Around} {t : Sem α} {Q1 Q2 : α -> Shared -> Prop} {E1 E2 : Value -> Shared -> Prop} {s : Shared} (h1 : wpAny M A t Q1 E1 s) (h2 : wpAny M A t Q2 E2 s) : wpAny M A t (fun a s => Q1 a s /\ Q2 a s) (fun a s => E1 a s /\ E2 a s) s := fun Γ p hΓ => wp_both t (h1 Γ p hΓ) (h2 Γ p hΓ)
end
end L2
namespace L2
open List
open PySem PySem.Spec PyProof.Rows
section
def Cz (e : Addr) (h : Heap) : Prop := ∃ o vs T oT ts, h.get? e = some o /\ o.data = .fields vs /\ vs[1]? = some (.ref T) /\ vs[2]? = some .none /\ T ≠ e /\ h.get? T = some oT /\ oT.data = .fields ts /\ 3 < ts.size
section
variable {M : Model} {A : Around} {E : Value -> Shared -> Prop} {s : Shared} {base : Heap} {env : Env} {outer : List Env} {L e : Addr}
theorem cz_flight {fr : Option Addr} (z : Cz e s.heap) : wpAny M A (setFlight (.ref e) fr) (fun _ s' => Cz e s'.heap) E s := by
 obtain ⟨o, vs, T, oT, ts, he, hd, h1, h2, ne, hT, dT, sT⟩ := z
 unfold setFlight
 refine wpAny_bind (wpAny_field he hd h1 ?_)
 rw [if_pos (by simp)]
 refine wpAny_setField hT dT sT ?_
 have q := Obj.data_mapFields dT (·.setIfInBounds 3 (fr.elim Value.none fun f => rawInt f))
 exact ⟨o, vs, T, _, _, (Heap.get?_update_other _ _ ne).trans he, hd, h1, h2, ne, Heap.get?_update_self _ hT (Obj.isFreed_of_fields q), q, by simpa using sT⟩
theorem cz_entry {oe : Obj} {vs : Array Value} {head : Value} {b : Bool} (hfr : A.frames = some (env :: outer)) (hl : s.heap.FunFrames base (env :: outer)) (hf : env.frame = some L) (he : s.heap.get? e = some oe) (hd : oe.data = .fields vs) (sz : 1 < vs.size) (h2 : vs[2]? = some .none) :
  wpAny M A (do let x ← frameOf env; let y ← entryPlaceOf L b; let z ← EntryCells.newEntry head x .none (rawInt L) .none y; setField (.ref e) 1 z) (fun _ s' => Cz e s'.heap) E s := by
 have nf : e ∉ (env :: outer).filterMap (·.frame) := fun m => by
  obtain ⟨_, o', e', n⟩ := hl.mem m
  rw [he] at e'; cases e'
  exact n vs hd
 refine wpAny_bind (wpAny_frameOf_fun hfr hl hf fun g1 so => wpAny_bind (wpAny_entryPlaceOf fun y py => ?_))
 have he1 : g1.get? e = some oe := (so.2.1 e nf).trans he
 unfold EntryCells.newEntry newFields
 refine wpAny_bind (wpAny_newObj_type ?_ (py.sizeOk5 _ _ _ _ _))
 refine wpAny_setField (Heap.get?_push_of_some _ he1) hd sz ?_
 have q := Obj.data_mapFields hd (·.setIfInBounds 1 (Value.ref g1.objs.size))
 have lt : e < g1.objs.size := Heap.lt_size he1
 refine ⟨_, _, g1.objs.size, _, _, Heap.get?_update_self _ (Heap.get?_push_of_some _ he1) (Obj.isFreed_of_fields q), q, by simp [sz], by rw [Array.getElem?_setIfInBounds_ne (by decide)]; exact h2, Nat.ne_of_gt lt, (Heap.get?_update_other _ _ (Nat.ne_of_lt lt)).trans (Heap.get?_push_size _ rfl), rfl, ?_⟩
 simp only [size_toArray, length_append, length_cons, length_nil]; omega
theorem cz_note (hfr : A.frames = some (env :: outer)) (hl : s.heap.FunFrames base (env :: outer)) (hf : env.frame = some L) (z : Cz e s.heap) : wpAny M A (noteFrame (.ref e) env) (fun _ s' => Cz e s'.heap) E s := by
 have zz := z
 obtain ⟨o, vs, T, oT, ts, he, hd, h1, h2, ne, hT, dT, sT⟩ := z
 have h3 : ts[3]? = some ts[3] := Array.getElem?_eq_getElem sT
 unfold noteFrame
 simp only [hf]
 refine wpAny_bind (wpAny_field he hd h1 ?_)
 rw [if_pos (by simp)]
 refine wpAny_bind (wpAny_field hT dT h3 ?_)
 split
 ·exact wpAny_pure zz
 ·refine wpAny_bind (wpAny_setField hT dT sT ?_)
  have no : ∀ b u, s.heap.get? b = some u -> (∀ ws, u.data ≠ .fields ws) -> T ≠ b := fun b u hb n k => by
   rw [<- k, hT] at hb; cases hb; exact n ts dT
  exact cz_entry (s := { s with heap := s.heap.update T _ }) hfr (hl.of_keeps fun b u hb n => ⟨u, (Heap.get?_update_other _ _ (no b u hb n)).trans hb, rfl⟩) hf ((Heap.get?_update_other _ _ ne).trans he) hd (Array.getElem?_eq_some_iff.mp h1).1 h2
theorem cz_made {h : Heap} {C : Addr} {us : List Value} (hfr : A.frames = some (env :: outer)) (hl : h.FunFrames base (env :: outer)) (hf : env.frame = some L) (x : Heap.MadeExcOf h s.heap e (.ref C) us) : wpAny M A (noteFrame (.ref e) env) (fun _ s' => Cz e s'.heap) E s := by
 obtain ⟨t, he, _, _⟩ := x.there
 unfold noteFrame
 simp only [hf]
 refine wpAny_bind (wpAny_field (x := Value.none) he rfl (by rfl) ?_)
 rw [if_neg (by decide)]
 exact cz_entry hfr (hl.of_keeps fun b u hb _ => ⟨u, x.keeps b u hb, rfl⟩) hf he rfl (by simp) (by rfl)
theorem with_cz {t : Sem Unit} {R : Heap -> Prop} {Q : Unit -> Shared -> Prop} (z : wpAny M A t (fun _ s' => Cz e s'.heap) E s) (h : wpAny M A t (fun _ s' => ∃ h', s' = { s with heap := h' } /\ R h') E s) (hQ : ∀ h', R h' -> Cz e h' -> Q () { s with heap := h' }) : wpAny M A t Q E s :=
 wpAny_mono (wpAny_both h z) (fun _ s' ⟨⟨h', q, r⟩, c⟩ => by subst q; exact hQ h' r c) fun _ _ q => q.1
theorem Cz.two {h : Heap} (z : Cz e h) {o : Obj} {vs : Array Value} (he : h.get? e = some o) (hd : o.data = .fields vs) : vs[2]? = some .none := by
 obtain ⟨o', vs', T, oT, ts, he', hd', h1, h2, _⟩ := z
 rw [he] at he'; cases he'
 rw [hd] at hd'; cases hd'
 exact h2
end
end
end L2
namespace L2
open List
open PySem PySem.Spec PyProof.Rows PySem.W PySem.Builtin PySem.Builtin.ObjectAttr PySem.Builtin.Getset_descriptor
section
structure XCls (K : W.Frag) (C : Addr) : Prop where
 ga : findIn K (.ref C) "__getattribute__" = some (some (.builtin "BaseException.__getattribute__"))
 nog : findIn K (.ref C) "__getattr__" = some none
 cl : findIn K (.ref C) "__class__" = some (some (.builtin "object.__class__"))
 ob : mroIn K C (.type "object") = some true
 be : mroIn K C (.type "BaseException") = some true
section
variable {prog : Program} {w : World} {A : Around} {E : Value -> Shared -> Prop} {K : W.Frag} {x C : Addr} {ox : Obj} {h : Heap} {g : Array GenState} {d : Drawn} {t : Nat} {os : OsState}
theorem xc_get {tp : Value} {R : Result -> Shared -> Prop} (X : K.In h) (LT : ∀ M : Model, Looks M h (typeOf (.ref x)) (.ref C)) (hm : mroIn K C (.type "object") = some true)
  (hq : R (.ok (.ret (.ref C))) ⟨h, g, d, t, os⟩) : codeAny (model prog w) A (.call (.builtin "getset_descriptor.__get__") ⟨[.builtin "object.__class__", .ref x, tp], []⟩) R ⟨h, g, d, t, os⟩ := by
 have L0 := LT (model prog w)
 have L1 := looks_mroIn (M := model prog w) X hm
 refine codeAny_call_builtin F.slot_gs_get.plain F.entry_gs_get (F.slot_gs_get.check _ _ _ _ _ _ _ _ F.typeOf_object_class (F.args_gs_get _ _ tp) ?_)
 unfold Builtin.«getset_descriptor.__get__» descrGet
 rw [dga_obj]
 refine wpAny_bind (wpAny_pure ?_)
 unfold descrGetter; unfold descrCheckInstance; unfold descrNameAndClass isInstance
 simp only [KF.owner_class]
 repeat lk
 refine And.intro (Code.quiet_builtin _ (by decide +kernel)) (codeAny_builtin F.entry_object_class ?_)
 unfold Builtin.«object.__class__»; unfold shownTypeOf
 repeat lk
 exact hq
theorem xc_entry {tk : Tok} {Q : PySem.Fin -> Shared -> Prop} (Z : XCls K C) (X : K.In h) (LT : ∀ M : Model, Looks M h (typeOf (.ref x)) (.ref C)) (hq : Q (.done (.ret (.ref C))) ⟨h, g, d, t, os⟩) :
  wpAny (model prog w) A (Builtin.«object.__getattribute__» ⟨[.ref x, .str "__class__" tk], []⟩) Q E ⟨h, g, d, t, os⟩ := by
 have L0 := LT (model prog w)
 have L1 := looks_findIn (M := model prog w) X Z.cl
 have L2 : Looks (model prog w) h (typeOf (.builtin "object.__class__")) (.type "getset_descriptor") := Looks.of_pure F.typeOf_object_class
 have L3 : Looks (model prog w) h (typeLookup (.type "getset_descriptor") "__get__") (some (.builtin "getset_descriptor.__get__")) := Looks.of_pure F.slot_gs_get.lookup
 have L4 : Looks (model prog w) h (typeLookup (.type "getset_descriptor") "__set__") (some (.builtin "getset_descriptor.__set__")) := Looks.of_pure F.slot_gs_set.lookup
 repeat (first | with_reducible refine wpAny_call (xc_get X LT Z.ob ?_) | lk)
 exact hq
theorem xc_call {tk : Tok} {R : Result -> Shared -> Prop} (Z : XCls K C) (X : K.In h) (LT : ∀ M : Model, Looks M h (typeOf (.ref x)) (.ref C)) (hq : R (.ok (.ret (.ref C))) ⟨h, g, d, t, os⟩) :
  codeAny (model prog w) A (.call (.builtin "BaseException.__getattribute__") ⟨[.ref x, .str "__class__" tk], []⟩) R ⟨h, g, d, t, os⟩ := by
 have k1 : builtinKind "BaseException.__getattribute__" = some .slot := by decide +kernel
 have k2 : splitId "BaseException.__getattribute__" = some ("BaseException", "__getattribute__") := by decide +kernel
 have k3 := F.args_bexc_ga (.ref x) (.str "__class__" tk)
 have L0 := LT (model prog w)
 have L1 := looks_mroIn (M := model prog w) X Z.be
 refine codeAny_call_builtin (by decide +kernel) F.entry_bexc_ga ?_
 simp only [checkBuiltinCall, k1, k2]
 refine wpAny_bind ?_
 unfold isInstance
 refine wpAny_bind (L0.at (L1.at ?_))
 rw [if_neg (by decide)]
 exact wpAny_of_eq (a := ()) k3 (xc_entry Z X LT hq)
theorem xc_class {Q : Option Value -> Shared -> Prop} (Z : XCls K C) (X : K.In h) (LT : ∀ M : Model, Looks M h (typeOf (.ref x)) (.ref C)) (hq : Q (some (.ref C)) ⟨h, g, d, t + 1, os⟩) :
  wpAny (model prog w) A (getAttr? (.ref x) "__class__") Q E ⟨h, g, d, t, os⟩ := by
 have L0 := LT (model prog w)
 have L1 := looks_findIn (M := model prog w) X Z.ga
 have L2 := looks_findIn (M := model prog w) X Z.nog
 unfold getAttr? getAttrBy? getAttrBy
 refine wpAny_bind (wpAny_mkText (wpAny_bind (wpAny_attempt (wpAny_holding (wpAny_bind (L0.at (wpAny_bind (L1.at ?_))))))))
 dsimp only
 rw [if_neg (by intro z; rw [Bool.and_eq_true] at z; exact absurd z.2 (by decide))]
 unfold getAttrByItsOwn hookBefore
 rw [if_pos (by rfl)]
 refine wpAny_bind (L2.at (wpAny_bind (wpAny_attempt (wpAny_holding ?_))))
 unfold callGetattribute
 rw [if_neg (by decide)]
 unfold boundAndCalled
 have b1 : bindSpecial (.builtin "BaseException.__getattribute__") (.ref x) = pure (.builtin "BaseException.__getattribute__", [.ref x]) := F.attr_ValueError.ga.bind _
 refine wpAny_bind (wpAny_of_eq b1 (wpAny_call (xc_call Z X LT ?_)))
 exact handed_on rfl (wpAny_pure hq)
theorem XAt.looks {a C : Addr} (p : XAt a C h) (M : Model) : Looks M h (typeOf (.ref a)) (.ref C) := by
 obtain ⟨o, vs, h1, h2, _⟩ := p
 exact h2 ▸ (Looks.ld h1).andThen .now
theorem kitx_exc {a C : Addr} (Z : XCls K C) : KitX K (.ref a) (.ref C) (XAt a C) where
 ty := fun M h _ p => p.looks M
 it := fun M h X _ => by
  have q := Z.ob
  unfold mroIn at q
  cases hc : clsIn K C with
  | none => rw [hc] at q; cases q
  | some cd =>
   unfold clsIn at hc
   split at hc
   ·rename_i c' d' cd' sl' ho
    intro A1 Q1 E1 s1 kk qq
    unfold isType loadHead
    exact wpAny_bind (wpAny_loadPart (kk _ _ (X C _ ho)) (wpAny_pure qq))
   ·cases hc
 ne := fun h tp dd its n sl X htp => by
  refine Bool.eq_false_iff.mpr fun z => ?_
  have e : C = tp := Value.ref.inj (beq_iff_eq.mp z)
  subst e
  have q := Z.ob
  unfold mroIn at q
  cases hc : clsIn K C with
  | none => rw [hc] at q; cases q
  | some cd =>
   unfold clsIn at hc
   split at hc
   ·rename_i c' d' cd' sl' ho
    cases (X _ _ ho).symm.trans htp
   ·cases hc
 ca := fun {prog w A E Q s} X p hq => by
  obtain ⟨hh, g, d, t, os⟩ := s
  exact xc_class Z X p.looks hq
end
end
end L2
namespace L2
open List
open PySem PySem.Spec PyProof.Rows
section
structure Flown (P : Program) (w : World) (outer : List Env) (H : Hp) (s : Shared) (H' : Hp) (B h' : Heap) : Prop where
 un : Un (frs outer) [] H H' s.heap h'
 ok : HOk P w H' h'
 st : B.StaysIn h'
 trk : ∀ b o, H' b = some o -> ∃ ob, B.get? b = some ob
 old : ∀ b o, s.heap.get? b = some o -> b ∉ frs outer -> ∃ ob, B.get? b = some ob
def CXx (P : Program) (w : World) : CXT := fun outer H s E ev s' => ∃ (e C : Addr) (a0 : Value) (H' : Hp) (B : Heap), ev = .ref e /\ s'.os = s.os /\ AllBare s'.gens /\ Flown P w outer H s H' B s'.heap /\
 Heap.FlyingW B outer e (.ref C) a0 s'.heap /\ Cz e s'.heap /\ E (.ref C) none H'
section
variable {P : Program} {w : World} {outer : List Env} {H H' : Hp} {s : Shared} {B h1 h2 base : Heap}
theorem Flown.on (f : Flown P w outer H s H' B h1) (fr : h1.FunFrames base outer) (st : B.StaysIn h2) (up : h1.UpToSlots h2) : Flown P w outer H s H' B h2 := by
 have same : ∀ b o, h1.get? b = some o -> (∃ ob, B.get? b = some ob) -> h2.get? b = some o := fun b o e hpat => by
  obtain ⟨ob, eb⟩ := hpat
  have := f.st b ob eb
  rw [e] at this; cases this
  exact st b o eb
 have fslot : ∀ b o, b ∈ frs outer -> h1.get? b = some o -> ∃ sl, h2.get? b = some { o with slots := sl } := fun b o hb e => by
  obtain ⟨_, o', e', hd⟩ := fr.mem hb
  rw [e] at e'; cases e'
  exact up b o e hd
 refine ⟨⟨fun b o e n hb hx => same b o (f.un.keep b o e n hb hx) (f.old b o e hb), fun b o e n hb hx => ?_, f.un.free, fun b o e hx => ?_, f.un.tups, f.un.frzs, f.un.tbls⟩, fun b u e => ?_, st, f.trk, f.old⟩
 ·obtain ⟨sl, e1⟩ := f.un.slot b o e n hb hx
  obtain ⟨sl2, e2⟩ := fslot b _ hb e1
  exact ⟨sl2, e2⟩
 ·by_cases hb : b ∈ frs outer
  ·obtain ⟨o1, e1⟩ := f.un.there b o e hx
   obtain ⟨sl2, e2⟩ := fslot b _ hb e1
   exact ⟨_, e2⟩
  ·obtain ⟨ob, eb⟩ := f.old b o e hb
   exact ⟨ob, st b ob eb⟩
 ·refine (f.ok b u e).stay (fun c v hc q => same c v q ?_) (fun _ q => q) fun _ _ q => q
  rcases hc with z | z
  ·rw [z]; exact f.trk b u e
  ·exact f.trk c _ z
end
structure Top (X : Cx) : Prop where
 stk : X.stack = X.env :: X.outer
 frm : X.env.frame = some X.env.locals
 ex : X.ex = []
section
variable {X : Cx} {pins : List (Addr × Obj)} {σ : St} {H H' : Hp} {s : Shared} {B h1 : Heap}
theorem Flown.inv {s' : Shared} (I : Inv X pins σ H s) (f : Flown X.prog X.w X.stack H s H' B s'.heap) (os : s'.os = s.os) (bare : AllBare s'.gens) : Inv X pins σ H' s' :=
 I.call' (ch := []) os f.un f.ok bare fun b z => absurd z (by simp)
theorem Flown.out {s' : Shared} (T : Top X) (I : Inv X pins σ H s) (f : Flown X.prog X.w X.stack H s H' B s'.heap) (os : s'.os = s.os) (bare : AllBare s'.gens) : Flown X.prog X.w X.outer X.H₀ X.s₀ H' B s'.heap := by
 have I' := f.inv I os bare
 refine ⟨by have := I'.base; rw [T.ex] at this; exact this, f.ok, f.st, f.trk, fun b o e hb => ?_⟩
 obtain ⟨o1, e1⟩ := I.base.there b o e (by rw [T.ex]; simp)
 refine f.old b o1 e1 fun z => ?_
 rcases List.mem_cons.mp (I.stkSub b z) with z | z
 ·exact absurd (Nat.lt_of_lt_of_le (Heap.lt_size e) I.ok.above) (by rw [z]; exact Nat.lt_irrefl _)
 ·exact hb z
end
theorem ObjOk.there {P : Program} {w : World} {H : Hp} {h : Heap} {a : Addr} {o : HO} (x : ObjOk P w H h a o) : ∃ ob, h.get? a = some ob := by
 cases o with
 | lst xs => obtain ⟨_, _, _, _, e⟩ := x; exact ⟨_, e⟩
 | tup xs => obtain ⟨_, _, _, ⟨_, e, _⟩⟩ := x; exact ⟨_, e⟩
 | dK kvs => obtain ⟨_, _, _, _, o, _, _, e, _⟩ := x; exact ⟨_, e⟩
 | dT kvs => obtain ⟨_, _, _, _, o, _, _, e, _⟩ := x; exact ⟨_, e⟩
 | set S n => obtain ⟨o, _, _, _, e, _⟩ := x; exact ⟨_, e⟩
 | ins C dx fs => obtain ⟨_, _, _, e, _⟩ := x; exact ⟨_, e⟩
 | own y => exact x
 | xd fs => obtain ⟨_, ⟨_, _, _, e, _⟩, _⟩ := x; exact ⟨_, e⟩
 | rng lo hi => obtain ⟨_, _, _, e⟩ := x; exact ⟨_, e⟩
 | frz ob u => exact ⟨_, x.1⟩
 | tbl ps => exact ⟨_, show h.get? a = some _ from x⟩
 | met f y => exact ⟨_, show h.get? a = some _ from x⟩
 | ext φ => exact x.2.1
noncomputable abbrev bmV : List Value := [.type "ValueError", .type "Exception", .type "BaseException", .type "object"]
theorem xobj {K : W.Frag} {h : Heap} {C : Addr} {bmB : List Value} {newId : String} (X : K.In h) (q : W.excIn K C bmB newId = true) :
  ∃ bm N nm qn bs hdct sn sub ab col dd k0 k1 k2 k3 k5 mN, h.get? C = some (excClassObj nm qn C N bs bm hdct sn sub ab col dd k0 k1 k2 k3 k5 newId) /\ h.Ns N mN /\ mN "__init__" = none /\ OwnTail h bmB bm := by
 unfold W.excIn at q
 split at q
 ·rename_i d1 cd sl ho
  split at q
  ·rename_i C1 bm k0 k1 k2 k3 n1 k5 hm hs
   simp only [beq_iff_eq, Bool.not_eq_true', Bool.and_eq_true] at q
   obtain ⟨⟨⟨⟨⟨y1, y2⟩, y3⟩, y4⟩, y5⟩, y6⟩ := q
   subst y1 y2
   obtain ⟨a1, a2, a3, a4, a5, a6, a7, a8, a9, a10, a11⟩ := cd
   dsimp only at hm y3 y5 y6
   subst hm y3
   obtain ⟨l⟩ := sl
   have hl : l = [k0, k1, k2, k3, some (.builtin n1), k5] := hs
   subst hl
   exact ⟨bm, _, _, _, _, _, _, _, _, _, _, k0, k1, k2, k3, k5, _, X _ _ ho, .of_isNs (W.isNs_of_in X y5), W.nsMap_none_of_in X y5 y6, W.tail_of_in X y4⟩
  ·cases q
 ·cases q
def XC (K : W.Frag) (c : Str) (C : Addr) : Prop := W.nsIn K mainGlobals c = some (some (.ref C)) /\ xName K C = some c
def RXp (X : Cx) (pins : List (Addr × Obj)) (W : Str -> St -> Hp -> Prop) (ev : Value) (s3 : Shared) : Prop :=
 ∃ (e C : Addr) (a0 : Value) (σ' : St) (H1 : Hp) (s1 : Shared) (H' : Hp) (B : Heap) (c : Str), ev = .ref e /\ Inv X pins σ' H1 s1 /\ s3.os = s1.os /\ AllBare s3.gens /\ Flown X.prog X.w X.stack H1 s1 H' B s3.heap /\
  Heap.FlyingW B X.stack e (.ref C) a0 s3.heap /\ Cz e s3.heap /\ XC X.K c C /\ W c σ' H'
def RX (X : Cx) (pins : List (Addr × Obj)) (W : Str -> St -> Hp -> Prop) (ev : Value) (s' : Shared) : Prop :=
 wpAny (model X.prog X.w) X.A (noteFrame ev X.env) (fun _ s2 => wpAny (model X.prog X.w) X.A (setFlight ev none) (fun _ s3 => RXp X pins W ev s3) noE s2) noE s'
theorem passesOwn_RX {X : Cx} {pins : List (Addr × Obj)} {W : Str -> St -> Hp -> Prop} : PassesOwn (model X.prog X.w) X.A X.env (RX X pins W) := PassesOwn.looking
theorem rx_both {X : Cx} {pins : List (Addr × Obj)} {W : Str -> St -> Hp -> Prop} {e : Addr} {s' : Shared}
  (h : wpAny (model X.prog X.w) X.A (noteFrame (.ref e) X.env) (fun _ s2 => wpAny (model X.prog X.w) X.A (setFlight (.ref e) none) (fun _ s3 => Cz e s3.heap -> RXp X pins W (.ref e) s3) noE s2) noE s')
  (z : wpAny (model X.prog X.w) X.A (noteFrame (.ref e) X.env) (fun _ s2 => Cz e s2.heap) noE s') : RX X pins W (.ref e) s' :=
 wpAny_mono (wpAny_both h z) (fun _ _ ⟨a, b⟩ => wpAny_mono (wpAny_both a (cz_flight (E := noE) b)) (fun _ _ ⟨p, q⟩ => p q) fun _ _ q => q.1.elim) fun _ _ q => q.1.elim
section
variable {X : Cx} {pins : List (Addr × Obj)} {σ : St} {H : Hp} {s : Shared} {W : Str -> St -> Hp -> Prop}
theorem rx_call {E : XK} {ev : Value} {s' : Shared} (T : Top X) (I : Inv X pins σ H s) (h : CXx X.prog X.w X.stack H s E ev s') (hE : ∀ v o H', E v o H' -> ∃ c C, v = .ref C /\ XC X.K c C /\ W c σ H') : RX X pins W ev s' := by
 obtain ⟨e, C, a0, H', B, rfl, os, bare, f, fl, cz, q⟩ := h
 obtain ⟨c, C', z, xc, w⟩ := hE _ _ _ q
 cases z
 have fr : X.A.frames = some (X.env :: X.outer) := by rw [<- T.stk]; exact I.ok.frames
 have fl0 := fl
 rw [T.stk] at fl
 refine rx_both (wpAny_looks_onW fr T.frm fl fun h1 hh up => ?_) (cz_note fr fl.2.2.1 T.frm cz)
 have f1 := f.on fl0.2.2.1 hh.1 up
 refine wpAny_landsW hh fun h2 fl2 up2 => ?_
 rw [<- T.stk] at fl2 hh
 exact fun cz2 => ⟨e, C, a0, σ, H, s, H', B, c, rfl, I, os, bare, f1.on hh.2.2.1 fl2.1 up2, fl2, cz2, xc, w⟩
theorem rx_made {e C : Addr} {c : Str} {us : List Value} {h1 : Heap} (T : Top X) (I : Inv X pins σ H s) (hm : Heap.MadeExcOf s.heap h1 e (.ref C) us) (xc : XC X.K c C) (q : W c σ H) : RX X pins W (.ref e) { s with heap := h1 } := by
 have fr : X.A.frames = some (X.env :: X.outer) := by rw [<- T.stk]; exact I.ok.frames
 have hin : ∀ env ∈ X.stack, ∀ a, env.frame = some a -> a ∈ frs X.stack := fun env he a ha => List.mem_filterMap.mpr ⟨env, he, ha⟩
 have ff := PySem.W.funFrames_hide I.stack hin
 have st0 : (PySem.W.hideAll s.heap (frs X.stack)).StaysIn s.heap := fun b o z => PySem.W.of_hideAll _ z
 have f0 : Flown X.prog X.w X.stack H s H (PySem.W.hideAll s.heap (frs X.stack)) s.heap :=
  ⟨Un.refl, I.hok, st0, fun b o z => (by
   obtain ⟨ob, eb⟩ := (I.hok b o z).there
   exact ⟨ob, PySem.W.hideAll_get _ eb fun y => by rw [I.stkFree b y] at z; cases z⟩), fun b o z hb => ⟨o, PySem.W.hideAll_get _ z hb⟩⟩
 obtain ⟨t, he, htn, ht⟩ := hm.there
 have ff' : s.heap.FunFrames (PySem.W.hideAll s.heap (frs X.stack)) (X.env :: X.outer) := by rw [<- T.stk]; exact ff
 have en : (PySem.W.hideAll s.heap (frs X.stack)).get? e = none := by
  cases z : (PySem.W.hideAll s.heap (frs X.stack)).get? e with
  | none => rfl
  | some o => have := st0 e o z; rw [hm.new] at this; cases this
 have key : wpAny (model X.prog X.w) X.A (noteFrame (.ref e) X.env) (fun _ s2 => wpAny (model X.prog X.w) X.A (setFlight (.ref e) none) (fun _ s3 => Cz e s3.heap -> RXp X pins W (.ref e) s3) noE s2) noE { s with heap := h1 } := by
  unfold noteFrame
  simp only [T.frm]
  refine wpAny_bind (wpAny_field (s := { s with heap := h1 }) (x := Value.none) he rfl (by rfl) ?_)
  rw [if_neg (by decide)]
  refine wpAny_newEntryW (s := { s with heap := h1 }) (a0 := .ref t) fr (ff'.of_keeps fun b o z _ => ⟨o, hm.keeps b o z, rfl⟩) T.frm he (fun b o z => hm.keeps b o (st0 b o z)) en rfl (by simp) (by rfl) fun h2 hL => ?_
  obtain ⟨k1, k2, k3, k4⟩ := hL
  rw [<- T.stk] at k2
  exact fun cz2 => ⟨e, C, .ref t, σ, H, s, H, _, c, rfl, I, rfl, I.bare, f0.on I.stack k1 ((Heap.UpToSlots.of_keeps hm.keeps).trans k4), ⟨k1, en, k2, k3⟩, cz2, xc, q⟩
 exact rx_both key (cz_made (s := { s with heap := h1 }) fr ff' T.frm hm)
theorem rx_leaves {E : XK} {ev : Value} {s' : Shared} (T : Top X) (h : RX X pins (fun c _ H' => ∀ C, XC X.K c C -> E (.ref C) none H') ev s') :
  wpAny (model X.prog X.w) X.A (leaving X.env ev) (fun _ s'' => CXx X.prog X.w X.outer X.H₀ X.s₀ E ev s'') (fun e' s'' => CXx X.prog X.w X.outer X.H₀ X.s₀ E e' s'') s' := by
 unfold leaving
 refine wpAny_bind (wpAny_mono h (fun _ s2 h2 => wpAny_mono h2 (fun _ s3 h3 => ?_) fun _ _ z => z.elim) fun _ _ z => z.elim)
 obtain ⟨e, C, a0, σ', H1, s1, H', B, c, rfl, I, os, bare, f, fl, cz, xc, q⟩ := h3
 obtain ⟨l1, l2, l3, l4⟩ := fl
 rw [T.stk] at l3
 exact ⟨e, C, a0, H', B, rfl, by rw [os]; exact I.os, bare, f.out T I os bare, ⟨l1, l2, l3.2.2, l4⟩, cz, q C xc⟩
end
noncomputable abbrev Cx.bear (X : Cx) (pins : List (Addr × Obj)) (E : Value -> Shared -> Prop) : Cx := { X with pn := X.pn ++ pins, xe := E }
section
variable {X : Cx} {pins pins' : List (Addr × Obj)} {σ : St} {H : Hp} {s : Shared} {E : Value -> Shared -> Prop}
theorem Cx.Ok.bear (ok : X.Ok) : (X.bear pins E).Ok := ⟨ok.mod, ok.kind, ok.glob, ok.blt, ok.above, ok.inj, ok.has, ok.cab, ok.hd, ok.frames, ok.stk, ok.exf, ok.bs, ok.bsz, ok.noex, ok.exfs, ok.funs, ok.frf⟩
theorem Cx.Ok.unbear (ok : (X.bear pins E).Ok) : X.Ok := ⟨ok.mod, ok.kind, ok.glob, ok.blt, ok.above, ok.inj, ok.has, ok.cab, ok.hd, ok.frames, ok.stk, ok.exf, ok.bs, ok.bsz, ok.noex, ok.exfs, ok.funs, ok.frf⟩
theorem Inv.bear (I : Inv X (pins ++ pins') σ H s) : Inv (X.bear pins E) pins' σ H s := ⟨I.ok.bear, I.os, I.bare, I.base, I.loc, I.cell, I.free, I.freeC, fun p hp => I.pin p (by rw [<- append_assoc]; exact hp), I.hok, I.len⟩
theorem Inv.unbear (I : Inv (X.bear pins E) pins' σ H s) : Inv X (pins ++ pins') σ H s := ⟨I.ok.unbear, I.os, I.bare, I.base, I.loc, I.cell, I.free, I.freeC, fun p hp => I.pin p (by rw [<- append_assoc] at hp; exact hp), I.hok, I.len⟩
theorem Inv.fewer (I : Inv X (pins ++ pins') σ H s) : Inv X pins σ H s := ⟨I.ok, I.os, I.bare, I.base, I.loc, I.cell, I.free, I.freeC, fun p hp => I.pin p (by rw [<- append_assoc]; exact mem_append_left _ hp), I.hok, I.len⟩
theorem SP.bear {D : Ends} {f : Flow} {s' : Shared} (h : SP X (pins ++ pins') D f s') : SP (X.bear pins E) pins' D f s' := by
 cases f with
 | next => obtain ⟨σ', H', I, q⟩ := h; exact ⟨σ', H', I.bear, q⟩
 | brk => obtain ⟨σ', H', I, q⟩ := h; exact ⟨σ', H', I.bear, q⟩
 | cont => obtain ⟨σ', H', I, q⟩ := h; exact ⟨σ', H', I.bear, q⟩
 | ret u => obtain ⟨v, σ', H', I, r, q⟩ := h; exact ⟨v, σ', H', I.bear, r, q⟩
theorem SP.unbear {D : Ends} {f : Flow} {s' : Shared} (h : SP (X.bear pins E) pins' D f s') : SP X (pins ++ pins') D f s' := by
 cases f with
 | next => obtain ⟨σ', H', I, q⟩ := h; exact ⟨σ', H', I.unbear, q⟩
 | brk => obtain ⟨σ', H', I, q⟩ := h; exact ⟨σ', H', I.unbear, q⟩
 | cont => obtain ⟨σ', H', I, q⟩ := h; exact ⟨σ', H', I.unbear, q⟩
 | ret u => obtain ⟨v, σ', H', I, r, q⟩ := h; exact ⟨v, σ', H', I.unbear, r, q⟩
variable (nx : X.xe = noE)
include nx
theorem PT.bear {e : Expr} {t : TT} (h : PT X e t) : PT (X.bear pins E) e t := fun pins' s σ H Q I hw =>
 wpAny_mono (h _ s σ H Q I.unbear hw) (fun _ _ ⟨H', I', q⟩ => ⟨H', I'.bear, q⟩) fun _ _ z => by rw [nx] at z; exact z.elim
theorem PA.bear {es : List Expr} {t : TA} (h : PA X es t) : PA (X.bear pins E) es t := fun pos pins' s σ H Q I hw =>
 wpAny_mono (h pos _ s σ H Q I.unbear hw) (fun _ _ ⟨v, H', I', r, q⟩ => ⟨v, H', I'.bear, r, q⟩) fun _ _ z => by rw [nx] at z; exact z.elim
theorem PS.bear {st : Stmt} {t : TS} (h : PS X st t) : PS (X.bear pins E) st t := fun pins' s σ H D I hw =>
 wpAny_mono (h _ s σ H D I.unbear hw) (fun _ _ q => q.bear) fun _ _ z => by rw [nx] at z; exact z.elim
theorem PSs.bear {st : List Stmt} {t : TS} (h : PSs X st t) : PSs (X.bear pins E) st t := fun pins' s σ H D I hw =>
 wpAny_mono (h _ s σ H D I.unbear hw) (fun _ _ q => q.bear) fun _ _ z => by rw [nx] at z; exact z.elim
end
end
section
noncomputable abbrev MXe := Ro -> Option Str
noncomputable abbrev MXs := Ro -> Option (Str × Ro)
noncomputable abbrev WX := Str -> St -> Hp -> Prop
def TXe (K : PySem.W.Frag) (x : MXe) (W : WX) : St -> Hp -> Prop := fun σ H => ∃ F0 H0 F ρ c, Rl K F0 H0 F H σ ρ /\ x ρ = some c /\ ∀ F' H', Ext F H F' H' -> W c σ H'
def TXs (K : PySem.W.Frag) (x : MXs) (W : WX) : St -> Hp -> Prop := fun σ H => ∃ F0 H0 F ρ c ρ', Rl K F0 H0 F H σ ρ /\ x ρ = some (c, ρ') /\ ∀ F' H' σ', Rl K F0 H0 F' H' σ' ρ' -> Same F F' -> W c σ' H'
noncomputable abbrev Cx.rx (X : Cx) (pins : List (Addr × Obj)) (W : WX) : Cx := X.bear pins (RX X pins W)
def PEX (X : Cx) (e : Expr) (x : MXe) : Prop := ∀ pins W, PE (X.rx pins W) e fun σ H _ => TXe X.K x W σ H
def PSX (X : Cx) (st : Stmt) (x : MXs) : Prop := ∀ pins W, PS (X.rx pins W) st fun _ σ H => TXs X.K x W σ H
def PSsX (X : Cx) (st : List Stmt) (x : MXs) : Prop := ∀ pins W, PSs (X.rx pins W) st fun _ σ H => TXs X.K x W σ H
noncomputable def xE (x : MXe) : MXs := fun ρ => (x ρ).map fun c => (c, ρ)
theorem xE_e {K : PySem.W.Frag} {x : MXe} {W : WX} {σ : St} {H : Hp} (h : TXs K (xE x) W σ H) : TXe K x W σ H := by
 obtain ⟨F0, H0, F, ρ, c, ρ', rl, e, w⟩ := h
 unfold xE at e
 cases h1 : x ρ with
 | none => rw [h1] at e; cases e
 | some c' =>
  rw [h1] at e; cases e
  exact ⟨F0, H0, F, ρ, c, rl, h1, fun F' H' x1 => w F' H' σ (rl.go x1) x1.ff⟩
section
variable {X : Cx} {st : Stmt} {rest : List Stmt} {e c : Expr} {pos : Pos}
noncomputable def xnone : MXs := fun _ => none
theorem psx_none : PSX X st xnone := fun _ _ _ _ _ _ _ _ hpat => by obtain ⟨_, _, _, _, _, _, _, z, _⟩ := hpat; cases z
theorem pssx_none : PSsX X rest xnone := fun _ _ _ _ _ _ _ _ hpat => by obtain ⟨_, _, _, _, _, _, _, z, _⟩ := hpat; cases z
theorem PS.or {t u : TS} (h : PS X st t) (k : PS X st u) : PS X st fun D σ H => t D σ H \/ u D σ H := fun pins s σ H D I q => q.elim (fun z => h pins s σ H D I z) fun z => k pins s σ H D I z
theorem PSs.or {t u : TS} (h : PSs X rest t) (k : PSs X rest u) : PSs X rest fun D σ H => t D σ H \/ u D σ H := fun pins s σ H D I q => q.elim (fun z => h pins s σ H D I z) fun z => k pins s σ H D I z
noncomputable def xseq (m : MS) (x1 x2 : MXs) : MXs := fun ρ => match m ρ with | some (.nx ρ') => x2 ρ' | some _ => none | none => x1 ρ
theorem pssx_cons {m : MS} {x1 x2 : MXs} (nx : X.xe = noE) (h : PSd X st m) (h1 : PSX X st x1) (h2 : PSsX X rest x2) : PSsX X (st :: rest) (xseq m x1 x2) := fun pins W =>
 (pss_cons (((PS.bear nx h).or (h1 pins W))) (h2 pins W)).imp fun D σ H hpat => by
  obtain ⟨F0, H0, F, ρ, c, ρ', rl, e, w⟩ := hpat
  unfold xseq at e
  cases h : m ρ with
  | none => rw [h] at e; exact .inr ⟨F0, H0, F, ρ, c, ρ', rl, e, w⟩
  | some o =>
   rw [h] at e
   cases o with
   | nx ρ1 => exact .inl ⟨F0, H0, F, ρ, _, rl, h, fun F1 H1 σ1 rl1 sf => ⟨F0, H0, F1, ρ1, c, ρ', rl1, e, fun F' H' σ' rl' sf' => w F' H' σ' rl' (sf.trans sf')⟩⟩
   | _ => cases e
theorem pssx_head {x : MXs} (h : PSX X st x) : PSsX X (st :: rest) x := fun pins W => (pss_cons (h pins W) (pssx_none pins W)).imp fun _ _ _ q => q
theorem pssx_one {x : MXs} (h : PSX X st x) : PSsX X [st] x := fun pins W => pss_one (h pins W)
noncomputable def xif (c : MB) (x y : MXs) : MXs := fun ρ => match c ρ with | some true => x ρ | some false => y ρ | none => none
theorem psx_if {ca : MB} {a b : List Stmt} {xa xb : MXs} (nx : X.xe = noE) (hc : PC' X c ca) (ha : PSsX X a xa) (hb : PSsX X b xb) : PSX X (.If c a b pos) (xif ca xa xb) := fun pins W =>
 (ps_if (PT.bear nx hc) (ha pins W) (hb pins W)).imp fun D σ H hpat => by
  obtain ⟨F0, H0, F, ρ, c, ρ', rl, e, w⟩ := hpat
  unfold xif at e
  split at e
  ·rename_i h1
   exact ⟨F0, H0, F, ρ, _, rl, h1, fun F1 H1 x1 => iteT ⟨F0, H0, F1, ρ, c, ρ', rl.go x1, e, fun F' H' σ' rl' sf => w F' H' σ' rl' (x1.ff.trans sf)⟩⟩
  ·rename_i h1
   exact ⟨F0, H0, F, ρ, _, rl, h1, fun F1 H1 x1 => iteF ⟨F0, H0, F1, ρ, c, ρ', rl.go x1, e, fun F' H' σ' rl' sf => w F' H' σ' rl' (x1.ff.trans sf)⟩⟩
  ·cases e
theorem psx_set {x : MXe} {i : Nat} {y : Str} {pos' : Pos} (hN : X.N.Nodup) (hi : X.N[i]? = some y) (hx : Loc X.env.scope y) (h : PEX X e x) (hs : swapsWith e (some (.Name y pos')) pos.line X.env = pure false := by rfl) (hf : X.fn y = true \/ X.env.scope.names.lookup y = some .local := by first | exact .inl rfl | exact .inr rfl | assumption) :
  PSX X (.Assign [.Name y pos'] e pos) (xE x) := fun pins W => (ps_set (X := X.rx pins W) hN hi hx (h pins W) hs hf).imp fun _ _ _ q => xE_e q
noncomputable abbrev MFX := List D -> Option Str
def spX (K : W.Frag) (n : Nat) (x : MFX) : Sp := fun vs H _ E => vs.length = n /\ ∃ F ds c, Same F H /\ Reps K F vs ds /\ x ds = some c /\ ∀ C F' H', XC K c C -> Ext F H F' H' -> E (.ref C) none H'
@[irreducible] noncomputable def xcall (x : MFX) (m : ML) : MXe := fun ρ => (m ρ).bind x
theorem pex_call {k n : Nat} {f : Addr} {fd : FuncData} {ps : List Str} {xf : MFX} {m : ML} {x : Str} {p : Pos} {es : List Expr} (nx : X.xe = noE) (T : Top X) (F : FnOk X.prog X.w X.K X.mg X.base (CXx X.prog X.w) k f fd ps (spX X.K n xf)) (hr : Room k X.A) (hg : Gl X x) (hm : X.mg x = some (.ref f))
  (hk : PySem.W.keepIn X.K (.ref f) = true) (hb : Binds X.K fd ps []) (hl : (e :: es).length = n) (ha : PAs X (e :: es) m) (hm2 : ∀ ρ ds, m ρ = some ds -> ds.length = (e :: es).length)
  (hdb : (x == ("__debug__" : Str)) = false := by decide) (he : starEach (e :: es) X.env = (false, eval e X.env) :: starEach es X.env := by rfl) (hpl : (backTo pos (starEach es X.env)).any (·.1) = false := by rfl) :
  PEX X (.Call (.Name x p) (e :: es) [] pos) (xcall xf m) := by
 intro pins W pins' s σ H Q I h
 obtain ⟨F0, H0, F1, ρ, c, rl, e1, w⟩ := h
 unfold xcall at e1
 cases h1 : m ρ with
 | none => rw [h1] at e1; cases e1
 | some ds =>
  rw [h1] at e1
  have e1 : xf ds = some c := e1
  have ha' : PA (X.rx pins W) (e :: es) (TAs X.K m) := PA.bear nx ha
  refine wpAny_Call_Name_kw (ld_glob I hg hm ?_ hdb)
  refine PySem.W.callWith_K (h₀ := X.base) I.ok.mod.kin hk (thn (ha' pos pins' s σ H (fun vs H1 => vs.length = n /\ ∃ F2, Ext F1 H F2 H1 /\ Reps X.K F2 vs ds) I ⟨F0, H0, F1, ρ, ds, rl, h1, fun vs F2 H2 x2 r2 => ⟨by rw [r2.length, hm2 ρ ds h1, hl], F2, x2, r2⟩⟩) fun us s1 ⟨vs, H1, I1, r, hn, F2, x2, r2⟩ => ⟨I1.kIn, ?_⟩) he hpl
  have sp0 : spX X.K n xf vs H1 (fun _ _ => False) (fun v _ H' => ∃ c C, v = .ref C /\ XC X.K c C /\ W c σ H') := ⟨hn, F2, ds, c, x2.fh, r2, e1, fun C F' H' xc x3 => ⟨c, C, rfl, xc, w F' H' (x2.trans x3)⟩⟩
  have hlu : us.length = ps.length := by rw [<- r.length]; exact F.len _ _ _ _ sp0
  have hbd := hb s1 us I1.kIn (by rw [append_nil]; exact hlu)
  rw [append_nil] at hbd
  refine wpAny_call (codeAny_mono (F.run X.A X.stack s1 H1 ⟨us, []⟩ us vs _ _ hr I1.env0 hbd r sp0) fun r' s' hq => ?_)
  cases r' with
  | error ev => exact rx_call (E := fun v _ H' => ∃ c C, v = .ref C /\ XC X.K c C /\ W c σ H') T I1.unbear.fewer hq fun v o H' z => z
  | ok fl =>
   cases fl with
   | ret u => obtain ⟨_, _, _, _, _, _, _, z⟩ := hq; exact z.elim
   | next => exact False.elim hq
   | brk => exact False.elim hq
   | cont => exact False.elim hq
noncomputable def xraise (c : Str) (m : ML) : MXs := fun ρ => (m ρ).map fun _ => (c, ρ)
theorem psx_raise {C : Addr} {x : Str} {es : List Expr} {m : ML} {n : Nat} {np cpos : Pos} (nx : X.xe = noE) (T : Top X) (hc : X.calm = true) (hg : Gl X x) (hm : X.mg x = some (.ref C)) (xc : XC X.K x C) (q : PySem.W.excIn X.K C bmV "ValueError.__new__" = true)
  (ha : PAs X (e :: es) m) (hl : ∀ ρ ds, m ρ = some ds -> ds.length = n) (hn : n <= sizeLine) (hdb : (x == ("__debug__" : Str)) = false := by decide)
  (he : starEach (e :: es) X.env = (false, eval e X.env) :: starEach es X.env := by rfl) (hpl : (backTo cpos (starEach es X.env)).any (·.1) = false := by rfl) :
  PSX X (.Raise (some (.Call (.Name x np) (e :: es) [] cpos)) none pos) (xraise x m) := by
 intro pins W pins' s σ H D I h
 obtain ⟨F0, H0, F1, ρ, c, ρ', rl, e1, w⟩ := h
 unfold xraise at e1
 cases h1 : m ρ with
 | none => rw [h1] at e1; cases e1
 | some ds =>
  rw [h1] at e1; cases e1
  obtain ⟨bm, N, nm, qn, bs, hdct, sn, sub, ab, col, dd, k0, k1, k2, k3, k5, mN, hC, hN, hni, TL⟩ := xobj I.mod.kin q
  have ha' : PA (X.rx pins W) (e :: es) (TAs X.K m) := PA.bear nx ha
  have h2 := ha' cpos pins' s σ H (fun vs H1 => vs.length = n /\ W x σ H1) I ⟨F0, H0, F1, ρ, ds, rl, h1, fun vs F2 H2 x2 r2 => ⟨by rw [r2.length]; exact hl ρ ds h1, w F2 H2 σ (rl.go x2) x2.ff⟩⟩
  refine wpAny_Raise_call_subT (C := C) (N := N) (bm := bm) (nm := nm) (q := qn) (bs := bs) (sub := sub) (sn := sn) (hdct := hdct) (col := col) (ab := ab) (dd := dd) (k0 := k0) (k1 := k1) (k2 := k2) (k3 := k3) (k5 := k5) PySem.F.excBase_ValueError (TL.hasType PySem.F.excBase_ValueError.hasBase) (I.ok.hd hc) ?_ hni (ld_glob I hg hm ⟨rfl, ?_⟩ hdb)
  ·rw [he]
   show (false || (backTo cpos (starEach es X.env)).any (·.1)) = false
   rw [hpl]; rfl
  ·rw [he] at h2 ⊢
   refine Calls.evalArgs_plain (wpAny_mono h2 (fun us s2 ⟨vs, H1, I1, r1, hl1, q1⟩ => ⟨rfl, by rw [<- r1.length, hl1]; exact hn, I1.bk _ _ hC, hN.keeps I1.bk, TL.keeps I1.bk, fun h3 a hm3 => ?_⟩) fun _ _ y => y)
   exact rx_made T I1.unbear.fewer hm3 xc q1
noncomputable def runX (n : Nat) (x : MXs) : MFX := fun ds => (x (startS n ds)).map (·.1)
theorem Fun.okX {P : Program} {w : World} {K : PySem.W.Frag} {mg : Str -> Option Value} {base : Heap} {x qual : Str} {st : Stmt} {f : Addr} {fd : FuncData} {N ps : List Str} {k : Nat} {m : MXs} (Fn : Fun K x qual st f fd) (Sc : FnScope N ps (defScope st))
  (hbody : ∀ (cdv : Value) (A : Around) (outer : List Env) (s : Shared) (H : Hp) (E : XK), Room k (A.deeper (envOfC qual (defScope st) s.heap.objs.size f cdv)) -> PSsX (cxOf (CXx P w) P w K mg base N qual (defScope st) f cdv A outer s H E).nox (defBody st) m) :
  FnOk P w K mg base (CXx P w) (k + 1) f fd ps (spX K ps.length (runX N.length m)) := by
 obtain ⟨oc, od, kV, doc, pm, an, cdv, ct, osl, rfl, lk, hcd⟩ := Fn.ex
 refine fn_of lk hcd Sc (fun vs H Q E h => h.1) fun A outer s H vs Q E hr h => ?_
 obtain ⟨hl, F, ds, c, sf, rs, e, w0⟩ := h
 unfold runX at e
 cases h1 : m (startS N.length ds) with
 | none => rw [h1] at e; cases e
 | some o =>
  obtain ⟨c', ρ'⟩ := o
  rw [h1] at e; cases e
  have hb := hbody cdv A outer s H E hr
  let W : WX := fun c _ H' => ∀ C, XC K c C -> E (.ref C) none H'
  refine ⟨fun _ σ H => TXs K m W σ H, fun pins s1 σ H1 D I q => ?_, F, H, F, startS N.length ds, c', ρ', rl_start sf rs, h1, fun F' H' σ' rl _ C xc => w0 C F' H' xc rl.ext⟩
  have I1 : Inv (cxOf (CXx P w) P w K mg base N qual (defScope st) f cdv A outer s H E).nox (pins ++ []) σ H1 s1 := by rw [append_nil]; exact I.wish _
  refine wpAny_mono (hb pins W [] s1 σ H1 D I1.bear q) (fun fl s' z => ?_) fun ev s' z => ?_
  ·have := z.unbear
   rw [append_nil] at this
   exact this.unwish
  ·exact rx_leaves (X := (cxOf (CXx P w) P w K mg base N qual (defScope st) f cdv A outer s H E).nox) ⟨rfl, rfl, rfl⟩ z
end
end
section
section
variable {X : Cx} {pins : List (Addr × Obj)} {E : Value -> Shared -> Prop} (nx : X.xe = noE)
include nx
theorem PG.bear {tg : Expr} {t : TG} (h : PG X tg t) : PG (X.bear pins E) tg t := fun pins' s σ H v u Q I r hw =>
 wpAny_mono (h _ s σ H v u Q I.unbear r hw) (fun _ _ ⟨σ', H', I', q⟩ => ⟨σ', H', I'.bear, q⟩) fun _ _ z => by rw [nx] at z; exact z.elim
theorem PI.bear {tg it : Expr} {t : TI} (h : PI X tg it t) : PI (X.bear pins E) tg it t := fun pins' s σ H R I hw =>
 wpAny_mono (h _ s σ H R I.unbear hw) (fun v s1 h1 => wpAny_mono h1 (fun itv s2 ⟨it, fp, tn, J, H', e, I', T, st, f, q⟩ => ⟨it, fp, tn, J, H', e, I'.bear, T, st, fun b hb => by
  obtain ⟨f0, f1, f2, f3, f4, f5⟩ := f b hb
  exact ⟨f0, f1, f2, f3, f4, fun p hp => f5 p (by rw [<- append_assoc]; exact hp)⟩, q⟩) fun _ _ z => by rw [nx] at z; exact z.elim) fun _ _ z => by rw [nx] at z; exact z.elim
end
noncomputable def xforD (g : Tg) (body : MS) (xb : MXs) : List D -> MXs
 | [], _ => none
 | d :: ds, ρ => match tgD g d ρ with
  | some ρ1 => match body ρ1 with
   | some (.nx ρ2) => xforD g body xb ds ρ2
   | some (.ct ρ2) => xforD g body xb ds ρ2
   | some _ => none
   | none => xb ρ1
  | none => none
noncomputable def xfor (mi : ML) (g : Tg) (body : MS) (xb : MXs) : MXs := fun ρ => (mi ρ).bind fun its => xforD g body xb its ρ
section
variable {X : Cx} {e c : Expr} {pos : Pos} {st : Stmt} {rest : List Stmt}
theorem psx_for {tg iter : Expr} {body : List Stmt} {mi : ML} {g : Tg} {mb : MS} {xb : MXs} (nx : X.xe = noE) (hc : X.calm = true) (hi : PId X tg iter mi) (hg : PGd X tg g) (hb : PSsd X body mb) (hx : PSsX X body xb)
  (hs : ∀ x, foldedSetIterable iter X.env x = pure x := by intro _; rfl) : PSX X (.For tg iter body [] pos) (xfor mi g mb xb) := fun pins W =>
 (ps_for (X := X.rx pins W) passesOwn_RX hc (PI.bear nx hi) (PG.bear nx hg) ((PSs.bear nx hb).or (hx pins W)) hs).imp fun Dn σ H hpat => by
  obtain ⟨F0, H0, F, ρ, c, ρo, rl, e, ok⟩ := hpat
  unfold xfor at e
  cases h1 : mi ρ with
  | none => rw [h1] at e; cases e
  | some its =>
   rw [h1] at e
   have e : xforD g mb xb its ρ = some (c, ρo) := e
   refine ⟨F0, H0, F, ρ, its, rl, h1, fun J F1 H1 x1 I => ?_⟩
   refine ⟨fun i m σ' H' => ∃ F' ρ', Rl X.K F0 H0 F' H' σ' ρ' /\ Same F1 F' /\ i <= its.length /\ m = its.length - i /\ xforD g mb xb (its.drop i) ρ' = some (c, ρo), ⟨_, F1, ρ, rl.go x1, Same.refl _, Nat.zero_le _, rfl, e⟩, ?_⟩
   rintro i m σ' H' ⟨F', ρ', rl', sf, hi', rfl, e'⟩
   by_cases hlt : i < its.length
   ·right
    have hd := getElem?_eq_getElem hlt
    refine ⟨I.go i F' H' sf rl'.fh hlt, fun σ2 H2 => ∃ F2 ρ2, Rl X.K F0 H0 F2 H2 σ2 ρ2 /\ Same F1 F2 /\ xforD g mb xb (its.drop (i + 1)) ρ2 = some (c, ρo), ?_, fun x H2 y => ?_⟩
    ·rintro σ2 H2 ⟨F2, ρ2, rl2, sf2, e2⟩
     exact ⟨its.length - (i + 1), by omega, F2, ρ2, rl2, sf2, hlt, rfl, e2⟩
    ·obtain ⟨F2, x2, r2⟩ := I.yld i F' H' x H2 _ sf rl'.fh hd y
     rw [drop_get hd] at e'
     unfold xforD at e'
     cases h2 : tgD g its[i] ρ' with
     | none => simp only [h2] at e'; cases e'
     | some ρ1 =>
      simp only [h2] at e'
      refine ⟨F0, H0, F2, ρ', _, ρ1, rl'.go x2, r2, h2, fun F3 H3 σ3 rl3 x3 => ?_⟩
      have s3 : Same F1 F3 := (sf.trans x2.ff).trans x3.ff
      cases h3 : mb ρ1 with
      | none =>
       simp only [h3] at e'
       exact .inr ⟨F0, H0, F3, ρ1, c, ρo, rl3, e', fun F4 H4 σ4 rl4 s4 => ok F4 H4 σ4 rl4 ((x1.ff.trans s3).trans s4)⟩
      | some o1 =>
       simp only [h3] at e'
       cases o1 with
       | nx ρ2 => exact .inl ⟨F0, H0, F3, ρ1, _, rl3, h3, fun F4 H4 σ4 rl4 s4 => ⟨F4, ρ2, rl4, s3.trans s4, e'⟩⟩
       | ct ρ2 => exact .inl ⟨F0, H0, F3, ρ1, _, rl3, h3, fun F4 H4 σ4 rl4 s4 => ⟨F4, ρ2, rl4, s3.trans s4, e'⟩⟩
       | _ => cases e'
   ·have hieq : i = its.length := by omega
    subst hieq
    rw [drop_length] at e'
    cases e'
end
end
section
noncomputable abbrev Cx.inX (X : Cx) (a : Addr) : Cx := { X with A := X.A.mark (some (.ref a)), calm := false }
section
variable {X : Cx} {pins : List (Addr × Obj)} {σ : St} {H : Hp} {s : Shared} {a C : Addr}
theorem Cx.Ok.inX (ok : X.Ok) : (X.inX a).Ok := ⟨ok.mod, ok.kind, ok.glob, ok.blt, ok.above, ok.inj, ok.has, ok.cab, (fun z => by cases z), ok.frames, ok.stk, ok.exf, ok.bs, ok.bsz, ok.noex, ok.exfs, ok.funs, ok.frf⟩
theorem Inv.inX (I : Inv X pins σ H s) : Inv (X.inX a) pins σ H s := ⟨I.ok.inX, I.os, I.bare, I.base, I.loc, I.cell, I.free, I.freeC, I.pin, I.hok, I.len⟩
theorem Inv.outX (ok : X.Ok) (I : Inv (X.inX a) pins σ H s) : Inv X pins σ H s := ⟨ok, I.os, I.bare, I.base, I.loc, I.cell, I.free, I.freeC, I.pin, I.hok, I.len⟩
theorem Inv.gone {i : Nat} {n : Str} {h' : Heap} {t' : Nat} {v : Option Value} {m : Str -> Option Value} (I : Inv X pins σ H s) (hN : X.N.Nodup) (hi : X.N[i]? = some n) (hm : s.heap.Ns X.env.locals m) (hn : h'.Ns X.env.locals (fun x => if x = n then v else m x)) (hs : Heap.SameBut X.env.locals s.heap h') :
  Inv X pins (σ.set i none) H { s with heap := h', toks := t' } := by
 have old : ∀ b o, X.s₀.heap.get? b = some o -> b ≠ X.env.locals := fun b o e => Nat.ne_of_lt (Nat.lt_of_lt_of_le (Heap.lt_size e) I.ok.above)
 refine ⟨I.ok, I.os, I.bare, ⟨fun b o e n hb hx => (hs.2 b (old b o e)).trans (I.base.keep b o e n hb hx), fun b o e n hb hx => ?_, I.base.free, fun b o e hx => ?_, I.base.tups, I.base.frzs, I.base.tbls⟩, ⟨_, hn, fun j y u e1 e2 e3 => ?_⟩, fun y c e => ?_, I.free, I.freeC, fun p hp => ?_, fun b ob e => ?_, by rw [length_set]; exact I.len⟩
 ·obtain ⟨sl, e1⟩ := I.base.slot b o e n hb hx
  exact ⟨sl, (hs.2 b (old b o e)).trans e1⟩
 ·obtain ⟨o1, e1⟩ := I.base.there b o e hx
  exact ⟨o1, (hs.2 b (old b o e)).trans e1⟩
 ·have hj : j ≠ i := fun z => by
   subst z
   have hl : j < σ.length := by
    rcases Nat.lt_or_ge j σ.length with z | z
    ·exact z
    ·rw [getElem?_eq_none (by simpa using z)] at e2; cases e2
   rw [getElem?_set_self hl] at e2; cases e2
  rw [getElem?_set_ne (Ne.symm hj)] at e2
  obtain ⟨m0, hm0, hl0⟩ := I.loc
  have hmm : ∀ z, m0 z = m z := fun z => by
   obtain ⟨oo, es, ep, ho, hd, _, hf⟩ := hm0
   obtain ⟨oo', es', ep', ho', hd', _, hf'⟩ := hm
   rw [ho] at ho'; cases ho'
   rw [hd] at hd'; cases hd'
   rw [<- hf, <- hf']
  obtain ⟨w, r, l⟩ := hl0 j y u e1 e2 e3
  refine ⟨w, r, ?_⟩
  have hy : y ≠ n := fun z => hj (nodup_ix hN e1 (z ▸ hi))
  rcases l with ⟨k, q⟩ | ⟨k, c, e, z⟩
  ·exact .inl ⟨k, by show (if y = n then v else m y) = some w; rw [if_neg hy, <- hmm]; exact q⟩
  ·exact .inr ⟨k, c, e, z.sameBut hs (I.cne y c e)⟩
 ·obtain ⟨w, z⟩ := I.cell y c e
  exact ⟨w, z.sameBut hs (I.cne y c e)⟩
 ·obtain ⟨e, n, ne, nf, d⟩ := I.pin p hp
  exact ⟨(hs.2 p.1 ne).trans e, n, ne, nf, d⟩
 ·refine (I.hok b ob e).stay (fun c u hc q => (hs.2 c ?_).trans q) (fun _ q => q) fun _ _ q => q
  rintro rfl
  rcases hc with z | z
  ·rw [<- z, I.free] at e; cases e
  ·rw [I.free] at z; cases z
theorem Inv.track {o : HO} (I : Inv X pins σ H s) (h0 : X.s₀.heap.get? a = none) (hL : a ≠ X.env.locals) (hc : ∀ x c, X.env.cells.lookup x = some c -> c ≠ a) (hp : ∀ p ∈ X.pn ++ pins, p.1 ≠ a) (hn : H a = none) (new : ObjOk X.prog X.w (upd H a o) s.heap a o) :
  Inv X pins σ (upd H a o) s := by
 have nb : ∀ b o, X.s₀.heap.get? b = some o -> b ≠ a := fun b o e z => by rw [z, h0] at e; cases e
 refine ⟨I.ok, I.os, I.bare, ⟨I.base.keep, I.base.slot, fun b o e n hx => ?_, I.base.there, fun b xs e => ?_, fun b o u e => ?_, fun b ps e => ?_⟩, I.loc, I.cell, ?_, fun x c e => ?_, fun p hp' => ?_, fun b u e => ?_, I.len⟩
 ·rw [upd_ne (nb b o e)]; exact I.base.free b o e n hx
 ·have := I.base.tups b xs e
  rw [upd_ne (ne_of_none this hn)]; exact this
 ·have := I.base.frzs b o u e
  rw [upd_ne (ne_of_none this hn)]; exact this
 ·obtain ⟨more, this⟩ := I.base.tbls b ps e
  exact ⟨more, by rw [upd_ne (ne_of_none this hn)]; exact this⟩
 ·rw [upd_ne (Ne.symm hL)]; exact I.free
 ·rw [upd_ne (hc x c e)]; exact I.freeC x c e
 ·obtain ⟨e, n, r⟩ := I.pin p hp'
  exact ⟨e, by rw [upd_ne (hp p hp')]; exact n, r⟩
 ·by_cases hb : b = a
  ·subst hb; rw [upd_same] at e; cases e; exact new
  ·rw [upd_ne hb] at e
   exact (I.hok b u e).stay (fun c v _ q => q) (fun c q => by rw [upd_ne (ne_of_none q hn)]; exact q) fun c xs q => by rw [upd_ne (ne_of_none q hn)]; exact q
end
theorem Rl.drop {K : W.Frag} {F0 H0 F H : Hp} {σ : St} {ρ : Ro} (r : Rl K F0 H0 F H σ ρ) (i : Nat) : Rl K F0 H0 F H (σ.set i none) (ρ.set i none) := by
 have get : ∀ (j : Nat) x, (ρ.set i none)[j]? = some (some x) -> i ≠ j /\ ρ[j]? = some (some x) := fun j x e => by
  by_cases hj : i = j
  ·subst hj
   have hl : i < ρ.length := by
    rcases Nat.lt_or_ge i ρ.length with z | z
    ·exact z
    ·rw [getElem?_eq_none (by simpa using z)] at e; cases e
   rw [getElem?_set_self hl] at e; cases e
  ·rw [getElem?_set_ne hj] at e; exact ⟨hj, e⟩
 have gs : ∀ (j : Nat) x, (σ.set i none)[j]? = some (some x) -> σ[j]? = some (some x) := fun j x e => by
  by_cases hj : i = j
  ·subst hj
   have hl : i < σ.length := by
    rcases Nat.lt_or_ge i σ.length with z | z
    ·exact z
    ·rw [getElem?_eq_none (by simpa using z)] at e; cases e
   rw [getElem?_set_self hl] at e; cases e
  ·rw [getElem?_set_ne hj] at e; exact e
 refine ⟨r.ext, by simp [r.len], fun j d e => ?_, fun j ds e => ?_, fun j k p ds es hjk e1 e2 e3 e4 => r.inj j k p ds es hjk (get j _ e1).2 (get k _ e2).2 (gs j _ e3) (gs k _ e4), fun j p ds e => ?_, fun j k p ds es e1 e2 e3 => r.obn j k p ds es (get j _ e1).2 (get k _ e2).2 (gs k _ e3), fun j k p q ds es e1 e2 => r.ob1 j k p q ds es (get j _ e1).2 (get k _ e2).2⟩
 ·obtain ⟨n, e⟩ := get j _ e
  rw [getElem?_set_ne n]; exact r.sh j d e
 ·obtain ⟨n, e⟩ := get j _ e
  rw [getElem?_set_ne n]; exact r.own j ds e
 ·obtain ⟨n, e⟩ := get j _ e
  rw [getElem?_set_ne n]; exact r.ob j p ds e
@[irreducible] noncomputable def mtry (names : List Str) (mb : MS) (xb : MXs) (i : Nat) (ms : MS) : MS := fun ρ => match mb ρ with
 | some o => some o
 | none => match xb ρ with
  | some (c, ρ1) => if c ∈ names then (match ms (ρ1.set i (some (.sh (.exc c)))) with | some (.nx ρ2) => some (.nx (ρ2.set i none)) | _ => none) else none
  | none => none
def Kx (a : Addr) (H : Hp) : Prop := ∃ C, H a = some (.ext (XAt a C))
section
variable {X : Cx} {pos np hpos : Pos}
theorem psd_tryK {body suite : List Stmt} {b0 : Stmt} {mb ms : MS} {xb : MXs} {names : List Str} {x n : Str} {Wa : Addr} {i : Nat} (nx : X.xe = noE) (T : Top X) (hg : Gl X x) (hm : X.mg x = some (.ref Wa))
  (hcl : ∀ c ∈ names, ∀ C, XC X.K c C -> PySem.W.exmOne X.K (.ref C) (.ref Wa) = some true) (hN : X.N.Nodup) (hi : X.N[i]? = some n) (hl : X.env.scope.names.lookup n = some .local)
  (hb : PSsd X body mb) (hx : PSsX X body xb) (hs : ∀ a, PSs (X.inX a) (b0 :: suite) fun D σ H => Kx a H /\ TSd X.K ms D σ H) (hdb : (x == ("__debug__" : Str)) = false := by decide) :
  PSd X (.Try body [.ExceptHandler (some (.Name x np)) (some n) (b0 :: suite) hpos] [] [] pos) (mtry names mb xb i ms) := by
 intro pins s σ H D I ⟨F0, H0, F, ρ, o, rl, e, ok⟩
 unfold mtry at e
 refine wpAny_Try_except ?_
 cases h1 : mb ρ with
 | some o1 =>
  rw [h1] at e; cases e
  refine wpAny_mono (hb pins s σ H D I ⟨F0, H0, F, ρ, o, rl, h1, ok⟩) (fun f s1 h => ?_) fun _ _ z => by rw [nx] at z; exact z.elim
  cases f with
  | next =>
   obtain ⟨σ1, H1, I1, q⟩ := h
   exact pss_nil pins s1 σ1 H1 D I1 q
  | brk => exact h
  | cont => exact h
  | ret u => exact h
 | none =>
  rw [h1] at e
  cases h2 : xb ρ with
  | none => rw [h2] at e; cases e
  | some cr =>
   obtain ⟨c, ρ1⟩ := cr
   rw [h2] at e
   dsimp only at e
   split at e
   ·rename_i hc
    cases h3 : ms (ρ1.set i (some (.sh (.exc c)))) with
    | none => rw [h3] at e; cases e
    | some o3 =>
     rw [h3] at e
     cases o3 with
     | nx ρ2 =>
      cases e
      let W : WX := fun c' σ' H' => c' = c /\ ∃ F', Rl X.K F0 H0 F' H' σ' ρ1 /\ Same F F'
      have I0 : Inv X (pins ++ []) σ H s := by rw [append_nil]; exact I
      refine wpAny_mono (hx pins W [] s σ H { nx := fun _ _ => False, rt := fun _ _ => False } I0.bear ⟨F0, H0, F, ρ, c, ρ1, rl, h2, fun F' H' σ' rl' sf => ⟨rfl, F', rl', sf⟩⟩) (fun f s1 h => ?_) fun ev s1 h => ?_
      ·cases f with
       | next => obtain ⟨_, _, _, z⟩ := h; exact z.elim
       | brk => obtain ⟨_, _, _, z⟩ := h; exact z.elim
       | cont => obtain ⟨_, _, _, z⟩ := h; exact z.elim
       | ret u => obtain ⟨_, _, _, _, _, z⟩ := h; exact z.elim
      refine wpAny_mono h (fun _ s2 h2 => wpAny_mono h2 (fun _ s3 h3 => ?_) fun _ _ z => z.elim) fun _ _ z => z.elim
      obtain ⟨a, C, a0, σ1, H1, sa, H', B, c', rfl, Ia, os, bare, f, fl, cz, xc, rfl, F1, rl1, sf1⟩ := h3
      have I3 : Inv X pins σ1 H' s3 := f.inv Ia os bare
      have LT : ∀ M : Model, PySem.W.Looks M s3.heap (typeOf (.ref a)) (.ref C) := fun M => by
       obtain ⟨ob, e1, e2⟩ := fl.there
       exact e2 ▸ (PySem.W.Looks.ld e1).andThen .now
      refine wpAny_handleBy_cons (codeAny_handlers_test (ld_glob (X := X.inX a) I3.inX hg hm ((PySem.W.exm_one I3.kIn (LT _) (hcl _ hc C xc)).here ?_) hdb)) (by intro z; cases z)
      refine codeAny_handlers_suite_as ?_
      refine with_cz (cz_flight cz) (lands_againW fl fun h4 fl4 up4 => ⟨h4, rfl, And.intro fl4 up4⟩) fun h4 ⟨fl4, up4⟩ cz4 => ?_
      have f4 := f.on fl.2.2.1 fl4.1 up4
      have I4 : Inv X pins σ1 H' { s3 with heap := h4 } := f4.inv Ia os bare
      obtain ⟨oe, vs, he, hec, hed, _⟩ := fl4.first
      have nfr : a ∉ frs X.stack := fun z => by
       obtain ⟨_, o', e', hd'⟩ := fl4.2.2.1.mem z
       rw [he] at e'; cases e'
       exact hd' vs hed
      have young : sa.heap.get? a = none := by
       cases z : sa.heap.get? a with
       | none => rfl
       | some o' =>
        obtain ⟨ob, eb⟩ := f4.old a o' z nfr
        have := fl4.2.1
        rw [eb] at this; cases this
      have Ha : H' a = none := by
       cases z : H' a with
       | none => rfl
       | some o' =>
        obtain ⟨ob, eb⟩ := f4.trk a o' z
        have := fl4.2.1
        rw [eb] at this; cases this
      have y0 : X.s₀.heap.get? a = none := by
       cases z : X.s₀.heap.get? a with
       | none => rfl
       | some o' =>
        obtain ⟨o2, e2⟩ := Ia.base.there a o' z (by rw [T.ex]; simp)
        rw [young] at e2; cases e2
      have yL : a ≠ X.env.locals := fun z => by
       obtain ⟨m, ⟨o', _, _, ho', _⟩, _⟩ := Ia.loc
       rw [<- z, young] at ho'; cases ho'
      have yC : ∀ y c, X.env.cells.lookup y = some c -> c ≠ a := fun y c e z => by
       obtain ⟨v, o', ho', _⟩ := Ia.cell y c e
       rw [z, young] at ho'; cases ho'
      have yP : ∀ p ∈ X.pn ++ pins, p.1 ≠ a := fun p hp z => by
       have := (Ia.pin p hp).1
       rw [z, young] at this; cases this
      have xat : XAt a C h4 := ⟨oe, vs, he, hec, hed, cz4.two he hed⟩
      have I5 : Inv X pins σ1 (upd H' a (.ext (XAt a C))) { s3 with heap := h4 } := I4.track y0 yL yC yP Ha ⟨xat, ⟨oe, he⟩, fun g1 g2 z k => by
       obtain ⟨o', vs', z1, z2, z3⟩ := z
       exact ⟨o', vs', k o' z1, z2, z3⟩⟩
      have x5 : Ext F1 H' (upd F1 a (.ext (XAt a C))) (upd H' a (.ext (XAt a C))) := Ext.laid rl1.fh Ha
      have rl5 := (rl1.go x5).set (i := i) (v := .ref a) (d := .exc c') (.exc xc upd_same)
      refine store_ok (X := X.inX a) I5.inX hN hi (.inl hl) (v := .ref a) rfl (fun s5 I6 => ?_) (.inr hl)
      let D2 : Ends := { nx := fun σ2 H2 => ∃ F2, Rl X.K F0 H0 F2 H2 σ2 ρ2 /\ Same F F2, rt := fun _ _ => False }
      refine wpAny_mono (hs a pins s5 _ _ D2 I6 ⟨⟨C, upd_same⟩, F0, H0, _, _, _, rl5, h3, fun F2 H2 σ2 rl2 sf2 => ⟨F2, rl2, (sf1.trans x5.ff).trans sf2⟩⟩) (fun fl6 s6 h6 => ?_) fun _ _ z => by rw [show (X.inX a).xe = X.xe from rfl, nx] at z; exact z.elim
      cases fl6 with
      | next =>
       obtain ⟨σ6, H6, I7, F6, rl6, sf6⟩ := h6
       have I8 : Inv X pins σ6 H6 s6 := I7.outX I.ok
       obtain ⟨m, hn, hl0⟩ := id I8.loc
       refine wpAny_nameGoes_keeps hl hn (by rw [I.ok.kind]; rfl) fun h7 v hn7 hs7 => ?_
       exact ⟨_, H6, I8.gone hN hi hn hn7 hs7, ok F6 H6 _ (rl6.drop i) sf6⟩
      | brk => obtain ⟨_, _, _, z⟩ := h6; exact z.elim
      | cont => obtain ⟨_, _, _, z⟩ := h6; exact z.elim
      | ret u => obtain ⟨_, _, _, _, _, z⟩ := h6; exact z.elim
     | _ => cases e
   ·cases e
end
end
section
structure RoomN (k : Nat) (A : Around) : Prop where
 dp : A.depth + 3 * k + 5 < recursionLimit
 un : A.units + 16 * k + 200 < cLine
theorem RoomN.mono {j k : Nat} {A : Around} (r : RoomN k A) (h : j <= k) : RoomN j A := ⟨by have := r.dp; omega, by have := r.un; omega⟩
theorem RoomN.deeper {k : Nat} {A : Around} (r : RoomN (k + 1) A) (env : Env) : RoomN k (A.deeper env) :=
 ⟨by have := r.dp; show A.depth + 1 + 3 * k + 5 < _; omega, by have := r.un; show A.units + 3 + 16 * k + 200 < _; omega⟩
theorem Room.mark {k : Nat} {A : Around} (r : Room k A) (v : Option Value) : RoomN k (A.mark v) := ⟨r.dp, r.un⟩
structure FnOkN (P : Program) (w : World) (K : W.Frag) (mg : Str -> Option Value) (base : Heap) (CX : CXT) (k : Nat) (f : Addr) (fd : FuncData) (ps : List Str) (sp : Sp) : Prop where
 len : ∀ vs H Q E, sp vs H Q E -> vs.length = ps.length
 run : ∀ (A : Around) (outer : List Env) (s : Shared) (H : Hp) (args : Args) (us : List Value) (vs : List V) (Q : VK) (E : XK), RoomN k A -> Env0 P w K mg base A outer s H -> BindsTo s fd args (ps.zip us) -> Vals vs us -> sp vs H Q E ->
  codeAny (model P w) A (.call (.ref f) args) (CR CX outer P w H s Q E) s
theorem FnOkN.mono {P : Program} {w : World} {K : W.Frag} {mg : Str -> Option Value} {base : Heap} {CX : CXT} {j k : Nat} {f : Addr} {fd : FuncData} {ps : List Str} {sp : Sp} (F : FnOkN P w K mg base CX j f fd ps sp) (h : j <= k) : FnOkN P w K mg base CX k f fd ps sp :=
 ⟨F.len, fun A outer s H args us vs Q E hr => F.run A outer s H args us vs Q E (hr.mono h)⟩
noncomputable abbrev cxOfN (CX : CXT) (P : Program) (w : World) (K : W.Frag) (mg : Str -> Option Value) (base : Heap) (N : List Str) (qual : Str) (scope : Scope) (f : Addr) (cd : Value) (A : Around) (outer : List Env) (s : Shared) (H : Hp) (E : XK) : Cx :=
 { cxOf CX P w K mg base N qual scope f cd A outer s H E with calm := false }
theorem inv_startN {CX : CXT} {P : Program} {w : World} {K : W.Frag} {mg : Str -> Option Value} {base : Heap} {N ps : List Str} {qual : Str} {scope : Scope} {f : Addr} {cd : Value} {A : Around} {outer : List Env} {s s1 : Shared} {H : Hp} {E : XK} {us : List Value} {vs : List V}
  (S : FnScope N ps scope) (e0 : Env0 P w K mg base A outer s H) (hl : vs.length = ps.length) (r : Vals vs us)
  (x : InCallC s s.heap.objs.size (bindL (envOfC qual scope s.heap.objs.size f cd).kindOf (ps.zip us) fun _ => none) (cellsFrom (s.heap.objs.size + 1) scope.names []) (bindC (envOfC qual scope s.heap.objs.size f cd).kindOf (ps.zip us) fun _ => none) s1) :
  Inv (cxOfN CX P w K mg base N qual scope f cd A outer s H E) [] (start N vs) H s1 := by
 have e1 : Env0 P w K mg base { A with handled := none } outer s H := ⟨e0.frames, e0.mod, e0.bs, e0.bsz, e0.funs, e0.frf, e0.hok, e0.bare⟩
 have I := inv_start (CX := CX) (E := E) (A := { A with handled := none }) (qual := qual) (f := f) (cd := cd) S rfl e1 hl r x
 exact ⟨⟨I.ok.mod, I.ok.kind, I.ok.glob, I.ok.blt, I.ok.above, I.ok.inj, I.ok.has, I.ok.cab, (fun z => by cases z), Around.frames_deeper e0.frames, I.ok.stk, I.ok.exf, I.ok.bs, I.ok.bsz, I.ok.noex, I.ok.exfs, I.ok.funs, I.ok.frf⟩, I.os, I.bare, I.base, I.loc, I.cell, I.free, I.freeC, I.pin, I.hok, I.len⟩
theorem fn_ofN {CX : CXT} {P : Program} {w : World} {K : W.Frag} {mg : Str -> Option Value} {base : Heap} {k : Nat} {f : Addr} {name qual : Str} {params : Arguments} {body : List Stmt} {scope : Scope} {dV kV doc pm cdv ct oc : Value} {an od : Option Addr}
  {osl : Array (Option Value)} {N ps : List Str} {sp : Sp} (lk : K.lookup f = some ⟨oc, od, .func (W.fnOf name qual params body scope dV kV doc pm an cdv ct), osl⟩) (hcd : W.codeIn K cdv qual = true) (S : FnScope N ps scope)
  (len : ∀ vs H Q E, sp vs H Q E -> vs.length = ps.length)
  (hbody : ∀ (A : Around) (outer : List Env) (s : Shared) (H : Hp) (vs : List V) (Q : VK) (E : XK), RoomN k (A.deeper (envOfC qual scope s.heap.objs.size f cdv)) -> sp vs H Q E ->
   ∃ t, PSs (cxOfN CX P w K mg base N qual scope f cdv A outer s H E) body t /\ t { nx := fun _ H' => Q .non H', rt := Q } (start N vs) H) :
  FnOkN P w K mg base CX (k + 1) f (W.fnOf name qual params body scope dV kV doc pm an cdv ct) ps sp := by
 refine ⟨len, fun A outer s H args us vs Q E hr e0 hb r hsp => ?_⟩
 have hl := len _ _ _ _ hsp
 have KX : K.In s.heap := e0.mod.kin.keeps fun b o e => (e0.bs b o e).1
 have lim : s.heap.NoLimit := e0.mod.nolimit.keeps fun b o e => (e0.bs b o e).1
 have hkind : ∀ y ∈ ps.zip us, scope.names.lookup y.1 = some .local \/ (scope.names.lookup y.1 = some .cell /\ ((cellsFrom (s.heap.objs.size + 1) scope.names []).lookup y.1).isSome = true) := fun ⟨n, v⟩ hy => by
  rcases S.par n (of_mem_zip hy).1 with q | q
  ·exact .inl q
  ·exact .inr ⟨q, W.cellsFrom_some _ _ _ (.inl q)⟩
 refine codeAny_call_function (by have := hr.dp; omega) (KX _ _ lk) rfl S.co S.gen rfl (W.codeRec_of KX hcd) (hb _ _ _ _ ?_)
 refine wpAny_newFunctionEnv_cells S.kind hkind fun env he s1 x => ?_
 subst he
 refine ⟨lim.keeps x.toInCall.keep, codeAny_func ?_⟩
 obtain ⟨t, ht, hq⟩ := hbody A outer s H vs Q E (hr.deeper _) hsp
 have I : Inv (cxOfN CX P w K mg base N qual scope f cdv A outer s H E) [] (start N vs) H s1 := inv_startN S e0 hl r x
 refine wpAny_mono (ht [] s1 (start N vs) H _ I hq) (fun fl s' hs => ?_) fun e s' hs => hs
 have fin : ∀ {σ' : St} {H' : Hp} {v : V} {u : Value}, Inv (cxOfN CX P w K mg base N qual scope f cdv A outer s H E) [] σ' H' s' -> RelV v u -> Q v H' -> CE outer P w H s Q u s' :=
  fun {σ' H' v u} J rv q => ⟨v, H', J.os, J.bare, J.base, J.hok, rv, q⟩
 cases fl with
 | ret u =>
  obtain ⟨v, σ', H', J, rv, q⟩ := hs
  exact fin J rv q
 | next =>
  obtain ⟨σ', H', J, q⟩ := hs
  exact fin (v := V.non) (u := Value.none) J rfl q
 | brk =>
  obtain ⟨_, _, _, q⟩ := hs
  exact False.elim q
 | cont =>
  obtain ⟨_, _, _, q⟩ := hs
  exact False.elim q
theorem Fun.okN {P : Program} {w : World} {K : W.Frag} {mg : Str -> Option Value} {base : Heap} {x qual : Str} {st : Stmt} {f : Addr} {fd : FuncData} {N ps : List Str} {k : Nat} {m : MS} (Fn : Fun K x qual st f fd) (Sc : FnScope N ps (defScope st))
  (hbody : ∀ (cdv : Value) (A : Around) (outer : List Env) (s : Shared) (H : Hp) (E : XK), RoomN k (A.deeper (envOfC qual (defScope st) s.heap.objs.size f cdv)) -> PSsd (cxOfN CX0 P w K mg base N qual (defScope st) f cdv A outer s H E).nox (defBody st) m) :
  FnOkN P w K mg base CX0 (k + 1) f fd ps (spR K ps.length (runB N.length m)) := by
 obtain ⟨oc, od, kV, doc, pm, an, cdv, ct, osl, rfl, lk, hcd⟩ := Fn.ex
 refine fn_ofN lk hcd Sc (fun vs H Q E h => h.1) fun A outer s H vs Q E hr h => ?_
 obtain ⟨hl, F, ds, r, sf, rs, e, ok⟩ := h
 unfold runB at e
 cases h1 : m (startS N.length ds) with
 | none => rw [h1] at e; cases e
 | some o =>
  rw [h1] at e
  refine ⟨_, (hbody cdv A outer s H E hr).nox, F, H, F, startS N.length ds, o, rl_start sf rs, h1, ?_⟩
  cases o with
  | nx ρ => cases e; exact fun F' H' σ' rl _ => ok .non F' H' rl.ext .non
  | rt d => cases e; exact ok
  | rf es => cases e; exact ok
  | rp d es => cases e; exact ok
  | rg d p r => cases e
  | rgf d p r => cases e
  | bk ρ => cases e
  | ct ρ => cases e
section
variable {X : Cx} {CX : CXT} {k : Nat} {f : Addr} {fd : FuncData} {ps : List Str} {sp : Sp} {dvs : List V} {ds : List Value} {E : XK} {x : Str} {p pos : Pos} {e : Expr} {es : List Expr} {t : TA}
theorem pe_callN (F : FnOkN X.prog X.w X.K X.mg X.base CX k f fd ps sp) (hr : RoomN k X.A) (hg : Gl X x) (hm : X.mg x = some (.ref f)) (hk : W.keepIn X.K (.ref f) = true) (hb : Binds X.K fd ps ds) (hd : Vals dvs ds) (hx : Passes CX X E)
  (ha : PA X (e :: es) t) (hdb : (x == ("__debug__" : Str)) = false := by decide) (he : starEach (e :: es) X.env = (false, eval e X.env) :: starEach es X.env := by rfl) (hpl : (backTo pos (starEach es X.env)).any (·.1) = false := by rfl) :
  PE X (.Call (.Name x p) (e :: es) [] pos) (tCall sp dvs E t) := by
 intro pins s σ H Q I h
 refine wpAny_Call_Name_kw (ld_glob I hg hm ?_ hdb)
 refine W.callWith_K (h₀ := X.base) I.ok.mod.kin hk (thn (ha pos pins s σ H _ I h) fun us s1 ⟨vs, H1, I1, r, q⟩ => ⟨I1.kIn, ?_⟩) he hpl
 have r2 : Vals (vs ++ dvs) (us ++ ds) := r.append hd
 have hl : (us ++ ds).length = ps.length := by rw [<- r2.length]; exact F.len _ _ _ _ q
 refine wpAny_call (codeAny_mono (F.run X.A X.stack s1 H1 ⟨us, []⟩ (us ++ ds) (vs ++ dvs) Q E hr I1.env0 (hb s1 us I1.kIn hl) r2 q) fun r s' hq => ?_)
 cases r with
 | error e => exact hx pins σ H1 s1 e s' I1 hq
 | ok fl =>
  cases fl with
  | ret u => exact I1.after hq
  | next => exact False.elim hq
  | brk => exact False.elim hq
  | cont => exact False.elim hq
end
@[irreducible] noncomputable def misX (tab : List (Str × Bool)) (m : ME) : ME := fun ρ => match m ρ with | some (.exc c) => (tab.lookup c).map .bl | _ => none
section
variable {X : Cx} {a : Expr} {ma : ME} {pos : Pos}
def rIsX (K : W.Frag) (cv : Value) (tab : List (Str × Bool)) (y : V) : List V -> Hp -> VK -> Prop := fun vs H Q => ∃ b c k, vs = [.ref b, y] /\ (∃ C, XC K c C /\ H b = some (.ext (XAt b C))) /\ tab.lookup c = some k /\ Q (.bl k) H
theorem call_isX {cv : Value} {y : V} {tab : List (Str × Bool)} (ry : ∀ u, RelV y u -> u = cv) (hk : ∀ c k, tab.lookup c = some k -> ∀ C, XC X.K c C -> XCls X.K C /\ W.kitOne X.K (.ref C) cv = some k) : CallR X (.builtin "isinstance") (rIsX X.K cv tab y) := by
 intro pins s σ H xs us Q I r h
 obtain ⟨b, c, k, rfl, ⟨C, xc, hb⟩, e, q⟩ := h
 obtain ⟨u, w, rfl, rx, r2⟩ := vals2 r
 cases rx
 cases ry w r2
 obtain ⟨z, kk⟩ := hk c k e C xc
 exact W.kia_one (kitx_exc z) I.kIn (I.xat hb) kk (fun z => nomatch z) fun tk => ⟨.bl k, H, I.tok _, rfl, q⟩
theorem isX_imp {cv : Value} {y : V} {tab : List (Str × Bool)} {ty : TE} (hy : ∀ σ H Q, Q y H -> ty σ H Q) {σ : St} {H : Hp} {Q : VK} (h : TD X.K (misX tab ma) σ H Q) : tCB (rIsX X.K cv tab y) (tCons (TD X.K ma) (tCons ty tNil)) σ H Q := by
 obtain ⟨F0, H0, F, ρ, g, rl, e, q⟩ := h
 unfold misX at e
 split at e
 ·rename_i c h1
  cases h2 : tab.lookup c with
  | none => rw [h2] at e; cases e
  | some k =>
   rw [h2] at e; cases e
   refine ⟨F0, H0, F, ρ, _, rl, h1, fun v F1 H1 x1 r1 => ?_⟩
   cases r1 with
   | exc xc hb => exact hy _ _ _ ⟨_, c, k, rfl, ⟨_, xc, x1.fh _ _ hb⟩, h2, q _ F1 H1 x1 (.bl _)⟩
 ·cases e
theorem pd_isX {c : Str} {Ca : Addr} {p p2 : Pos} {tab : List (Str × Bool)} (hg : Gl X "isinstance") (hm : X.mg "isinstance" = none) (hgc : Gl X c) (hmc : X.mg c = some (.ref Ca)) (ha : PD X a ma)
  (hk : ∀ c k, tab.lookup c = some k -> ∀ C, XC X.K c C -> XCls X.K C /\ W.kitOne X.K (.ref C) (.ref Ca) = some k) (hd : (c == ("__debug__" : Str)) = false := by decide)
  (hs : starEach (a :: [.Name c p2]) X.env = (false, eval a X.env) :: starEach [.Name c p2] X.env := by rfl) (hs2 : starEach [.Name c p2] X.env = (false, eval (.Name c p2) X.env) :: starEach [] X.env := by rfl)
  (hpl : (backTo pos (starEach [.Name c p2] X.env)).any (·.1) = false := by rfl) : PD X (.Call (.Name "isinstance" p) [a, .Name c p2] [] pos) (misX tab ma) :=
 (pe_callB (call_isX (y := .ref Ca) (cv := .ref Ca) (fun u z => z) hk) hg hm PyProof.Rows.boot_isinstance (pa_cons ha (pa_cons (pe_glob (v := .ref Ca) hgc hmc rfl hd) pa_nil hs2) hs) (by decide) (by decide) hs hpl).imp fun σ H Q h => isX_imp (fun _ _ _ z => z) h
theorem pd_isXB {c : Str} {T : String} {p p2 : Pos} {tab : List (Str × Bool)} (hg : Gl X "isinstance") (hm : X.mg "isinstance" = none) (hgc : Gl X c) (hmc : X.mg c = none) (hv : bootBuiltins c = some (.type T)) (ha : PD X a ma)
  (hk : ∀ c k, tab.lookup c = some k -> ∀ C, XC X.K c C -> XCls X.K C /\ W.kitOne X.K (.ref C) (.type T) = some k) (hn : c ≠ "__name__" := by decide) (hd : (c == ("__debug__" : Str)) = false := by decide)
  (hs : starEach (a :: [.Name c p2]) X.env = (false, eval a X.env) :: starEach [.Name c p2] X.env := by rfl) (hs2 : starEach [.Name c p2] X.env = (false, eval (.Name c p2) X.env) :: starEach [] X.env := by rfl)
  (hpl : (backTo pos (starEach [.Name c p2] X.env)).any (·.1) = false := by rfl) : PD X (.Call (.Name "isinstance" p) [a, .Name c p2] [] pos) (misX tab ma) :=
 (pe_callB (call_isX (y := .ty T) (cv := .type T) (fun u z => z) hk) hg hm PyProof.Rows.boot_isinstance (pa_cons ha (pa_cons (pe_bltn (v := .ty T) hgc hmc hv rfl hn hd) pa_nil hs2) hs) (by decide) (by decide) hs hpl).imp fun σ H Q h => isX_imp (fun _ _ _ z => z) h
end
noncomputable def xclsB (K : W.Frag) (C : Addr) : Bool :=
 (W.findIn K (.ref C) "__getattribute__" == some (some (.builtin "BaseException.__getattribute__"))) && (W.findIn K (.ref C) "__getattr__" == some none) && (W.findIn K (.ref C) "__class__" == some (some (.builtin "object.__class__"))) &&
  (W.mroIn K C (.type "object") == some true) && (W.mroIn K C (.type "BaseException") == some true)
theorem xcls_of {K : W.Frag} {C : Addr} (h : xclsB K C = true) : XCls K C := by
 unfold xclsB at h
 simp only [Bool.and_eq_true, beq_iff_eq] at h
 exact ⟨h.1.1.1.1, h.1.1.1.2, h.1.1.2, h.1.2, h.2⟩
theorem XC.eq {K : W.Frag} {c : Str} {C x : Addr} (h : XC K c C) (e : W.nsIn K mainGlobals c = some (some (.ref x))) : C = x := by
 have := h.1.symm.trans e
 cases this; rfl
theorem lookup_all {P : Str -> Bool -> Prop} : ∀ {tab : List (Str × Bool)}, (∀ p ∈ tab, P p.1 p.2) -> ∀ c k, tab.lookup c = some k -> P c k := fun h c k e => h (c, k) (PySem.mem_of_lookup e)
end
section
section
variable {X : Cx} {a : Expr} {ma : ME} {pos : Pos}
open PySem.SeqAt in
end
end
section
section
variable {X : Cx} {pos : Pos}
end
end
section
section
variable {X : Cx} {v : Expr} {mv : ME} {pos : Pos}
end
theorem us1 {P : List Value -> Prop} (h : ∀ a, P [a]) : ∀ us : List Value, us.length = 1 -> P us
 | [a], _ => h a
theorem us2 {P : List Value -> Prop} (h : ∀ a b, P [a, b]) : ∀ us : List Value, us.length = 2 -> P us
 | [a, b], _ => h a b
theorem us3 {P : List Value -> Prop} (h : ∀ a b c, P [a, b, c]) : ∀ us : List Value, us.length = 3 -> P us
 | [a, b, c], _ => h a b c
end
section
section
variable {X : Cx} {e : Expr} {pos : Pos}
end
end
section
section
variable {X : Cx} {pins : List (Addr × Obj)} {σ : St}
end
end
section
inductive RPs (K : W.Frag) (F H : Hp) : List Addr -> List (List D) -> Prop
 | nil : RPs K F H [] []
 | cons {q : Addr} {xs : List V} {ds : List D} {qs : List Addr} {dss : List (List D)} : H q = some (.lst xs) -> Reps K F xs ds -> RPs K F H qs dss -> RPs K F H (q :: qs) (ds :: dss)
section
variable {K : W.Frag} {F H F' H' : Hp}
end
structure Pots (K : W.Frag) (H F' H' : Hp) (p : Addr) (qs : List Addr) (dss : List (List D)) : Prop where
 hp : H p = none
 fp : F' p = none
 at' : H' p = some (.lst (qs.map V.ref))
 new : ∀ q ∈ qs, H q = none /\ F' q = none
 nd : (p :: qs).Nodup
 rep : RPs K F' H' qs dss
section
variable {X : Cx} {a b c e : Expr} {pos : Pos}
end
end
section
section
variable {K : W.Frag} {F0 H0 H0' F H : Hp} {σ : St} {ρ : Ro}
end
section
variable {X : Cx} {a b c e : Expr} {pos : Pos} {st : Stmt}
variable {E : XK} {es : List Expr} {m : ML}
end
end
section
section
variable {K : W.Frag} {F0 H0 F H : Hp} {σ : St} {ρ : Ro}
end
end
section
section
variable {X : Cx} {a b : Expr} {ma mb : ME} {pos : Pos}
end
section
variable {X : Cx} {a b : Expr}
open PySem.SeqAt in
end
end
section
section
variable {X : Cx} {a b c e o : Expr} {ma mb mo : ME} {pos : Pos} {st : Stmt}
end
open Classical in
section
variable {X : Cx} {pos : Pos}
end
end
section
section
variable {X : Cx} {st : Stmt}
end
end
section
inductive Fl where
 | v (d : D) | l (ds : List D)
inductive Cell where
 | ins (c : Str) (ns : List Str) (fs : List Fl)
 | row (fs : List Fl)
 | tb (P : Addr) (mw : Str) (pos : Pos) (q : Str)
def CodeAt (c : Addr) (q : Str) : Heap -> Prop := fun h => h.CodeRec (.ref c) q
structure CodeT (K : W.Frag) (cdv : Value) (P : Addr) : Prop where
 hd : ∃ c, cdv = .ref c /\ ∀ h : Heap, K.In h -> W.CodeHd h c P
 ne : mainGlobals ≠ P
def TabF (K : W.Frag) (mw : Str) (P : Addr) : Prop := ∃ f oc od fd sl, W.nsIn K mainGlobals mw = some (some (.ref f)) /\ K.lookup f = some ⟨oc, od, .func fd, sl⟩ /\ CodeT K fd.code P
noncomputable abbrev Bx := List (Addr × Cell)
inductive FlR (K : W.Frag) (F B : Hp) : List Addr -> List V -> List Fl -> Prop
 | nil : FlR K F B [] [] []
 | v {fp : List Addr} {x : V} {d : D} {xs : List V} {fs : List Fl} : Rep K F x d -> FlR K F B fp xs fs -> FlR K F B fp (x :: xs) (.v d :: fs)
 | l {fp : List Addr} {q : Addr} {ys : List V} {ds : List D} {xs : List V} {fs : List Fl} : B q = some (.lst ys) -> Reps K F ys ds -> FlR K F B fp xs fs -> FlR K F B (q :: fp) (.ref q :: xs) (.l ds :: fs)
inductive CellR (K : W.Frag) (F B : Hp) : List Addr -> Addr -> Cell -> Prop
 | ins {fp : List Addr} {p dx C : Addr} {c : Str} {ns : List Str} {xs : List V} {fs : List Fl} : W.nsIn K mainGlobals c = some (some (.ref C)) -> ns.length = xs.length -> B p = some (.ins C dx (ns.zip xs)) -> B dx = some (.own p) -> FlR K F B fp xs fs ->
   CellR K F B (p :: dx :: fp) p (.ins c ns fs)
 | row {fp : List Addr} {p : Addr} {xs : List V} {fs : List Fl} : B p = some (.lst xs) -> FlR K F B fp xs fs -> CellR K F B (p :: fp) p (.row fs)
 | tb {P : Addr} {mw : Str} {pos : Pos} {q : Str} {ps : Array Value} : TabF K mw P -> B P = some (.tbl ps) -> TriplesOk ps.toList -> (codeAmong pos ps.toList = none \/ ∃ c, codeAmong pos ps.toList = some (.ref c) /\ F c = some (.ext (CodeAt c q))) -> CellR K F B [P] P (.tb P mw pos q)
inductive BxR (K : W.Frag) (F B : Hp) : List Addr -> Bx -> Prop
 | nil : BxR K F B [] []
 | cons {fp fq : List Addr} {p : Addr} {c : Cell} {β : Bx} : CellR K F B fp p c -> BxR K F B fq β -> BxR K F B (fp ++ fq) ((p, c) :: β)
section
variable {K : W.Frag} {F F' B B' : Hp}
end
noncomputable def jn (H0 B : Hp) : Hp := fun a => match B a with | some o => some o | none => H0 a
structure BxOk (K : W.Frag) (F0 H0 F B : Hp) (fp : List Addr) (β : Bx) : Prop where
 out : ∀ a, B a ≠ none -> H0 a = none /\ F0 a = none
 bx : BxR K F B fp β
 nd : fp.Nodup
 plain : ∀ a o u, B a ≠ some (.frz o u)
def RlW (K : W.Frag) (F0 H0 F H : Hp) (σ : St) (ρ : Ro) (β : Bx) : Prop := ∃ B fp, Rl K F0 (jn H0 B) F H σ ρ /\ BxOk K F0 H0 F B fp β
noncomputable def okW (K : W.Frag) (F0 H0 Fb : Hp) (Dn : Ends) : Out -> Bx -> Prop
 | .nx ρ, β => ∀ F H σ, RlW K F0 H0 F H σ ρ β -> Same Fb F -> Dn.nx σ H
 | .bk ρ, β => ∀ F H σ, RlW K F0 H0 F H σ ρ β -> Same Fb F -> Dn.bk σ H
 | .ct ρ, β => ∀ F H σ, RlW K F0 H0 F H σ ρ β -> Same Fb F -> Dn.ct σ H
 | .rt d, β => ∀ v F H B fp, Ext F0 (jn H0 B) F H -> BxOk K F0 H0 F B fp β -> Rep K F v d -> Dn.rt v H
 | .rf ds, β => ∀ p xs F H B fp, Ext F0 (jn H0 B) F H -> BxOk K F0 H0 F B fp β -> jn H0 B p = none -> F p = none -> H p = some (.lst xs) -> Reps K F xs ds -> Dn.rt (.ref p) H
 | .rg d p r, β => ∀ v F H xs B fp, Ext F0 (jn H0 B) F H -> BxOk K F0 H0 F B fp β -> Rep K F v d -> jn H0 B p = none -> F p = none -> H p = some (.lst xs) -> Reps K F xs r -> Dn.rt v H
 | .rp _ _, _ => False
 | .rgf _ _ _, _ => False
section
variable {X : Cx} {a b c e : Expr} {pos : Pos} {st : Stmt} {rest : List Stmt}
end
section
variable {K : W.Frag} {F0 H0 F H B : Hp} {σ : St} {ρ : Ro} {β : Bx} {fp : List Addr}
end
section
variable {X : Cx} {a b c e : Expr} {pos : Pos}
end
end
section
noncomputable abbrev MFW := List D -> Bx -> Option (Rt × Bx)
section
variable {K : W.Frag} {F0 H0 F H B : Hp} {σ : St} {ρ : Ro} {β : Bx} {fp : List Addr}
end
section
variable {X : Cx} {a b c e o : Expr} {pos : Pos} {st : Stmt} {rest : List Stmt} {E : XK} {es : List Expr} {mf : MFW} {m : ML}
end
end
section
section
variable {X : Cx} {a b c e o : Expr} {pos apos : Pos} {E : XK} {es : List Expr} {m : ML} {mo : ME}
end
section
variable {K : W.Frag} {F0 H0 F H B : Hp} {σ : St} {ρ : Ro} {β : Bx} {fp : List Addr}
end
end
section
section
variable {K : W.Frag} {F0 H0 F H B : Hp} {σ : St} {ρ : Ro} {β : Bx} {fp : List Addr}
end
section
variable {X : Cx} {value o : Expr} {pos pos' : Pos} {f : Str}
end
end
section
section
variable {X : Cx} {value e o : Expr} {pos pos' apos cpos : Pos} {f : Str} {st : Stmt} {rest : List Stmt}
end
end
section
open Classical in
section
variable {X : Cx} {e : Expr} {es : List Expr} {st : Stmt} {rest : List Stmt} {E : XK} {mf : MFW} {m : ML}
end
end
section
section
variable {X : Cx} {a b c e o : Expr} {pos : Pos} {st : Stmt} {rest : List Stmt} {E : XK} {es : List Expr} {mf : MFW}
end
end
section
section
variable {X : Cx} {e o : Expr} {E : XK}
end
end
section
section
variable {X : Cx} {e : Expr} {pos : Pos}
end
end
section
section
variable {K : W.Frag} {F0 H0 F H B : Hp} {σ : St} {ρ : Ro} {β : Bx} {fp : List Addr}
end
noncomputable abbrev MGW := Addr -> List D -> List D -> Bx -> Option (D × List D × Bx)
section
variable {X : Cx} {e : Expr} {pos : Pos} {st : Stmt} {es : List Expr} {E : XK} {mf : MGW} {m : ML}
end
end
section
end
section
section
variable {P : Program} {w : World} {K : W.Frag} {mg : Str -> Option Value} {base h : Heap} {nm ql cn : Str} {st : Stmt} {ps : List Str} {sp : Sp} {n : Nat} {C : Addr}
end
section
variable {X : Cx} {n k : Nat} {nm cn : Str} {ps : List Str} {sp : Sp} {e o : Expr} {es : List Expr} {ta : TE} {t : TA} {p pos apos : Pos} {C : Addr} {pl : Sem Bool}
end
section
variable {a b c d e f : ME} (ρ : Ro) (ds : List D)
end
end
section
section
variable {X : Cx} {a b c e : Expr} {pos : Pos} {st : Stmt}
end
end
section
section
variable {X : Cx} {st : Stmt} {sts : List Stmt}
end
end
section
section
variable {X : Cx} {a b c e k : Expr} {te : TE} {ma mb : ME} {la lb : ML} {pos p2 : Pos} {st : Stmt}
end
end
section
section
variable {X : Cx} {P : Addr} {pos : Pos} {q : Str} {params : Arguments} {body : Expr} {sc : Scope}
end
end
section
section
variable {X : Cx} {pins : List (Addr × Obj)} {σ : St} {H : Hp} {s : Shared}
end
end
section
section
variable {X : Cx} {pins : List (Addr × Obj)} {σ : St}
end
end
section
open Classical in
section
variable {X : Cx}
end
section
variable {P : Program} {w : World} {K : W.Frag} {mg : Str -> Option Value} {base : Heap} {nm : Str} {st : Stmt} {ps : List Str} {sp : Sp} {n : Nat}
end
end
section
end
section
section
variable {K : W.Frag} {F0 H0 F H B : Hp} {σ : St} {ρ : Ro} {β : Bx} {fp : List Addr}
end
section
variable {X : Cx} {a b c e : Expr} {pos : Pos} {st : Stmt} {rest : List Stmt} {E : XK} {es : List Expr} {mf : MFW} {m : ML}
end
end
section
section
variable {X : Cx} {pins : List (Addr × Obj)} {σ : St}
end
section
variable {X : Cx}
end
end
section
section
variable {X : Cx} {pins : List (Addr × Obj)} {σ : St}
end
section
variable {X : Cx} {pos : Pos}
end
end
section
section
variable {X : Cx} {e : Expr} {pos : Pos} {es : List Expr} {m : ML} {mf : MF} {E : XK}
end
section
variable {X : Cx} {pos : Pos}
end
end
section
structure BlkC (X : Cx) (sc : Scope) (N : List Str) (src : List (Option Nat)) : Prop where
 kind : sc.kind = .function
 cells : ∀ y ∈ sc.names, y.2 = .cell -> sc.names.lookup y.1 = some .cell
 names : ∀ y ∈ sc.names, y.2 = .local -> sc.names.lookup y.1 = some .local
 free : ∀ y ∈ sc.names, y.2 = .free -> X.env.kindOf y.1 = some .cell \/ X.env.kindOf y.1 = some .free
 fv : ∀ (j i : Nat), src[j]? = some (some i) -> ∃ x, N[j]? = some x /\ X.N[i]? = some x /\ sc.names.lookup x = some .free
 len : src.length = N.length
section
variable {X : Cx} {pins : List (Addr × Obj)} {σ : St} {H : Hp} {s : Shared}
end
section
variable {X : Cx}
end
section
variable {X : Cx} {pos : Pos}
end
end
section
section
variable {X : Cx} {pos : Pos}
end
end
section
section
variable {K : W.Frag} {F0 H0 F H B : Hp} {σ : St} {ρ : Ro} {β : Bx} {fp : List Addr}
end
end
section
section
variable {K : W.Frag} {F0 J F H : Hp} {σ : St} {ρ : Ro}
end
section
variable {X : Cx} {a b c e e1 e2 : Expr} {pos p1 p2 : Pos} {st : Stmt}
end
end
section
section
variable {X : Cx} {a b e : Expr} {pos : Pos} {ta tb : TE} {ma mb : Ro -> Bx -> Option D}
end
end
section
section
variable {X : Cx} {pos : Pos}
end
end
section
section
variable {X : Cx} {st : Stmt} {rest : List Stmt} {e o c : Expr} {es : List Expr} {pos apos : Pos} {mo : ME} {m : ML}
end
section
variable {X : Cx} {pos np hpos : Pos}
end
section
variable {X : Cx} {e : Expr} {es : List Expr} {st : Stmt} {E : XK} {mf : MFW} {m : ML}
end
end
section
section
variable {X : Cx} {e : Expr} {es : List Expr} {st : Stmt} {E : XK} {mf : MF} {m : ML} {pos : Pos}
end
section
variable {X : Cx} {e : Expr} {es : List Expr} {pos : Pos} {x : Ro -> Bx -> Option D} {m : Ro -> Bx -> Option (List D)}
end
section
variable {K : W.Frag} {F0 J F H : Hp} {σ : St} {ρ : Ro}
end
section
variable {X : Cx} {e : Expr} {E : XK} {mf : MF}
end
end
section
section
variable {X : Cx} {e o : Expr} {E : XK} {mf : MF} {mo : ME}
end
end
section
section
variable {X : Cx} {e : Expr} {es : List Expr} {st : Stmt} {rest : List Stmt} {E : XK} {mf : MFW} {m : MLm}
end
end
end L2
namespace L2
open List
open PySem PySem.Spec PyProof.Rows PySem.W
section
section
variable {M : Model} {A : Around} {E : Value -> Shared -> Prop} {s : Shared}
end
section
variable {B h h' : Heap} {l : List Env} {e C L : Addr} {cls a0 fl : Value}
end
section
variable {X : Cx} {e : Expr} {es : List Expr} {pos : Pos}
end
section
variable {X : Cx}
end
end
section
section
variable {X : Cx} {e : Expr} {pos : Pos}
end
section
variable {X : Cx} {pins : List (Addr × Obj)} {σ : St} {H : Hp} {s : Shared}
end
end
section
section
variable {X : Cx} {st : Stmt} {rest : List Stmt} {e c : Expr} {es : List Expr} {pos : Pos}
end
open Classical in
section
variable {X : Cx}
end
end
end L2
namespace L2
open List
open PySem PySem.Spec PyProof.Rows
section
section
variable {X : Cx} {pos np hpos : Pos}
end
end
section
noncomputable def ixSD : D -> D -> Option D
 | .str z, .int i => if z.length <= sizeLine then (atI z.cps.toList i).map fun c => .str ⟨#[c]⟩ else none
 | _, _ => none
theorem opd_ixS {K : W.Frag} : OpD K rIxS ixSD := by
 intro F H x y d e w Q s r1 r2 h q
 cases d with
 | str z =>
  cases e with
  | int i =>
   cases r1
   cases r2
   have h : (if z.length <= sizeLine then (atI z.cps.toList i).map fun c => D.str ⟨#[c]⟩ else none) = some w := h
   split at h
   ·rename_i hz
    cases h1 : atI z.cps.toList i with
    | none => rw [h1] at h; cases h
    | some c => rw [h1] at h; cases h; exact ⟨z, i, c, rfl, rfl, hz, h1, q _ F H (.refl s) (.str _)⟩
   ·cases h
  | _ => cases h
 | _ => cases h
section
variable {X : Cx} {a b : Expr} {ma mb : ME} {na nb : MEm} {pos : Pos}
end
section
variable {X : Cx} {a b : Expr} {ca cb : Ro -> Bx -> Option (Bool × Bx)} {pos : Pos}
end
end
section
section
variable {X : Cx} {e : Expr} {es : List Expr} {st : Stmt} {E : XK} {mf : MFW} {m : ML}
end
end
section
section
variable {X : Cx} {e o : Expr} {pos : Pos} {ma mo : ME}
@[irreducible] noncomputable def msplF (x y : ME) : ML := fun ρ => match x ρ, y ρ with
 | some (.str z), some (.str w) => if (w.length == 0) = false /\ z.length + 2 <= sizeLine then some ((Txt.split z w).map D.str) else none
 | _, _ => none
theorem pf_split {name : Str} {apos cpos : Pos} (hE : ∀ t, PA X [e] t -> PE X (.Call (.Attribute o name apos) [e] [] cpos) (tBM X.K "str" rSplit (TD X.K mo) t)) (hA : PAs X [e] (acons ma anil)) :
  PF X (.Call (.Attribute o name apos) [e] [] cpos) (msplF mo ma) := (hE _ hA).imp fun σ H Q hpat => by
 obtain ⟨F0, H0, F, ρ, ds, rl, e, q⟩ := hpat
 unfold msplF at e
 split at e
 ·rename_i z w h1 h2
  split at e
  ·rename_i hz
   cases e
   refine ⟨F0, H0, F, ρ, .str z, rl, h1, fun v F1 H1 x1 r1 => ?_⟩
   cases r1
   refine ⟨rfl, F0, H0, F1, ρ, [.str w], rl.go x1, by unfold acons anil; rw [h2]; rfl, fun vs F2 H2 x2 r2 => ?_⟩
   cases r2 with
   | cons r rr =>
    cases rr
    cases r
    refine ⟨z, w, rfl, rfl, hz.1, hz.2, fun p hp => ?_⟩
    have x12 := x1.trans x2
    have x3 : Ext F2 H2 F2 (upd H2 p (.lst ((Txt.split z w).map V.str))) := ⟨Same.refl _, (Same.refl H2).put hp, x2.fh.trans ((Same.refl H2).put hp), fun b e n => absurd e n, fun _ _ _ z => z⟩
    exact q p _ F2 _ (x12.trans x3) (x12.hh.free hp) (x2.fh.free hp) upd_same (reps_strs _)
  ·cases e
 ·cases e
end
end
section
@[irreducible] noncomputable def mpopAt (i : Nat) (x : ME) : MS := fun ρ => match ρ[i]?, x ρ with
 | some (some (.own ds)), some (.int k) => if 0 <= k /\ k < (ds.length : Int) /\ ds.length <= sizeLine then some (.nx (ρ.set i (some (.own (ds.eraseIdx k.toNat))))) else none
 | _, _ => none
@[irreducible] noncomputable def mins (i : Nat) (x y : ME) : MS := fun ρ => match ρ[i]?, x ρ, y ρ with
 | some (some (.own ds)), some (.int k), some d => if 0 <= k /\ k < (ds.length : Int) /\ ds.length < sizeLine then some (.nx (ρ.set i (some (.own (ds.take k.toNat ++ d :: ds.drop k.toNat))))) else none
 | _, _, _ => none
theorem Reps.eraseIdx {K : W.Frag} {F : Hp} : ∀ {vs : List V} {ds : List D} (i : Nat), Reps K F vs ds -> Reps K F (vs.eraseIdx i) (ds.eraseIdx i)
 | _, _, _, .nil => .nil
 | _, _, 0, .cons _ rr => rr
 | _, _, i + 1, .cons r rr => .cons r (Reps.eraseIdx i rr)
theorem size_small : sizeLine < 2 ^ 62 := by decide +kernel
def rInsert : V -> List V -> Hp -> VK -> Prop := fun x vs H Q => ∃ l xs i y, x = .ref l /\ vs = [.int i, y] /\ H l = some (.lst xs) /\ 0 <= i /\ i < (xs.length : Int) /\ xs.length < sizeLine /\ Q .non (upd H l (.lst (xs.take i.toNat ++ y :: xs.drop i.toNat)))
section
variable {X : Cx} {pos : Pos} {e : Expr} {ma mb : ME}
theorem mt_insert : MtM X "list.insert" rInsert := by
 intro pins s σ H x vs v us Q I rx rv h
 obtain ⟨l, xs, i, y, rfl, rfl, hH, h0, h1, hz, q⟩ := h
 cases rx
 cases rv with
 | cons r1 rr =>
  cases rr with
  | cons r2 rr =>
   cases rr
   obtain ⟨t, rfl⟩ := r1
   rename_i u2
   obtain ⟨z, its, n, r, hl, e⟩ := I.lstM hH
   have sm := size_small
   have hf : Builtin.List.listFitsIndex i = true := fitsIndex_both (by omega) (by omega)
   refine call_meets PySem.F.slot_list_insert ⟨_, e, rfl⟩ PySem.F.entry_list_insert (PySem.F.args_list_insert_3 _ _ _) (PySem.AutoSeq1.list_insert_list_int_val_1 l its.toArray n i t u2 (by simp [hf]) (by rw [size_toArray]; omega)) ⟨e, ?_⟩
   refine ⟨.non, _, I.lset (its' := its.take i.toNat ++ u2 :: its.drop i.toNat) hH e ?_ ((r.take _).append (.cons r2 (r.drop _))) ?_, rfl, q⟩
   ·show (its.toArray.extract 0 (if i < 0 then (i + (its.toArray.size : Int)).toNat else min i.toNat its.toArray.size)).push u2 ++ its.toArray.extract (if i < 0 then (i + (its.toArray.size : Int)).toNat else min i.toNat its.toArray.size) = _
    rw [if_neg (by omega), size_toArray, Nat.min_eq_left (by omega)]
    simp
    exact take_of_length_le (by simp)
   ·rw [length_append, length_cons, length_take, length_drop]
    omega
theorem psd_popAt {i : Nat} {x : Str} {px apos cpos : Pos} (hE : ∀ t, PA X [e] t -> PE X (.Call (.Attribute (.Name x px) "pop" apos) [e] [] cpos) (tBM X.K "list" rPopAt (tVar i) t)) (hA : PAs X [e] (acons ma anil))
  (hs : swapsWith (.Call (.Attribute (.Name x px) "pop" apos) [e] [] cpos) none pos.line X.env = pure false := by rfl) :
  PSd X (.Expr (.Call (.Attribute (.Name x px) "pop" apos) [e] [] cpos) pos) (mpopAt i ma) := (ps_expr (hE _ hA) hs).imp fun D σ H hpat => by
 obtain ⟨F0, H0, F, ρ, o, rl, e, ok⟩ := hpat
 unfold mpopAt at e
 split at e
 ·rename_i ds k h1 h2
  obtain ⟨p, xs, e1, e2, e3, e4, e5⟩ := rl.own i _ h1
  split at e
  ·rename_i hz
   cases e
   have hl := e4.length
   refine ⟨_, e1, .inl ⟨rfl, _, SqL.of e3⟩, F0, H0, F, ρ, [.int k], rl, by unfold acons anil; rw [h2]; rfl, fun vs F1 H1 x1 r1 => ?_⟩
   cases r1 with
   | cons r rr =>
    cases rr
    cases r
    have hp : H1 p = some (.lst xs) := x1.hh _ _ e3
    have sm := size_small
    have hsz : xs.length <= sizeLine := by rw [hl]; exact hz.2.2
    refine ⟨p, xs, k, k.toNat, _, rfl, rfl, hp, by omega, by omega, ?_, getElem?_eq_getElem (by omega), ok F1 _ σ ((rl.go x1).write h1 e1 ((e4.mono x1.ff).eraseIdx _)) x1.ff⟩
    unfold seqIndex?
    simp only [if_neg (show ¬ k < 0 by omega)]
    rw [if_pos (by simp; omega)]
  ·cases e
 ·cases e
theorem psd_ins {i : Nat} {x : Str} {e2 : Expr} {px apos cpos : Pos} (hE : ∀ t, PA X [e, e2] t -> PE X (.Call (.Attribute (.Name x px) "insert" apos) [e, e2] [] cpos) (tBM X.K "list" rInsert (tVar i) t)) (hA : PAs X [e, e2] (acons ma (acons mb anil)))
  (hs : swapsWith (.Call (.Attribute (.Name x px) "insert" apos) [e, e2] [] cpos) none pos.line X.env = pure false := by rfl) :
  PSd X (.Expr (.Call (.Attribute (.Name x px) "insert" apos) [e, e2] [] cpos) pos) (mins i ma mb) := (ps_expr (hE _ hA) hs).imp fun D σ H hpat => by
 obtain ⟨F0, H0, F, ρ, o, rl, e, ok⟩ := hpat
 unfold mins at e
 split at e
 ·rename_i ds k d h1 h2 h3
  obtain ⟨p, xs, e1, e2, e3, e4, e5⟩ := rl.own i _ h1
  split at e
  ·rename_i hz
   cases e
   have hl := e4.length
   refine ⟨_, e1, .inl ⟨rfl, _, SqL.of e3⟩, F0, H0, F, ρ, [.int k, d], rl, by unfold acons anil; rw [h2, h3]; rfl, fun vs F1 H1 x1 r1 => ?_⟩
   cases r1 with
   | cons r rr =>
    cases r
    cases rr with
    | cons r' rr =>
     cases rr
     have hp : H1 p = some (.lst xs) := x1.hh _ _ e3
     have e4' := e4.mono x1.ff
     exact ⟨p, xs, k, _, rfl, rfl, hp, hz.1, by omega, by omega, ok F1 _ σ ((rl.go x1).write h1 e1 ((e4'.take _).append (.cons r' (e4'.drop _)))) x1.ff⟩
  ·cases e
 ·cases e
end
end
section
noncomputable def Itst (z : Str) : It := ⟨fun i _ => i < z.cps.size, fun i H x H' => H' = H /\ ∃ c, z.cps[i]? = some c /\ x = .str ⟨#[c]⟩, fun i _ => z.cps.size <= i⟩
theorem turn_str {P : Program} {w : World} {K : PySem.W.Frag} {tg : Expr} (T : String) (it : Addr) (z : Str) (t : Tok)
  (W : ∀ A : Around, A.handled = none -> Walks P w A it [it] [it] z.cps.size (SignAt z) (fun i h => h.IsStrIter it T z t i))
  (S : ∀ (A : Around) (i : Nat) (s : Shared) (Q : Value -> Shared -> Prop) (E : Value -> Shared -> Prop), s.heap.IsStrIter it T z t i -> Q (.ref it) s -> wpAny (model P w) A (pyIter (.ref it)) Q E s)
  (hn : ["enumerate", "zip", "dict_itemiterator", "dict_reverseitemiterator", "odict_iterator", "itertools.zip_longest", "itertools.pairwise"].contains T = false) :
  Turn P w K tg (Itst z) [it] it (fun i h => i <= z.cps.size /\ h.IsStrIter it T z t i) where
 mem := by simp
 obj := fun i h st b hb => by
  have e : b = it := by simpa using hb
  subst e
  obtain ⟨o, e, c, d⟩ := st.2
  exact ⟨o, e, fun v z => by rw [d] at z; cases z⟩
 keep := fun i h h' st k => by
  obtain ⟨l, o, e, c, d⟩ := st
  exact ⟨l, o, k it (by simp) o e, c, d⟩
 item := by
  intro X hP hw hK hc i pins s σ H E I hf st hg
  subst hP hw hK
  obtain ⟨f0, f1, f2, f3, f4, f5⟩ := hf it (by simp)
  have hg : i < z.cps.size := hg
  refine (W _ (I.ok.hd hc)).item i s _ _ hg st.2 fun v h' tk hv st' kk => ?_
  obtain ⟨c, u, hcs, rfl⟩ := hv
  have I1 : Inv X pins σ H { s with heap := h', toks := tk } := I.turned (fun b o hb e => kk b o (by simpa using hb) e) f0 f1 f3 f4 f5
  obtain ⟨o, e, c', d⟩ := id st'
  exact ⟨_, rfl, go_of (s := { s with heap := h', toks := tk }) e c' d hn ⟨.str ⟨#[c]⟩, H, I1, ⟨u, rfl⟩, ⟨rfl, c, hcs, rfl⟩, ⟨hg, st'⟩, fun b hb => (hf b hb).1⟩⟩
 done := by
  intro X hP hw hK hc i pins s σ H E I hf st hg
  subst hP hw hK
  obtain ⟨f0, f1, f2, f3, f4, f5⟩ := hf it (by simp)
  have hg : z.cps.size <= i := hg
  have e : i = z.cps.size := Nat.le_antisymm st.1 hg
  subst e
  exact (W _ (I.ok.hd hc)).done s _ _ st.2 fun h' tk kk => ⟨rfl, I.turned (fun b o hb e => kk b o (by simpa using hb) e) f0 f1 f3 f4 f5⟩
 self := fun A i s Q E st h => S A i s Q E st.2 h
noncomputable def aschr (m : ME) : ML := fun ρ => match m ρ with | some (.str z) => some (z.cps.toList.map fun c => D.str ⟨#[c]⟩) | _ => none
section
variable {X : Cx} {tg e : Expr} {ma mb : ME} {pos : Pos}
theorem pi_str {l : Expr} {tl : TE} (hl : PE X l tl) : PI X tg l (fun σ H R => tl σ H fun x H1 => ∃ z, x = .str z /\ R (Itst z) H1) := by
 intro pins s σ H R I h
 refine thn (hl pins s σ H _ I h) fun v s1 hpat => ?_
 obtain ⟨x, H1, I1, r1, q1⟩ := hpat
 obtain ⟨z, e, q⟩ := q1
 subst e
 obtain ⟨t, rfl⟩ := r1
 have fin : ∀ (T : String) (o : Obj), Turn X.prog X.w X.K tg (Itst z) [s1.heap.objs.size] s1.heap.objs.size (fun i h => i <= z.cps.size /\ h.IsStrIter s1.heap.objs.size T z t i) -> (s1.heap.push o).IsStrIter s1.heap.objs.size T z t 0 -> PIE X pins σ tg R (.ref s1.heap.objs.size) { s1 with heap := s1.heap.push o } := fun T o tn st => by
  refine ⟨s1.heap.objs.size, [s1.heap.objs.size], _, _, H1, rfl, I1.kept (t' := s1.toks) fun b o e => Heap.get?_push_of_some _ e, tn, ⟨Nat.zero_le _, st⟩, fun b hb => ?_, q⟩
  have e : b = s1.heap.objs.size := by simpa using hb
  subst e
  exact I1.fpOk (Nat.le_refl _) (I1.hok.fresh (Nat.le_refl _))
 cases ha : z.cps.all (· < 128)
 ·exact wpAny_pyIter_wide ha (fin "str_iterator" _ (turn_str _ _ z t (fun A hh => Walks.strWide hh _ z t) (fun A i s Q E st h => wpAny_pyIter_striter_wide st h) (by decide)) ⟨_, Heap.get?_push_size _ rfl, rfl, rfl⟩)
 ·exact wpAny_pyIter_ascii ha (fin "str_ascii_iterator" _ (turn_str _ _ z t (fun A hh => Walks.strAscii hh _ z t) (fun A i s Q E st h => wpAny_pyIter_striter_ascii st h) (by decide)) ⟨_, Heap.get?_push_size _ rfl, rfl, rfl⟩)
theorem itd_str {K : W.Frag} {F : Hp} {z : Str} : ItD K F (Itst z) (z.cps.toList.map fun c => D.str ⟨#[c]⟩) where
 go := fun i F1 H1 a b hi => by
  rw [length_map, Array.length_toList] at hi
  exact hi
 yld := fun i F1 H1 x H2 d a b e y => by
  obtain ⟨rfl, c, hc, rfl⟩ := y
  rw [getElem?_map, Array.getElem?_toList, hc] at e
  cases e
  exact ⟨F1, .refl b, .str _⟩
 stop := fun F1 H1 a b => by
  rw [length_map, Array.length_toList]
  exact Nat.le_refl _
theorem pid_str (hd : PD X e ma) : PId X tg e (aschr ma) := PI.imp (pi_str hd) fun σ H R hpat => by
 obtain ⟨F0, H0, F, ρ, its, rl, e, q⟩ := hpat
 unfold aschr at e
 split at e
 ·rename_i z h1
  cases e
  refine ⟨F0, H0, F, ρ, _, rl, h1, fun v F1 H1 x1 r1 => ?_⟩
  cases r1
  exact ⟨z, rfl, q _ F1 H1 x1 itd_str⟩
 ·cases e
noncomputable def ninSD : D -> D -> Option D
 | .str i, .str j => some (.bl (!(!(Builtin.Str.occurrences j i 0 j.length 1).isEmpty)))
 | _, _ => none
theorem opd_ninS {K : W.Frag} : OpD K (fun x y H Q => ∃ i j, x = .str i /\ y = .str j /\ Q (.bl (!(!(Builtin.Str.occurrences j i 0 j.length 1).isEmpty))) H) ninSD := by
 intro F H x y d e w Q s r1 r2 h q
 cases d with
 | str i =>
  cases e with
  | str j =>
   cases r1
   cases r2
   cases h
   exact ⟨i, j, rfl, rfl, q _ F H (.refl s) (.bl _)⟩
  | _ => cases h
 | _ => cases h
variable {a b : Expr}
theorem pd_ixS (ha : PD X a ma) (hb : PD X b mb) (hs : PlainIx b := by exact fun _ _ => rfl) : PD X (.Subscript a b pos) (m2 ixSD ma mb) := (pe_ix ix_str ha hb hs).imp fun σ H Q h => op_d opd_ixS h
end
end
section
section
variable {es : List Expr} {env : Env}
theorem se_c {c : Const} {k : Nat} {p : Pos} : starEach (.Constant c k p :: es) env = (false, eval (.Constant c k p) env) :: starEach es env := rfl
theorem se_b {a b : Expr} {o : Operator} {p : Pos} : starEach (.BinOp a o b p :: es) env = (false, eval (.BinOp a o b p) env) :: starEach es env := rfl
end
end
section
end
section
section
variable {prog : Program} {w : World} {A : Around} {E : Value -> Shared -> Prop} {s : Shared}
theorem unchain_entry : entryFor table "proto.unchain" = some Builtin.«proto.unchain» := entryFor_of_tree (by kernel_rfl)
theorem raise_in {α : Type} {a e : Addr} {o oe : Obj} {vs us : Array Value} {Q : α -> Shared -> Prop} (hh : A.handled = some (.ref a)) (ha : s.heap.get? a = some o) (hd : o.data = .fields vs) (h2 : vs[2]? = some .none)
  (he : s.heap.get? e = some oe) (hu : oe.data = .fields us) (hz : 2 < us.size) (ne : a ≠ e) (hE : E (.ref e) { s with heap := s.heap.update e (Obj.mapFields (·.setIfInBounds 2 (.ref a))) }) : wpAny (model prog w) A (raiseNew (.ref e) : Sem α) Q E s := by
 unfold raiseNew
 refine wpAny_bind (wpAny_handled ?_)
 rw [hh]
 dsimp only
 rw [if_pos (by simp [ne])]
 refine wpAny_bind (wpAny_holding (wpAny_runValue (codeAny_builtin unchain_entry ?_)))
 unfold Builtin.«proto.unchain»
 dsimp only
 refine wpAny_bind (wpAny_field ha hd h2 ?_)
 rw [if_pos (by rfl)]
 refine wpAny_pure ?_
 unfold updateField
 refine wpAny_bind (wpAny_bind (wpAny_load he ?_))
 rw [hu]
 dsimp only
 rw [if_pos hz]
 exact wpAny_update he (wpAny_throw hE)
theorem range_stops {it a : Addr} {o : Obj} {vs : Array Value} {x left step : Int} {Q : Option Value -> Shared -> Prop} (hh : A.handled = some (.ref a)) (ha : s.heap.get? a = some o) (hd : o.data = .fields vs) (h2 : vs[2]? = some .none) (hit : IsRangeIter s.heap it x left step) (hl : left <= 0)
  (hQ : ∀ h', Heap.ExtBut it s.heap h' -> Q none { s with heap := h' }) : wpAny (model prog w) A (pyNext (.ref it)) Q E s := by
 have hT : s.TypeIs (.ref it) "range_iterator" := ⟨_, hit, rfl⟩
 unfold pyNext
 refine wpAny_bind (wpAny_attempt (wpAny_callSpecial?_slot (name := Str.ofString "__next__") hT F.slot_range_iterator_next (wpAny_call_entry F.slot_range_iterator_next hT F.entry_range_iterator_next ?_ (F.args_range_iterator_next_1 _))))
 show wpAny _ A.in1 (field (.ref it) 0 >>= _) _ _ _
 refine wpAny_bind (wpAny_field hit rfl (x := rawInt x) rfl ?_)
 show wpAny _ A.in1 (field (.ref it) 1 >>= _) _ _ _
 refine wpAny_bind (wpAny_field hit rfl (x := rawInt left) rfl ?_)
 show wpAny _ A.in1 (field (.ref it) 2 >>= _) _ _ _
 refine wpAny_bind (wpAny_field hit rfl (x := rawInt step) rfl ?_)
 show wpAny _ _ (if left <= 0 then _ else _) _ _ s
 rw [if_pos hl]
 refine wpAny_bind (wpAny_rule (wpAny_bind ?_))
 show wpAny _ _ (newExc (.type "StopIteration") [] >>= raiseNew) _ _ _
 refine wpAny_bind ?_
 unfold newExc newTuple
 refine wpAny_bind (wpAny_newObj_type (wpAny_bind (m := firstArgMember _ _) (wpAny_of_eq (a := Value.none) (by first | rfl | (simp only [firstArgMember]; rfl)) (wpAny_newObj_type ?_ (by size_fits)))) (by size_fits))
 have lt : a < s.heap.objs.size := Heap.lt_size ha
 generalize hg : s.heap.push { cls := .type "tuple", dict := none, data := .seq ([] : List Value).toArray } = h1
 have z1 : h1.objs.size = s.heap.objs.size + 1 := by rw [<- hg, Heap.size_push]
 have k1 : ∀ b u, s.heap.get? b = some u -> h1.get? b = some u := fun b u e => by rw [<- hg]; exact Heap.get?_push_of_some _ e
 refine raise_in (a := a) (by exact hh) (Heap.get?_push_of_some _ (k1 _ _ ha)) hd h2 (Heap.get?_push_size _ rfl) rfl (by rw [Array.size_append]; exact Nat.lt_of_lt_of_le (show 2 < 6 by decide) (Nat.le_add_right _ _)) (Nat.ne_of_lt (by rw [z1]; exact Nat.lt_succ_of_lt lt)) ?_
 refine wpAny_bind (wpAny_isInstance (T := "StopIteration") (b := true) ⟨_, Heap.get?_update_self _ (Heap.get?_push_size _ rfl) rfl, rfl⟩ isSubtype_stop (wpAny_pure (hQ _ ?_)))
 intro b u ne e
 have lb : b < s.heap.objs.size := Heap.lt_size e
 exact (Heap.get?_update_other _ _ (Nat.ne_of_gt (by rw [z1]; exact Nat.lt_succ_of_lt lb))).trans (Heap.get?_push_of_some _ (k1 _ _ e))
end
theorem Kx.on {a : Addr} {H H' : Hp} (k : Kx a H) (s : Same H H') : Kx a H' := let ⟨C, e⟩ := k; ⟨C, s _ _ e⟩
noncomputable def Itrk (a : Addr) (n : Nat) : It := ⟨fun i _ => i < n, fun i H x H' => H' = H /\ x = .int i, fun i H => n <= i /\ Kx a H⟩
abbrev inH (a : Addr) (Y : Cx) : Prop := Y.A.handled = some (.ref a)
theorem turn_rangeX {P : Program} {w : World} {K : W.Frag} {tg : Expr} (it a : Addr) (n : Nat) : TurnC (inH a) P w K tg (Itrk a n) [it] it (fun i h => IsRangeIter h it ((i : Nat) * 1) ((n : Int) - (i : Nat)) 1) where
 mem := List.mem_singleton.mpr rfl
 obj := fun i h st b hb => by
  rw [List.mem_singleton.mp hb]
  exact ⟨_, st, fun v z => by have z : Data.fields _ = Data.cell v := z; cases z⟩
 keep := fun i h h' st k => k it (List.mem_singleton.mpr rfl) _ st
 item := by
  intro X hP hw hK hc i pins s σ H E I hf st hg
  subst hP hw hK
  obtain ⟨f0, f1, f2, f3, f4, f5⟩ := hf it (List.mem_singleton.mpr rfl)
  have hg : i < n := hg
  refine wpAny_pyNext_range_item st (by omega) fun h' st' sb => ?_
  have st2 : IsRangeIter h' it (((i + 1 : Nat) : Int) * 1) ((n : Int) - ((i + 1 : Nat) : Int)) 1 := by
   have e1 : (((i + 1 : Nat) : Int) * 1) = (i : Int) * 1 + 1 := by omega
   have e2 : ((n : Int) - ((i + 1 : Nat) : Int)) = (n : Int) - (i : Nat) - 1 := by omega
   rw [e1, e2]; exact st'
  have I1 : Inv X pins σ H { s with heap := h', toks := s.toks + 1 } := I.turned (fun b o hb e => (sb.2 b hb).trans e) f0 f1 f3 f4 f5
  exact ⟨_, rfl, go_of (s := { s with heap := h', toks := s.toks + 1 }) (n := "range_iterator") st' rfl rfl (by decide) ⟨.int i, H, I1, ⟨s.toks, by rw [Int.mul_one]⟩, ⟨rfl, rfl⟩, st2, fun b hb => (hf b hb).1⟩⟩
 done := by
  intro X hP hw hK hc i pins s σ H E I hf st hg
  subst hP hw hK
  obtain ⟨f0, f1, f2, f3, f4, f5⟩ := hf it (List.mem_singleton.mpr rfl)
  obtain ⟨hn, C, hC⟩ := hg
  obtain ⟨o, vs, e1, _, e3, e4⟩ := I.xat hC
  exact range_stops hc e1 e3 e4 st (by omega) fun h' eb => ⟨rfl, I.turned (t' := s.toks) (fun b o hb e => eb b o hb e) f0 f1 f3 f4 f5⟩
 self := fun _ _ _ _ _ st h => wpAny_pyIter_rangeiter st h
section
variable {X : Cx} {a : Addr} {pos : Pos} {e : Expr}
def PIEk (a : Addr) (X : Cx) (pins : List (Addr × Obj)) (σ : St) (tg : Expr) (R : It -> Hp -> Prop) (itv : Value) (s2 : Shared) : Prop :=
 ∃ (it : Addr) (fp : List Addr) (tn : Nat -> Heap -> Prop) (J : It) (H' : Hp), itv = .ref it /\ Inv X pins σ H' s2 /\ TurnC (inH a) X.prog X.w X.K tg J fp it tn /\ tn 0 s2.heap /\ (∀ b ∈ fp, FpOk X pins H' b) /\ R J H'
def PIk (a : Addr) (X : Cx) (tg iter : Expr) (wi : TI) : Prop :=
 ∀ (pins : List (Addr × Obj)) (s : Shared) (σ : St) (H : Hp) (R : It -> Hp -> Prop), Inv X pins σ H s -> wi σ H R ->
  wpAny (model X.prog X.w) X.A (eval iter X.env) (fun v s1 => wpAny (model X.prog X.w) X.A (pyIter v) (PIEk a X pins σ tg R) X.xe s1) X.xe s
def iRngk (a : Addr) (ta : TA) : TI := fun σ H R => ta σ H fun vs H1 => ∃ j : Int, vs = [.int j] /\ -(2 ^ 62) <= j /\ j < 2 ^ 62 /\ R (Itrk a j.toNat) H1
theorem range_itk {pins : List (Addr × Obj)} {σ : St} {H : Hp} {s : Shared} {R : It -> Hp -> Prop} {E : Value -> Shared -> Prop} {hi : Int} {t u v : Tok} {tk : Nat} {tg : Expr} (I : Inv X pins σ H s) (h3 : -(2 ^ 62) <= hi) (h4 : hi < 2 ^ 62)
  (q : R (Itrk a hi.toNat) H) : wpAny (model X.prog X.w) X.A (pyIter (.ref s.heap.objs.size)) (PIEk a X pins σ tg R) E { s with heap := s.heap.push { cls := .type "range", data := .fields #[.int 0 t, .int hi u, .int 1 v] }, toks := tk } := by
 refine wpAny_pyIter_range (IsRange.new ..) (small_one (by omega) (by omega) h3 h4) ?_
 generalize hg : s.heap.push { cls := .type "range", data := .fields #[.int 0 t, .int hi u, .int 1 v] } = g
 have I1 : Inv X pins σ H { s with heap := g, toks := tk } := I.kept fun b o e => by rw [<- hg]; exact Heap.get?_push_of_some _ e
 refine ⟨g.objs.size, [g.objs.size], _, _, H, rfl, I1.kept (t' := tk) fun b o e => Heap.get?_push_of_some _ e, turn_rangeX _ a hi.toNat, ?_, fun b hb => ?_, q⟩
 ·have e2 : ((hi.toNat : Nat) : Int) - ((0 : Nat) : Int) = Builtin.Range.rangeSize 0 hi 1 := by rw [rangeSize_one]; split <;> omega
  show IsRangeIter _ _ (((0 : Nat) : Int) * 1) (((hi.toNat : Nat) : Int) - ((0 : Nat) : Int)) 1
  rw [e2]
  exact Heap.get?_push_size _ rfl
 ·rw [List.mem_singleton.mp hb]
  exact I1.fpOk (Nat.le_refl _) (I1.hok.fresh (Nat.le_refl _))
theorem pik_range {tg x : Expr} {ta : TA} {p : Pos} (hg : Gl X "range") (hm : X.mg "range" = none) (ha : PA X [x] ta) (hs : starEach [x] X.env = [(false, eval x X.env)] := by rfl) : PIk a X tg (.Call (.Name "range" p) [x] [] pos) (iRngk a ta) := by
 intro pins s σ H R I h
 refine Call_ (ld_blt I hg hm boot_range (PyProof.Rows.callWith_type1 (thn (ha pos pins s σ H _ I h) fun us s1 hpat => ?_) hs rfl))
 obtain ⟨vs, H1, I1, r1, j, e, q1, q2, q⟩ := hpat
 subst e
 cases r1 with
 | cons r rr =>
  cases rr
  obtain ⟨t, rfl⟩ := r
  exact call_range_1 (range_itk I1 q1 q2 q)
theorem pe_compk {sc : Scope} {N : List Str} {src : List (Option Nat)} {tg elt iter : Expr} {ifs : List Expr} {wi : TI} {g : TG} {tc : TT} {te : TE} (B : Blk X sc N src) (hc : inH a X)
  (hi : PIk a X tg iter wi) (hg : ∀ C fp s H, PG (blkCx X sc C N fp s H) tg g) (ht : ∀ C fp s H, PTs (blkCx X sc C N fp s H) ifs tc) (he : ∀ C fp s H, PE (blkCx X sc C N fp s H) elt te)
  (hs : ∀ x, foldedSetIterable iter X.env x = pure x := by intro _; rfl) : PE X (.ListComp elt [⟨tg, iter, ifs, 0⟩] sc pos) (tComp src wi g tc te) := by
 intro pins s σ H Q I h
 rw [eval_ListComp]
 refine wpAny_comprehension_free (use := none) rfl hs (B.cl I.ok) B.kind B.names (wpAny_mono (hi pins s σ H _ I h) (fun xv s1 h1 => wpAny_mono h1 (fun itv s2 hpat => ?_) fun _ _ e => e) fun _ _ e => e)
 obtain ⟨it, fp, tn, J, H2, z, I2, T, st2, f2, hW⟩ := hpat
 subst z
 refine comp_block (cx := inH a) (RR := fun acc C => compPost (model X.prog X.w) X.A X.xe none (EP X pins σ Q) acc C) (Q := Q) B (fun _ _ _ _ => hc) hg ht he I2 T st2 f2 hW fun D C H' s' m' I' hn hC hCs q => ?_
 exact ⟨m', hn, fun h'' hs'' => ⟨.ref D, H', I'.letGo ⟨_, _, I2⟩ hCs hC hs'', rfl, q⟩⟩
abbrev kE (a : Addr) (t : TE) : TE := fun σ H Q => Kx a H /\ t σ H Q
theorem TB.str {K : W.Frag} {m : ML} {σ : St} {H : Hp} {Q : VK} (k : Kx a H) (h : TB K m σ H Q) : TB K m σ H fun v H' => Kx a H' /\ Q v H' :=
 let ⟨F0, H0, F, ρ, ds, rl, e, q⟩ := h
 ⟨F0, H0, F, ρ, ds, rl, e, fun p xs F' H' x s r => ⟨k.on x.hh, q p xs F' H' x s r⟩⟩
theorem compk_tf {K : PySem.W.Frag} {src : List (Option Nat)} {m : ML} {g : Tg} {c : MB} {elt : ME} {σ : St} {H : Hp} {Q : VK} (h : kE a (TB K (mcomp src (mlist rng1 m) g c elt)) σ H Q) : tComp src (iRngk a (TAs K m)) (TGd K g) (TC K c) (TD K elt) σ H Q := by
 obtain ⟨k, F0, H0, F, ρ, out, rl, e, q⟩ := h
 unfold mcomp at e
 cases h1 : mlist rng1 m ρ with
 | none => rw [h1] at e; cases e
 | some its =>
  rw [h1] at e
  obtain ⟨ds, h2, h3⟩ := mlist_some h1
  refine ⟨F0, H0, F, ρ, ds, rl, h2, fun vs F1 H1 x1 r1 => ?_⟩
  unfold rng1 at h3
  split at h3
  ·rename_i j
   split at h3
   ·rename_i hk
    cases h3
    unfold okR at hk
    simp only [Bool.and_eq_true, decide_eq_true_eq] at hk
    cases r1 with
    | cons r rr =>
     cases rr; cases r
     refine ⟨j, rfl, hk.1, hk.2, fun p hp => ?_⟩
     obtain ⟨rb, no⟩ := (rl.go x1).blk src
     have key := comp_loop (Q := fun v H' => Kx a H' /\ Q v H') x1.fh hp (rb.noB no hp) (itd_range (lo := 0) (n := j.toNat)) e fun xs F' H' xe hF' hH' ra => ⟨k.on (x1.hh.trans xe.hh), q p xs F' H' (x1.trans xe) (SqL.of hH') ra⟩
     obtain ⟨W, w0, st⟩ := key
     refine ⟨W, w0, fun i n σ' H' w => ?_⟩
     rcases st i n σ' H' w with ⟨s1, s2, s3⟩ | ⟨s1, N, s2, s3⟩
     ·exact .inl ⟨⟨s1, s2⟩, s3⟩
     ·exact .inr ⟨s1, N, s2, fun x H2 y => s3 x H2 ⟨y.1, by rw [y.2]; simp⟩⟩
   ·cases h3
  ·cases h3
theorem pbk_comp {sc : Scope} {N : List Str} {src : List (Option Nat)} {tg elt x : Expr} {ifs : List Expr} {m : ML} {g : Tg} {cc : MB} {me : ME} {p pos2 : Pos} (B : Blk X sc N src) (hc : inH a X) (hg0 : Gl X "range") (hm : X.mg "range" = none) (ha : PAs X [x] m)
  (hg : ∀ C fp s H, PGd (blkCx X sc C N fp s H) tg g) (ht : ∀ C fp s H, PTsd (blkCx X sc C N fp s H) ifs cc) (he : ∀ C fp s H, PD (blkCx X sc C N fp s H) elt me) (hst : starEach [x] X.env = [(false, eval x X.env)] := by rfl)
  (hs : ∀ y, foldedSetIterable (.Call (.Name "range" p) [x] [] pos2) X.env y = pure y := by intro _; rfl) : PE X (.ListComp elt [⟨tg, .Call (.Name "range" p) [x] [] pos2, ifs, 0⟩] sc pos) (kE a (TB X.K (mcomp src (mlist rng1 m) g cc me))) :=
 (pe_compk (g := TGd X.K g) (tc := TC X.K cc) (te := TD X.K me) B hc (pik_range hg0 hm ha hst) (fun C fp s H => hg C fp s H) (fun C fp s H => ht C fp s H) (fun C fp s H => he C fp s H) hs).imp fun _ _ _ h => compk_tf h
theorem pdk_eqB {x y : Expr} {la lb : ML} {op : CmpOp} {neg : Bool} (ho : OpR X (compareOp op) (rEqF X.K neg)) (ha : PB X x la) (hb : PE X y (kE a (TB X.K lb))) (hm : behindInMarks op y = false) : PE X (.Compare x [op] [y] pos) (kE a (TD X.K (meqB neg la lb))) :=
 (pe_cmpR ho ha hb hm).imp fun _ _ _ ⟨k, h⟩ => TB.str k (eqB_d h)
theorem pdk_intc {p : Pos} {m : ME} (hg : Gl X "int") (hm : X.mg "int" = none) (h : PE X e (kE a (TD X.K m))) (hv : bootBuiltins "int" = some (.type "int")) (he : starEach [e] X.env = (false, eval e X.env) :: starEach [] X.env := by rfl) (hpl : (backTo pos (starEach [] X.env)).any (·.1) = false := by rfl) :
  PE X (.Call (.Name "int" p) [e] [] pos) (kE a (TD X.K (call1 intF (acons m anil)))) :=
 (pe_callTy call_int1 hg hm hv (pa_cons h pa_nil he) (by decide) (by decide) he hpl).imp fun σ H Q ⟨k, h⟩ => ⟨k, by
  obtain ⟨F0, H0, F, ρ, gs, rl, e, q⟩ := call_d calld_int h
  obtain ⟨d, ds, h1, h2, rfl⟩ := acons_some e
  cases h2
  exact ⟨F0, H0, F, ρ, d, rl, h1, fun x F1 H1 x1 r1 => q _ F1 H1 x1 (.cons r1 .nil)⟩⟩
theorem pdk_ix {x y : Expr} {ml : ML} {mb : ME} (ha : PB X x ml) (hb : PE X y (kE a (TD X.K mb))) (hs : PlainIx y := by exact fun _ _ => rfl) : PE X (.Subscript x y pos) (kE a (TD X.K (mix ml mb))) := (pe_ix ix_list ha hb hs).imp fun σ H Q hpat => by
 obtain ⟨k, F0, H0, F, ρ, g, rl, e, q⟩ := hpat
 unfold mix at e
 cases h1 : ml ρ with
 | none => rw [h1] at e; cases e
 | some ds =>
  cases h2 : mb ρ with
  | none => rw [h1, h2] at e; cases e
  | some i =>
   rw [h1, h2] at e
   refine ⟨F0, H0, F, ρ, ds, rl, h1, fun p xs F1 H1 x1 s1 r1 => ⟨k.on x1.hh, F0, H0, F1, ρ, i, rl.go x1, h2, fun y F2 H2 x2 r2 => ?_⟩⟩
   cases r2 <;> first | (cases e; done) | skip
   rename_i j
   obtain ⟨v, h3, h4⟩ := atI_reps (r1.mono x2.ff) (show atI ds j = some g from e)
   exact ⟨p, xs, j, v, rfl, rfl, x2.hh.seq s1, h3, q v F2 H2 (x1.trans x2) h4⟩
theorem psk_set {i : Nat} {x : Str} {pos' : Pos} {ma : ME} (hN : X.N.Nodup) (hi : X.N[i]? = some x) (hx : Loc X.env.scope x) (he : PE X e (kE a (TD X.K ma))) (hs : swapsWith e (some (.Name x pos')) pos.line X.env = pure false := by rfl) (hf : X.fn x = true \/ X.env.scope.names.lookup x = some .local := by first | exact .inl rfl | exact .inr rfl | assumption) :
  PSs X [.Assign [.Name x pos'] e pos] fun D σ H => Kx a H /\ TSd X.K (mset i ma) D σ H := pss_one ((ps_set hN hi hx he hs hf).imp fun D σ H ⟨k, F0, H0, F, ρ, o, rl, e, ok⟩ => ⟨k, by
 unfold mset at e
 cases h1 : ma ρ with
 | none => rw [h1] at e; cases e
 | some d =>
  rw [h1] at e; cases e
  exact ⟨F0, H0, F, ρ, d, rl, h1, fun v F1 H1 x1 r1 => ok F1 H1 _ ((rl.go x1).set r1) x1.ff⟩⟩)
end
end
end L2
set_option maxHeartbeats 4000000
namespace Lw
open List
open PySem L2
section
noncomputable section
noncomputable def b_Z1 : MS := (mseq (mif (cor (cnot (mtru (mmeth0 (fun z => some (D.bl (Txt.isascii z))) (mvar 0)))) (cor (cnot (mtru (mmeth0 (fun z => some (D.bl (Txt.isdigit z))) (mvar 0)))) (mtest (m2 gtD (call1 lenF (acons (mvar 0) anil)) (mvar 1))))) (mret (mc (.bl false))) mnext) (mret (mor (m2 eqSD (mvar 0) (mc (.str "0"))) (m1 notD (mmeth startsF (mvar 0) (acons (mc (.str "0")) anil))))))
noncomputable def m_Z1 : MF := runB 2 b_Z1
noncomputable def b_Z9 : MS := (mret (mand (m2 neSD (mvar 0) (mc (.str "-0"))) (mcall m_Z1 (acons (mmeth remPF (mvar 0) (acons (mc (.str "-")) anil)) (acons (mc (.int 30)) anil)))))
noncomputable def m_Z9 : MF := runB 1 b_Z9
noncomputable def b_Z13_f0 : MS := (mif (cnot (mtru (mcall m_Z9 (acons (mvar 2) anil)))) mnever mnext)
noncomputable def b_Z13 : MS := (mseq (mif (mtest (m2 eqSD (mvar 0) (mc (.str "none")))) (mretF (sized anil)) mnext) (mseq (mset 1 (mmeth splitF (mvar 0) (acons (mc (.str " ")) anil))) (mseq (mfor (aslst (mvar 1)) (.nm 2) b_Z13_f0) (mretF (mcomp [none] (aslst (mvar 1)) (.nm 0) cyes (call1 intTF (acons (mvar 0) anil)))))))
noncomputable def m_Z13 : MF := runB 3 b_Z13
noncomputable def bx_Z13 : MXs := (xseq (mif (mtest (m2 eqSD (mvar 0) (mc (.str "none")))) (mretF (sized anil)) mnext) xnone (xseq (mset 1 (mmeth splitF (mvar 0) (acons (mc (.str " ")) anil))) xnone (xfor (aslst (mvar 1)) (.nm 2) (mif (cnot (mtru (mcall m_Z9 (acons (mvar 2) anil)))) mnever mnext) (xif (cnot (mtru (mcall m_Z9 (acons (mvar 2) anil)))) (xraise "NoText" (acons (mc (.str "a row's text is numbers parted by single blanks, or none")) anil)) xnone))))
noncomputable def xm_Z13 : MFX := runX 3 bx_Z13
noncomputable def b_Z12 : MS := (mseq (mif (mtest (m2 geD (mvar 0) (m2 powD (mc (.int 10)) (mc (.int 18))))) (mret (m2 modD (m2 shrD (m2 subD (mvar 0) (m2 powD (mc (.int 10)) (mc (.int 18)))) (m2 mulD (mc (.int 28)) (mvar 1))) (m2 powD (mc (.int 2)) (mc (.int 28))))) mnext) (mseq (mset 2 (m2 modD (m2 mulD (m2 addD (m2 addD (mvar 0) (m2 mulD (mc (.int 1013)) (mvar 1))) (mc (.int 1))) (mc (.int 16807))) (mc (.int 2147483647)))) (mseq (mset 2 (m2 modD (m2 mulD (mvar 2) (mvar 2)) (mc (.int 2147483629)))) (mret (m2 fdivD (m2 modD (m2 mulD (mvar 2) (mc (.int 39373))) (mc (.int 2147483587))) (mc (.int 8)))))))
noncomputable def m_Z12 : MF := runB 3 b_Z12
noncomputable def b_Z6 : MS := (mretF (mcut (mcat (mcut (bvar 0) onone (osome (mvar 1))) (sized (acons (mc (.int 0)) anil))) onone (osome (call1 max2F (acons (mc (.int 1)) (acons (call1 min2F (acons (mvar 1) (acons (mlen (bvar 0)) anil))) anil))))))
noncomputable def m_Z6 : MF := runB 2 b_Z6
noncomputable def b_Z0 : MS := (mseq (mif (mtru (misi "str" (mvar 1))) (mret (mand (misi "str" (mvar 0)) (m2 eqSD (mvar 0) (mvar 1)))) mnext) (mseq (mif (mtru (misi2 "list" "tuple" (mvar 1))) (mseq (mif (cor (mtest (m2 neSD (misi "list" (mvar 0)) (misi "list" (mvar 1)))) (cnot (mtru (misi2 "list" "tuple" (mvar 0))))) (mret (mc (.bl false))) mnext) (mseq (mif (mtest (m2 neSD (call1 lenF (acons (mvar 0) anil)) (call1 lenF (acons (mvar 1) anil)))) (mret (mc (.bl false))) mnext) mnever)) mnext) (mret (mand (misi "int" (mvar 0)) (mand (m1 notD (misi "bool" (mvar 0))) (m2 eqSD (mvar 0) (mvar 1)))))))
noncomputable def m_Z0 : MF := runB 2 b_Z0
noncomputable def b_Z3 : MS := (mseq (mif (mtru (misi "str" (mvar 1))) (mret (mand (misi "str" (mvar 0)) (m2 eqSD (mvar 0) (mvar 1)))) mnext) (mseq (mif (mtru (misi2 "list" "tuple" (mvar 1))) (mseq (mif (cor (mtest (m2 neSD (misi "list" (mvar 0)) (misi "list" (mvar 1)))) (cnot (mtru (misi2 "list" "tuple" (mvar 0))))) (mret (mc (.bl false))) mnext) (mseq (mif (mtest (m2 neSD (call1 lenF (acons (mvar 0) anil)) (call1 lenF (acons (mvar 1) anil)))) (mret (mc (.bl false))) mnext) (mret (meqB false (mcomp [none, none] (mlist zip2 (acons (mvar 0) (acons (mvar 1) anil))) (.tp [0, 1]) (cnot (mtru (mcall m_Z0 (acons (mvar 0) (acons (mvar 1) anil))))) (mc (.int 1))) (sized anil))))) mnext) (mret (mand (misi "int" (mvar 0)) (mand (m1 notD (misi "bool" (mvar 0))) (m2 eqSD (mvar 0) (mvar 1)))))))
noncomputable def m_Z3 : MF := runB 2 b_Z3
noncomputable def b_Z7 : MS := (mseq (mset 1 (mlst (sized (acons (misX [("NoText", false)] (mvar 0)) (acons (misX [("NoText", false)] (mvar 0)) (acons (misX [("NoText", false)] (mvar 0)) (acons (misX [("NoText", false)] (mvar 0)) anil))))))) (mseq (mset 1 (mlst (mcat (bvar 1) (sized (acons (misX [("NoText", true)] (mvar 0)) (acons (misX [("NoText", false)] (mvar 0)) (acons (misX [("NoText", false)] (mvar 0)) anil))))))) (mretF (mcat (bvar 1) (sized (acons (m1 notD (misX [("NoText", true)] (mvar 0))) anil))))))
noncomputable def m_Z7 : MF := runB 2 b_Z7
noncomputable def b_Z2_f0 : MS := (mseq (mset 5 (mcall m_Z12 (acons (mvar 0) (acons (m2 addD (mc (.int 10)) (mvar 4)) anil)))) (mseq (mset 6 (mlst (sized (acons (m2 modD (m2 fdivD (mvar 5) (mc (.int 16))) (mc (.int 10))) (acons (m2 modD (m2 fdivD (mvar 5) (mc (.int 16))) (mc (.int 1000))) (acons (m2 addD (m2 mulD (mvar 5) (m2 powD (mc (.int 10)) (mc (.int 21)))) (m2 fdivD (mvar 5) (mc (.int 16)))) (acons (m2 subD (m2 subD (m2 powD (mc (.int 10)) (mc (.int 30))) (mc (.int 1))) (m2 modD (m2 fdivD (mvar 5) (mc (.int 16))) (mc (.int 100)))) anil))))))) (mapp 3 (m2 mulD (mix (bvar 6) (m2 modD (mvar 5) (mc (.int 4)))) (mix (sized (acons (mc (.int 1)) (acons (m1 negD (mc (.int 1))) anil))) (m2 modD (m2 fdivD (mvar 5) (mc (.int 4))) (mc (.int 2))))))))
noncomputable def b_Z2 : MS := (mseq (mset 2 (m2 modD (mcall m_Z12 (acons (mvar 0) (acons (mc (.int 0)) anil))) (mix (sized (acons (mc (.int 3)) (acons (mc (.int 9)) (acons (m2 addD (mvar 1) (mc (.int 1))) anil)))) (m2 modD (mcall m_Z12 (acons (mvar 0) (acons (mc (.int 1)) anil))) (mc (.int 3)))))) (mseq (msetF 3 (sized anil)) (mseq (mfor (mlist rng1 (acons (mvar 2) anil)) (.nm 4) b_Z2_f0) (mretO 3))))
noncomputable def m_Z2 : MF := runB 7 b_Z2
noncomputable def b_Z10_f0 : MS := (mset 1 (m2 addSD (m2 addSD (mvar 1) (mc (.str " "))) (call1 strF (acons (mvar 2) anil))))
noncomputable def b_Z10 : MS := (mseq (mset 1 (mc (.str ""))) (mseq (mfor (aslst (mvar 0)) (.nm 2) b_Z10_f0) (mret (mix (sized (acons (mcutS (mvar 1) (osome (mc (.int 1))) onone) (acons (mc (.str "none")) anil))) (call1 intF (acons (meqB false (bvar 0) (sized anil)) anil))))))
noncomputable def m_Z10 : MF := runB 3 b_Z10
noncomputable def b_Z14 : MS := (mseq (mset 2 (mc (.str " !\"#$&'()*+,-./0123456789:;<=>?@ABCDEFGHIJKLMNOP"))) (mseq (mset 2 (m2 addSD (mvar 2) (mc (.str "QRSTUVWXYZ[\\]^_`abcdefghijklmnopqrstuvwxyz{|}~\n")))) (mseq (mset 3 (mix (sized (acons (mc (.str "0019 --")) (acons (mvar 2) anil))) (m2 modD (mcall m_Z12 (acons (mvar 0) (acons (mvar 1) anil))) (mc (.int 2))))) (mret (m2 ixSD (mvar 3) (m2 modD (mcall m_Z12 (acons (mvar 0) (acons (m2 addD (mvar 1) (mc (.int 1))) anil))) (call1 lenF (acons (mvar 3) anil))))))))
noncomputable def m_Z14 : MF := runB 4 b_Z14
noncomputable def b_Z5 : MS := (mseq (mset 3 (m2 modD (mcall m_Z12 (acons (mvar 0) (acons (mvar 1) anil))) (m2 addD (call1 lenF (acons (mvar 2) anil)) (mc (.int 1))))) (mseq (mset 4 (m2 modD (mcall m_Z12 (acons (mvar 0) (acons (m2 addD (mvar 1) (mc (.int 1))) anil))) (mc (.int 6)))) (mseq (msetF 5 (msplF (mvar 2) (mc (.str " ")))) (mseq (mset 6 (m2 modD (mcall m_Z12 (acons (mvar 0) (acons (m2 addD (mvar 1) (mc (.int 2))) anil))) (mlen (bvar 5)))) (mseq (mset 7 (mlst (sized (acons (mc (.str "0")) (acons (mc (.str "-0")) (acons (mc (.str "00")) (acons (mc (.str "01")) (acons (mc (.str "-01")) (acons (mc (.str "+1")) (acons (mc (.str "")) (acons (mc (.str "-")) (acons (mc (.str "--1")) (acons (mc (.str "1-")) (acons (mc (.str "none")) (acons (mc (.str "nones")) (acons (mc (.str "None")) (acons (mc (.str "1_0")) (acons (mc (.str "1.0")) (acons (mc (.str "x")) anil))))))))))))))))))) (mseq (mset 7 (mlst (mcat (bvar 7) (sized (acons (m2 mulSD (mc (.str "1")) (mc (.int 30))) (acons (m2 mulSD (mc (.str "1")) (mc (.int 31))) (acons (m2 addSD (mc (.str "-")) (m2 mulSD (mc (.str "9")) (mc (.int 30)))) (acons (m2 addSD (mc (.str "-")) (m2 mulSD (mc (.str "9")) (mc (.int 31)))) (acons (m2 mulSD (mc (.str "0")) (mc (.int 31))) (acons (m2 mulSD (mc (.str "-1")) (mc (.int 2))) anil)))))))))) (mseq (mset 8 (mix (bvar 7) (m2 modD (mcall m_Z12 (acons (mvar 0) (acons (m2 addD (mvar 1) (mc (.int 3))) anil))) (mlen (bvar 7))))) (mseq (mif (mtest (m2 eqSD (mvar 4) (mc (.int 0)))) (mret (m2 addSD (mcutS (mvar 2) onone (osome (mvar 3))) (mcutS (mvar 2) (osome (m2 addD (mvar 3) (mc (.int 1)))) onone))) mnext) (mseq (mif (mtest (m2 ltD (mvar 4) (mc (.int 3)))) (mret (m2 addSD (m2 addSD (mcutS (mvar 2) onone (osome (mvar 3))) (mcall m_Z14 (acons (mvar 0) (acons (m2 addD (mvar 1) (mc (.int 4))) anil)))) (mcutS (mvar 2) (osome (m2 subD (m2 addD (mvar 3) (mvar 4)) (mc (.int 1)))) onone))) mnext) (mseq (mif (mtest (m2 eqSD (mvar 4) (mc (.int 3)))) (mpopAt 5 (mvar 6)) (mif (mtest (m2 eqSD (mvar 4) (mc (.int 4)))) (msetix 5 (mvar 6) (mvar 8)) (mins 5 (mvar 6) (mvar 8)))) (mfreeze 5 (mret (mmeth joinF (mc (.str " ")) (acons (mvar 5) anil))))))))))))))
noncomputable def m_Z5 : MF := runB 9 b_Z5
noncomputable def b_Z4 : MS := (mseq (mset 1 (mvar 0)) (mseq (mif (mtest (m2 eqSD (mcutS (mvar 0) onone (osome (mc (.int 1)))) (mc (.str "-")))) (mset 1 (mcutS (mvar 0) (osome (mc (.int 1))) onone)) mnext) (mseq (mif (cor (cnot (mtest (mchain leD leD (mc (.int 1)) (call1 lenF (acons (mvar 1) anil)) (mc (.int 30))))) (mtest (meqB true (mcomp [none] (aschr (mvar 1)) (.nm 0) (mtest (m2 ninSD (mvar 0) (mc (.str "0123456789")))) (mvar 0)) (sized anil)))) (mret (mc .non)) mnext) (mseq (mif (cand (mtest (m2 eqSD (m2 ixSD (mvar 1) (mc (.int 0))) (mc (.str "0")))) (mtest (m2 neSD (mvar 0) (mc (.str "0"))))) (mret (mc .non)) mnext) (mret (call1 intTF (acons (mvar 0) anil)))))))
noncomputable def m_Z4 : MF := runB 2 b_Z4
noncomputable def b_Z11 : MS := (mseq (mset 1 (mc .non)) (mseq (mtry ["NoText"] (mset 1 (mcall m_Z13 (acons (mvar 0) anil))) (xE (xcall xm_Z13 (acons (mvar 0) anil))) 2 (mset 1 (mix (sized (acons (mc (.str "other")) (acons (mc (.str "text")) anil))) (call1 intF (acons (meqB false (aslst (mcall m_Z7 (acons (mvar 2) anil))) (mcomp [none] (mlist rng1 (acons (mc (.int 8)) anil)) (.nm 0) cyes (m2 eqSD (mvar 0) (mc (.int 4))))) anil))))) (mretO 1)))
noncomputable def m_Z11 : MF := runB 3 b_Z11
noncomputable def b_Z8 : MS := (mseq (mset 1 (mlst (mcomp [none] (aslst (mmeth splitF (mvar 0) (acons (mc (.str " ")) anil))) (.nm 0) cyes (mcall m_Z4 (acons (mvar 0) anil))))) (mseq (mif (mtest (m2 eqSD (mvar 0) (mc (.str "none")))) (mset 1 (mlst (sized anil))) mnext) (mseq (mif (mtest (m2 (inD false) (mc .non) (mvar 1))) (mset 1 (mc (.str "text"))) mnext) (mret (mand (mcall m_Z3 (acons (mcall m_Z11 (acons (mvar 0) anil)) (acons (mvar 1) anil))) (mcall m_Z3 (acons (mcall m_Z11 (acons (mvar 0) anil)) (acons (mvar 1) anil))))))))
noncomputable def m_Z8 : MF := runB 2 b_Z8
noncomputable def b_Z15_f0 : MS := (mseq (mset 4 (mcall m_Z5 (acons (mvar 1) (acons (m2 addD (mc (.int 400)) (m2 mulD (mc (.int 20)) (mvar 3))) (acons (mvar 2) anil))))) (mif (cor (cnot (mtru (mcall m_Z8 (acons (mvar 4) anil)))) (cnot (mtru (mcall m_Z8 (acons (mcall m_Z5 (acons (mvar 1) (acons (m2 addD (mc (.int 410)) (m2 mulD (mc (.int 20)) (mvar 3))) (acons (mvar 4) anil)))) anil))))) (mret (mc (.bl false))) mnext))
noncomputable def b_Z15_f1 : MS := (mseq (mset 2 (mcall m_Z10 (acons (mcall m_Z2 (acons (mvar 1) (acons (mc (.int 40)) anil))) anil))) (mfor (mlist rng1 (acons (mc (.int 5)) anil)) (.nm 3) b_Z15_f0))
noncomputable def b_Z15_r2 : MS := (mseq (mset 5 (mlst (sized (acons (mc (.str "")) (acons (mc (.str " ")) (acons (mc (.str "0")) (acons (mc (.str "-0")) (acons (mc (.str "00")) (acons (mc (.str "none")) (acons (mc (.str "none ")) (acons (mc (.str " none")) (acons (mc (.str "none 1")) (acons (mc (.str "1 none")) (acons (mc (.str "None")) (acons (mc (.str "1 ")) (acons (mc (.str " 1")) (acons (mc (.str "1  2")) (acons (mc (.str "1\n")) anil)))))))))))))))))) (mseq (mset 5 (mlst (mcat (bvar 5) (sized (acons (mc (.str "1\n2")) (acons (mc (.str "-")) (acons (mc (.str "--1")) (acons (mc (.str "+1")) (acons (mc (.str "1-")) (acons (mc (.str "1,2")) (acons (mc (.str "1 -2")) (acons (m2 mulSD (mc (.str "1")) (mc (.int 30))) (acons (m2 mulSD (mc (.str "1")) (mc (.int 31))) (acons (m2 mulSD (mc (.str "0")) (mc (.int 30))) (acons (m2 addSD (mc (.str "-")) (m2 mulSD (mc (.str "1")) (mc (.int 31)))) anil))))))))))))))) (mret (meqB false (mcomp [none] (aslst (mvar 5)) (.nm 0) (cnot (mtru (mcall m_Z8 (acons (mvar 0) anil)))) (mvar 0)) (sized anil)))))
noncomputable def b_Z15 : MS := (mseq (mfor (aslst (mcall m_Z6 (acons (mvar 0) (acons (mc (.int 6)) anil)))) (.nm 1) b_Z15_f1) b_Z15_r2)
noncomputable def m_Z15 : MF := runB 6 b_Z15
end
end
section
theorem eqS_ii (i j : Int) : eqS (.int i) (.int j) = some (i == j) := rfl
theorem eqS_bb (i j : Bool) : eqS (.bl i) (.bl j) = some (i == j) := rfl
theorem eqS_ss (i j : Str) : eqS (.str i) (.str j) = some (i == j) := rfl
theorem eqS_nn : eqS .non .non = some true := rfl
theorem eqS_nb (j : Bool) : eqS .non (.bl j) = some false := rfl
theorem eqS_bn (j : Bool) : eqS (.bl j) .non = some false := rfl
theorem eqS_ni (j : Int) : eqS .non (.int j) = some false := rfl
theorem eqS_in (j : Int) : eqS (.int j) .non = some false := rfl
local macro_rules | `(tactic| simp_arith [$ls,*]) => `(tactic| simp (config := {decide := true, implicitDefEqProofs := false}) only [runB, startS, map_cons, map_nil, length_cons, length_nil, List.replicate, cons_append, nil_append, mvar, bvar, mc, mlst, aslst, m2, mtest, subD, mulD, fdivD, modD, powD, shrD, ltD, leD, gtD, geD, eqSD, neSD, eqS_ii, eqS_bb, eqS_ss, eqS_nn, eqS_nb, eqS_bn, eqS_ni, eqS_in, m1, negD, notD, mand, mor, mtru, truD, cand, cor, cnot, anil, acons, sized, mlen, mix, onone, osome, mcut, mcat, addD, call1, lenF, max2F, min2F, two2, intF, mnext, mseq, mif, mnever, mset, msetF, mret, mretF, mretO, mapp, msetix, mfreeze, mmeth, mmeth0, mcutS, strF, intTF, joinF, startsF, remPF, splitF, addSD, mlist, zip2, cyes, mcall, meqB, misi, tyD, int2, bl2, tgD, setAll, Option.bind_some, Option.map_some, Option.bind_none, Option.map_none, getElem?_cons_zero, getElem?_cons_succ, set_cons_zero, set_cons_succ, isEmpty_cons, isEmpty_nil, Bool.not_true, Bool.not_false, $ls,*])
noncomputable def stir (c k : Int) : Int := if 10 ^ 18 <= c then (c - 10 ^ 18) / 2 ^ (28 * k).toNat % 2 ^ 28 else
 (((c + 1013 * k + 1) * 16807 % 2147483647) * ((c + 1013 * k + 1) * 16807 % 2147483647) % 2147483629) * 39373 % 2147483587 / 8
theorem stir_nonneg (c k : Int) : 0 <= stir c k := by
 unfold stir
 split
 ·exact Int.emod_nonneg _ (by decide)
 ·exact Int.ediv_nonneg (Int.emod_nonneg _ (by decide)) (by decide)
theorem stir_lt (c k : Int) : stir c k < 2 ^ 28 := by
 unfold stir
 split
 ·exact Int.emod_lt_of_pos _ (by decide)
 ·have := Int.emod_lt_of_pos ((((c + 1013 * k + 1) * 16807 % 2147483647) * ((c + 1013 * k + 1) * 16807 % 2147483647) % 2147483629) * 39373) (show (0:Int) < 2147483587 by decide)
  omega
theorem mulOk_r (i j : Int) (h1 : -(2 ^ 64) < j) (h2 : j < 2 ^ 64) : mulOk i j = true := by
 unfold mulOk; simp only [h1, h2, decide_true, Bool.and_self, Bool.or_true]
theorem mulOk_l (i j : Int) (h1 : -(2 ^ 64) < i) (h2 : i < 2 ^ 64) : mulOk i j = true := by
 unfold mulOk; simp only [h1, h2, decide_true, Bool.and_self, Bool.true_or]
theorem modOk_of (i j : Int) (h : 0 < j) : modOk i j = true := by unfold modOk; simp only [h, decide_true]
theorem seqI {x y : MS} {ρ ρ' : Ro} {o : Option Out} (h : x ρ = some (.nx ρ')) (h2 : y ρ' = o) : mseq x y ρ = o := by
 unfold mseq; rw [h]; exact h2
noncomputable def stepO {α : Type} (I : List α -> Ro -> Prop) (Q : Out -> Prop) (ds : List α) : Out -> Prop
 | .nx ρ => I ds ρ | .ct ρ => I ds ρ | .bk ρ => Q (.nx ρ) | .rt d => Q (.rt d) | .rf es => Q (.rf es) | .rp d es => Q (.rp d es) | .rg d p r => Q (.rg d p r) | .rgf d p r => Q (.rgf d p r)
theorem forD_post {α : Type} {g : Tg} {body : MS} {f : α -> D} (I : List α -> Ro -> Prop) (Q : Out -> Prop)
  (hs : ∀ d ds ρ, I (d :: ds) ρ -> ∃ ρ1 o, tgD g (f d) ρ = some ρ1 /\ body ρ1 = some o /\ stepO I Q ds o) (hd : ∀ ρ, I [] ρ -> Q (.nx ρ)) :
  ∀ (ds : List α) (ρ : Ro), I ds ρ -> ∃ o, forD g body (ds.map f) ρ = some o /\ Q o
 | [], ρ, h => ⟨.nx ρ, rfl, hd ρ h⟩
 | d :: ds, ρ, h => by
  obtain ⟨ρ1, o, h1, h2, h3⟩ := hs d ds ρ h
  rw [map_cons]
  unfold forD
  rw [h1]
  simp only [h2]
  cases o with
  | nx ρ2 => exact forD_post I Q hs hd ds ρ2 h3
  | ct ρ2 => exact forD_post I Q hs hd ds ρ2 h3
  | bk ρ2 => exact ⟨_, rfl, h3⟩
  | rt d => exact ⟨_, rfl, h3⟩
  | rf d => exact ⟨_, rfl, h3⟩
  | rp d es => exact ⟨_, rfl, h3⟩
  | rg d p r => exact ⟨_, rfl, h3⟩
  | rgf d p r => exact ⟨_, rfl, h3⟩
theorem compD_map {α : Type} {g : Tg} {c : MB} {elt : ME} {f : α -> D} {G : α -> D} (I : List α -> Ro -> Prop)
  (hs : ∀ d ds ρ, I (d :: ds) ρ -> ∃ ρ1, tgD g (f d) ρ = some ρ1 /\ c ρ1 = some true /\ elt ρ1 = some (G d) /\ I ds ρ1) :
  ∀ (ds : List α) (ρ : Ro) (acc : List D), I ds ρ -> acc.length + ds.length <= sizeLine -> compD g c elt (ds.map f) ρ acc = some (acc ++ ds.map G)
 | [], ρ, acc, h, hl => by simp [compD]
 | d :: ds, ρ, acc, h, hl => by
  obtain ⟨ρ1, h1, h2, h3, h4⟩ := hs d ds ρ h
  rw [map_cons]
  unfold compD
  rw [h1]
  simp only [h2, h3]
  rw [length_cons] at hl
  rw [if_pos (by omega), compD_map I hs ds ρ1 _ h4 (by simp; omega)]
  simp
noncomputable def cutI {α : Type} (xs : List α) (lo hi : Option Int) : List α := (xs.drop (HT.sIx xs.length 0 lo)).take (HT.sIx xs.length xs.length hi - HT.sIx xs.length 0 lo)
theorem cutL_map {α : Type} (f : α -> D) (xs : List α) (lo hi : Option Int) : cutL (xs.map f) lo hi = (cutI xs lo hi).map f := by
 unfold cutL cutI; rw [length_map, <- map_drop, <- map_take]
theorem cutI_to {α : Type} (xs : List α) (k : Nat) : cutI xs none (some (k : Int)) = xs.take k := by
 unfold cutI
 rw [HT.sIx_nat, HT.sIx_none]
 simp
theorem runB_rt {n : Nat} {m : MS} {ds : List D} {d : D} (h : m (startS n ds) = some (.rt d)) : runB n m ds = some (.sh d) := by unfold runB; rw [h]
theorem runB_rf {n : Nat} {m : MS} {ds : List D} {d : List D} (h : m (startS n ds) = some (.rf d)) : runB n m ds = some (.fr d) := by unfold runB; rw [h]
noncomputable def after (rest : MS) : Out -> Option Out
 | .nx ρ => rest ρ | .bk ρ => some (.bk ρ) | .ct ρ => some (.ct ρ) | .rt d => some (.rt d) | .rf d => some (.rf d) | .rp d es => some (.rp d es) | .rg d p r => some (.rg d p r) | .rgf d p r => some (.rgf d p r)
theorem seq_after {x y : MS} {ρ : Ro} {o : Out} (h : x ρ = some o) : mseq x y ρ = after y o := by
 unfold mseq; rw [h]; cases o <;> rfl
theorem seq_for {α : Type} {mi : ML} {g : Tg} {body rest : MS} {ρ : Ro} {res : Option Out} {f : α -> D} (ds : List α) (hi : mi ρ = some (ds.map f)) (I : List α -> Ro -> Prop) (Q : Out -> Prop) (h0 : I ds ρ)
  (hs : ∀ d ds ρ, I (d :: ds) ρ -> ∃ ρ1 o, tgD g (f d) ρ = some ρ1 /\ body ρ1 = some o /\ stepO I Q ds o) (hd : ∀ ρ, I [] ρ -> Q (.nx ρ)) (hq : ∀ o, Q o -> after rest o = res) : mseq (mfor mi g body) rest ρ = res := by
 obtain ⟨o, e, q⟩ := forD_post (g := g) (body := body) I Q hs hd ds ρ h0
 rw [seq_after (o := o) (by unfold mfor; rw [hi]; exact e)]
 exact hq o q
theorem max_if (i j : Int) : (if j > i then j else i) = max i j := by omega
theorem min_if (i j : Int) : (if j < i then j else i) = min i j := by omega
theorem size_big : 1000000 <= sizeLine := by rw [show sizeLine = 2 ^ 24 from rfl]; decide
theorem le_size {n : Nat} (h : n <= 1000000) : n <= sizeLine := Nat.le_trans h size_big
theorem range_cons (j n : Nat) (h : j < n) : List.range' j (n - j) = j :: List.range' (j + 1) (n - (j + 1)) := by
 have : n - j = (n - (j + 1)) + 1 := by omega
 rw [this, range'_succ]
theorem mod_cases {x n : Int} (hn : 0 < n) : 0 <= x % n /\ x % n < n := ⟨Int.emod_nonneg _ (by omega), Int.emod_lt_of_pos _ hn⟩
def Run (m : MS) (ρ : Ro) (R : Out -> Prop) : Prop := ∃ o, m ρ = some o /\ R o
noncomputable def afterR (rest : MS) (R : Out -> Prop) : Out -> Prop
 | .nx ρ => Run rest ρ R | .bk ρ => R (.bk ρ) | .ct ρ => R (.ct ρ) | .rt d => R (.rt d) | .rf d => R (.rf d) | .rp d es => R (.rp d es) | .rg d p r => R (.rg d p r) | .rgf d p r => R (.rgf d p r)
theorem run_seq {x y : MS} {ρ ρ' : Ro} {R : Out -> Prop} (h : x ρ = some (.nx ρ')) (h2 : Run y ρ' R) : Run (mseq x y) ρ R := by
 obtain ⟨o, e, r⟩ := h2
 exact ⟨o, seqI h e, r⟩
theorem run_mseq {x y : MS} {ρ : Ro} {R : Out -> Prop} (h : Run x ρ (afterR y R)) : Run (mseq x y) ρ R := by
 obtain ⟨o, e, r⟩ := h
 cases o with
 | nx ρ' => exact run_seq e r
 | bk ρ' => exact ⟨_, seq_after e, r⟩
 | ct ρ' => exact ⟨_, seq_after e, r⟩
 | rt d => exact ⟨_, seq_after e, r⟩
 | rf d => exact ⟨_, seq_after e, r⟩
 | rp d es => exact ⟨_, seq_after e, r⟩
 | rg d p' r' => exact ⟨_, seq_after e, r⟩
 | rgf d p' r' => exact ⟨_, seq_after e, r⟩
theorem run_for {α : Type} {mi : ML} {g : Tg} {body : MS} {ρ : Ro} {f : α -> D} (ds : List α) (hi : mi ρ = some (ds.map f)) (I : List α -> Ro -> Prop) (Q : Out -> Prop) (h0 : I ds ρ)
  (hs : ∀ d ds ρ, I (d :: ds) ρ -> ∃ ρ1, tgD g (f d) ρ = some ρ1 /\ Run body ρ1 (stepO I Q ds)) (hd : ∀ ρ, I [] ρ -> Q (.nx ρ)) : Run (mfor mi g body) ρ Q := by
 obtain ⟨o, e, q⟩ := forD_post (g := g) (body := body) I Q (fun d ds ρ h => by obtain ⟨ρ1, a, o, b, c⟩ := hs d ds ρ h; exact ⟨ρ1, o, a, b, c⟩) hd ds ρ h0
 exact ⟨o, by unfold mfor; rw [hi]; exact e, q⟩
theorem run_forN {mi : ML} {g : Tg} {body : MS} {ρ : Ro} {f : Nat -> D} (n : Nat) (hi : mi ρ = some ((List.range n).map f)) (I : Nat -> Ro -> Prop) (Q : Out -> Prop) (h0 : I 0 ρ)
  (hs : ∀ j ρ, j < n -> I j ρ -> ∃ ρ1, tgD g (f j) ρ = some ρ1 /\ Run body ρ1 (stepO (fun (_ : List Unit) ρ => I (j + 1) ρ) Q [])) (hd : ∀ ρ, I n ρ -> Q (.nx ρ)) : Run (mfor mi g body) ρ Q := by
 refine run_for (List.range n) hi (I := fun ks ρ => ∃ j, j <= n /\ ks = List.range' j (n - j) /\ I j ρ) (Q := Q) ⟨0, by omega, by rw [range_eq_range']; rfl, h0⟩ ?_ ?_
 ·rintro d ds ρ ⟨j, hj, e, h⟩
  have hlt : j < n := by
   rcases Nat.lt_or_ge j n with z | z
   ·exact z
   ·rw [show n - j = 0 by omega] at e; cases e
  rw [range_cons j n hlt] at e
  obtain ⟨e1, e2⟩ := List.cons.inj e
  subst e1
  obtain ⟨ρ1, a1, o, a2, a3⟩ := hs d ρ hlt h
  refine ⟨ρ1, a1, o, a2, ?_⟩
  cases o with
  | nx r => exact ⟨d + 1, by omega, e2, a3⟩
  | ct r => exact ⟨d + 1, by omega, e2, a3⟩
  | bk r => exact a3
  | rt r => exact a3
  | rf r => exact a3
  | rp r r2 => exact a3
  | rg r r2 r3 => exact a3
  | rgf r r2 r3 => exact a3
 ·rintro ρ ⟨j, hj, e, h⟩
  have : n - j = 0 := by
   rcases Nat.eq_zero_or_pos (n - j) with z | z
   ·exact z
   ·rw [range_cons j n (by omega)] at e; cases e
  have : j = n := by omega
  subst this
  exact hd ρ h
theorem run_if {c : MB} {x y : MS} {ρ : Ro} {R : Out -> Prop} {b : Bool} (h : c ρ = some b) (h2 : Run (if b then x else y) ρ R) : Run (mif c x y) ρ R := by
 obtain ⟨o, e, r⟩ := h2
 refine ⟨o, ?_, r⟩
 unfold mif; rw [h]
 cases b <;> exact e
theorem nat_of {x : Int} (h : 0 <= x) : ∃ n : Nat, x = n := ⟨x.toNat, by omega⟩
theorem rangeD_map (lo : Int) (n : Nat) : rangeD lo n = (List.range n).map fun (i : Nat) => D.int (lo + (i : Int)) := rfl
theorem rangeD_li (n : Nat) : rangeD 0 n = ((List.range n).map fun (i : Nat) => (i : Int)).map .int := by
 rw [rangeD_map, map_map]
 apply map_congr_left
 intro i _
 simp
theorem okR_of {j : Int} (h1 : -(2 ^ 62) <= j) (h2 : j < 2 ^ 62) : okR j = true := by unfold okR; simp only [h1, h2, decide_true, Bool.and_self]
theorem rng1_ok {j : Int} (h : okR j = true) : rng1 [.int j] = some (rangeD 0 j.toNat) := by
 unfold rng1
 simp only [h, if_true]
theorem runB_rfR {n : Nat} {m : MS} {ds : List D} {P : List D -> Prop} (h : Run m (startS n ds) (fun o => ∃ es, o = .rf es /\ P es)) : ∃ es, runB n m ds = some (.fr es) /\ P es := by
 obtain ⟨o, e, es, rfl, p⟩ := h
 exact ⟨es, runB_rf e, p⟩
theorem run_retO {i : Nat} {ρ : Ro} {ds : List D} {R : Out -> Prop} (h : ρ[i]? = some (some (.own ds))) (h2 : R (.rf ds)) : Run (mretO i) ρ R := ⟨_, by unfold mretO; rw [h], h2⟩
theorem fdivOk_of (i j : Int) (h : 0 < j) (h2 : j < 1073741824) : fdivOk i j = true := by unfold fdivOk; simp only [h, h2, decide_true, Bool.and_self]
theorem at4 (a b c d : Int) (k : Int) (h0 : 0 <= k) (h1 : k < 4) : ∃ x, atI [D.int a, .int b, .int c, .int d] k = some (.int x) /\ (x = a \/ x = b \/ x = c \/ x = d) := by
 have : k = 0 \/ k = 1 \/ k = 2 \/ k = 3 := by omega
 rcases this with h | h | h | h <;> subst h
 ·exact ⟨_, rfl, by simp⟩
 ·exact ⟨_, rfl, by simp⟩
 ·exact ⟨_, rfl, by simp⟩
 ·exact ⟨_, rfl, by simp⟩
theorem eq_nilF (ds : List D) : eqFD false (.lst ds) (.lst []) = some (.bl ds.isEmpty) := by
 unfold eqFD eqF
 cases ds with
 | nil => rfl
 | cons d ds => rfl
theorem eq_nilT (ds : List D) : eqFD true (.lst ds) (.lst []) = some (.bl (!ds.isEmpty)) := by
 unfold eqFD eqF
 cases ds with
 | nil => rfl
 | cons d ds => rfl
theorem ixN_in {n : Nat} {k : Int} (h0 : 0 <= k) (h1 : k < n) : ixN n k = some k.toNat := by unfold ixN; rw [if_pos h0, if_pos h1]
theorem runB_run {n : Nat} {m : MS} {ds : List D} {d : D} (h : Run m (startS n ds) (fun o => o = .rt d)) : runB n m ds = some (.sh d) := by
 obtain ⟨o, e, rfl⟩ := h
 exact runB_rt e
theorem mcall_fr {f : MF} {m : ML} {ρ : Ro} {ds es : List D} (h : m ρ = some ds) (h2 : f ds = some (.fr es)) : mcall f m ρ = some (.lst es) := by
 unfold mcall; rw [h]; show (match f ds with | some (.sh d) => some d | some (.fr es) => some (D.lst es) | some (.pr d es) => some (.tup [d, .lst es]) | none => none) = _; rw [h2]
theorem mcall_sh {f : MF} {m : ML} {ρ : Ro} {ds : List D} {d : D} (h : m ρ = some ds) (h2 : f ds = some (.sh d)) : mcall f m ρ = some d := by
 unfold mcall; rw [h]; show (match f ds with | some (.sh d) => some d | some (.fr es) => some (D.lst es) | some (.pr d es) => some (.tup [d, .lst es]) | none => none) = _; rw [h2]
theorem acons_ev {x : ME} {r : ML} {ρ : Ro} {d : D} {ds : List D} (h : x ρ = some d) (h2 : r ρ = some ds) : acons x r ρ = some (d :: ds) := by
 unfold acons; rw [h, h2]; rfl
theorem anil_ev {ρ : Ro} : anil ρ = some [] := rfl
theorem compD_filter {α : Type} {g : Tg} {c : MB} {elt : ME} {f : α -> D} {p : α -> Bool} {G : α -> D} (I : List α -> Ro -> Prop)
  (hs : ∀ d ds ρ, I (d :: ds) ρ -> ∃ ρ1, tgD g (f d) ρ = some ρ1 /\ c ρ1 = some (p d) /\ (p d = true -> elt ρ1 = some (G d)) /\ I ds ρ1) :
  ∀ (ds : List α) (ρ : Ro) (acc : List D), I ds ρ -> acc.length + ds.length <= sizeLine -> compD g c elt (ds.map f) ρ acc = some (acc ++ (ds.filter p).map G)
 | [], ρ, acc, h, hl => by simp [compD]
 | d :: ds, ρ, acc, h, hl => by
  obtain ⟨ρ1, h1, h2, h3, h4⟩ := hs d ds ρ h
  rw [length_cons] at hl
  rw [map_cons]
  unfold compD
  rw [h1]
  simp only [h2]
  cases hp : p d with
  | false =>
   simp only
   rw [compD_filter I hs ds ρ1 acc h4 (by omega), filter_cons, hp]
   rfl
  | true =>
   simp only [h3 hp]
   rw [if_pos (by omega), compD_filter I hs ds ρ1 _ h4 (by simp; omega), filter_cons, hp]
   simp
theorem cor_ev {x y : MB} {ρ : Ro} {a b : Bool} (h1 : x ρ = some a) (h2 : y ρ = some b) : cor x y ρ = some (a || b) := by
 unfold cor; rw [h1]; cases a <;> simp [h2]
theorem cand_ev {x y : MB} {ρ : Ro} {a b : Bool} (h1 : x ρ = some a) (h2 : y ρ = some b) : cand x y ρ = some (a && b) := by
 unfold cand; rw [h1]; cases a <;> simp [h2]
theorem mset_ev {i : Nat} {x : ME} {ρ : Ro} {d : D} (h : x ρ = some d) : mset i x ρ = some (.nx (ρ.set i (some (.sh d)))) := by unfold mset; rw [h]; rfl
theorem mlst_ev {m : ML} {ρ : Ro} {ds : List D} (h : m ρ = some ds) : mlst m ρ = some (.lst ds) := by unfold mlst; rw [h]; rfl
theorem sized_ev {m : ML} {ρ : Ro} {ds : List D} (h : m ρ = some ds) (hz : ds.length <= sizeLine) : sized m ρ = some ds := by
 unfold sized; rw [h]; show (if ds.length <= sizeLine then some ds else none) = _; rw [if_pos hz]
theorem mix_ev {m : ML} {i : ME} {ρ : Ro} {ds : List D} {k : Int} {d : D} (h1 : m ρ = some ds) (h2 : i ρ = some (.int k)) (h3 : atI ds k = some d) : mix m i ρ = some d := by
 unfold mix; rw [h1, h2]; exact h3
theorem eqB_nilD {m : ML} {ρ : Ro} {ds : List D} (h : m ρ = some ds) (neg : Bool) : meqB neg m (sized anil) ρ = some (.bl (if neg then !ds.isEmpty else ds.isEmpty)) := by
 have i0 : 0 <= sizeLine := Nat.zero_le _
 have e : sized anil ρ = some [] := by simp_arith [i0, if_true]
 unfold meqB
 rw [h, e]
 cases neg
 ·simp only [Option.bind_some, eq_nilF]; rfl
 ·simp only [Option.bind_some, eq_nilT]; rfl
theorem aslst_ev {m : ME} {ρ : Ro} {ds : List D} (h : m ρ = some (.lst ds)) : aslst m ρ = some ds := by unfold aslst; rw [h]
theorem mcat_ev {x y : ML} {ρ : Ro} {ds es : List D} (h1 : x ρ = some ds) (h2 : y ρ = some es) (hz : ds.length + es.length <= sizeLine) : mcat x y ρ = some (ds ++ es) := by
 unfold mcat; rw [h1, h2]; show (if ds.length + es.length <= sizeLine then some (ds ++ es) else none) = _; rw [if_pos hz]
theorem mret_ev {x : ME} {ρ : Ro} {d : D} (h : x ρ = some d) : mret x ρ = some (.rt d) := by unfold mret; rw [h]; rfl
theorem ks_ls : kitB "list" "str" = some false := by decide +kernel
theorem ks_is : kitB "int" "str" = some false := by decide +kernel
theorem ks_ll : kitB "list" "list" = some true := by decide +kernel
theorem ks_ii : kitB "int" "int" = some true := by decide +kernel
theorem ks_ib : kitB "int" "bool" = some false := by decide +kernel
theorem k2_i : kitB2 "int" "list" "tuple" = some false := by decide +kernel
theorem k2_l : kitB2 "list" "list" "tuple" = some true := by decide +kernel
theorem zip_self {α : Type} (f : α -> D) : ∀ xs : List α, List.zipWith (fun d e => D.tup [d, e]) (xs.map f) (xs.map f) = xs.map fun x => D.tup [f x, f x]
 | [] => rfl
 | x :: xs => by rw [map_cons, zipWith_cons_cons, zip_self f xs]; rfl
theorem filter_none {α : Type} (xs : List α) : xs.filter (fun _ => false) = [] := by
 induction xs with
 | nil => rfl
 | cons x xs ih => rw [filter_cons]; exact ih
section
open PySem L2
theorem try_ok {names : List Str} {mb ms : MS} {xb : MXs} {i : Nat} {ρ : Ro} {o : Out} (h : mb ρ = some o) : mtry names mb xb i ms ρ = some o := by unfold mtry; rw [h]
theorem try_x {names : List Str} {mb ms : MS} {xb : MXs} {i : Nat} {ρ ρ1 ρ2 : Ro} {c : Str} (h : mb ρ = none) (hx : xb ρ = some (c, ρ1)) (hc : c ∈ names) (hs : ms (ρ1.set i (some (.sh (.exc c)))) = some (.nx ρ2)) : mtry names mb xb i ms ρ = some (.nx (ρ2.set i none)) := by
 unfold mtry
 rw [h, hx]
 dsimp only
 rw [if_pos hc, hs]
theorem mif_ev {c : MB} {x y : MS} {ρ : Ro} {b : Bool} (h : c ρ = some b) : mif c x y ρ = (if b then x else y) ρ := by unfold mif; rw [h]; cases b <;> rfl
theorem xif_ev {c : MB} {x y : MXs} {ρ : Ro} {b : Bool} (h : c ρ = some b) : xif c x y ρ = (if b then x else y) ρ := by unfold xif; rw [h]; cases b <;> rfl
theorem mcall_no {f : MF} {m : ML} {ρ : Ro} {ds : List D} (h : m ρ = some ds) (h2 : f ds = none) : mcall f m ρ = none := by unfold mcall; rw [h]; show (match f ds with | some (.sh d) => some d | some (.fr es) => some (.lst es) | some (.pr d es) => some (.tup [d, .lst es]) | none => none) = _; rw [h2]
theorem xcall_ev {x : MFX} {m : ML} {ρ : Ro} {ds : List D} {c : Str} (h : m ρ = some ds) (h2 : x ds = some c) : xcall x m ρ = some c := by unfold xcall; rw [h]; exact h2
theorem xE_ev {x : MXe} {ρ : Ro} {c : Str} (h : x ρ = some c) : xE x ρ = some (c, ρ) := by unfold xE; rw [h]; rfl
theorem runX_ev {n : Nat} {x : MXs} {ds : List D} {c : Str} {ρ : Ro} (h : x (startS n ds) = some (c, ρ)) : runX n x ds = some c := by unfold runX; rw [h]; rfl
theorem xraise_ev {c : Str} {m : ML} {ρ : Ro} {ds : List D} (h : m ρ = some ds) : xraise c m ρ = some (c, ρ) := by unfold xraise; rw [h]; rfl
theorem xseq_nx {m : MS} {x1 x2 : MXs} {ρ ρ' : Ro} (h : m ρ = some (.nx ρ')) : xseq m x1 x2 ρ = x2 ρ' := by unfold xseq; rw [h]
theorem mseq_no {x y : MS} {ρ : Ro} (h : x ρ = none) : mseq x y ρ = none := by unfold mseq; rw [h]
theorem runB_no {n : Nat} {m : MS} {ds : List D} (h : m (startS n ds) = none) : runB n m ds = none := by unfold runB; rw [h]
theorem misX_ev {tab : List (Str × Bool)} {m : ME} {ρ : Ro} {c : Str} {k : Bool} (h : m ρ = some (.exc c)) (h2 : tab.lookup c = some k) : misX tab m ρ = some (.bl k) := by unfold misX; rw [h]; simp only [h2]; rfl
theorem tI_ev {x : ME} {ρ : Ro} {i k : Int} (h : x ρ = some (.int i)) : mtest (m2 eqSD x (mc (.int k))) ρ = some (i == k) := by unfold mtest m2 mc; rw [h]; rfl
theorem tLt_ev {x y : ME} {ρ : Ro} {i k : Int} (h : x ρ = some (.int i)) (h2 : y ρ = some (.int k)) : mtest (m2 ltD x y) ρ = some (decide (i < k)) := by unfold mtest m2; rw [h, h2]; rfl
end
section
open PySem L2
noncomputable def cl (x : Str) : List Nat := x.cps.toList
theorem cl_ext {x y : Str} (h : cl x = cl y) : x = y := by
 cases x with | mk a => cases y with | mk b => exact congrArg Str.mk (Array.toList_inj.mp h)
theorem cl_app (x y : Str) : cl (x ++ y) = cl x ++ cl y := by
 unfold cl; rw [PySem.Str.cps_append, Array.toList_append]
theorem cl_len (x : Str) : (cl x).length = x.length := Array.length_toList
noncomputable def tS (n : Int) : Str := Str.ofString (toString n)
def fine (n : Int) : Prop := n.natAbs < 10 ^ 30
theorem fine_log {n : Int} (h : fine n) : n.natAbs.log2 < 1920 := by
 unfold fine at h
 rcases Nat.eq_zero_or_pos n.natAbs with z | z
 ·rw [z]; decide
 ·rw [Nat.log2_lt (by omega)]
  have h1 : (10 : Nat) ^ 30 <= 2 ^ 100 := by decide
  have h2 : (2 : Nat) ^ 100 <= 2 ^ 1920 := Nat.pow_le_pow_right (by decide) (by decide)
  exact Nat.lt_of_lt_of_le h (Nat.le_trans h1 h2)
theorem tS_len {n : Int} (h : fine n) : (tS n).length <= 31 := by
 unfold tS
 rw [ofString_length]
 exact int_text_length_le10 (by decide) h
noncomputable def led : List Int -> List Nat
 | [] => []
 | n :: ns => 32 :: (cl (tS n) ++ led ns)
theorem led_join : ∀ (n : Int) (ns : List Int), led (n :: ns) = 32 :: cl (Str.join " " ((n :: ns).map tS))
 | n, [] => by
  show 32 :: (cl (tS n) ++ []) = 32 :: cl (tS n)
  rw [append_nil]
 | n, m :: ns => by
  have ih := led_join m ns
  show 32 :: (cl (tS n) ++ led (m :: ns)) = 32 :: cl (tS n ++ " " ++ Str.join " " ((m :: ns).map tS))
  rw [ih, cl_app, cl_app, append_assoc]
  rfl
theorem led_app : ∀ (a b : List Int), led (a ++ b) = led a ++ led b
 | [], b => rfl
 | n :: a, b => by
  show 32 :: (cl (tS n) ++ led (a ++ b)) = 32 :: (cl (tS n) ++ led a) ++ led b
  rw [led_app a b]; simp
theorem led_len : ∀ {ns : List Int}, (∀ n ∈ ns, fine n) -> (led ns).length <= 32 * ns.length
 | [], _ => by simp [led]
 | n :: ns, h => by
  have h1 := tS_len (h n (by simp))
  have ih := led_len (ns := ns) fun m hm => h m (by simp [hm])
  simp only [led, length_cons, length_append, cl_len]
  omega
theorem slice1 {x : Str} {c : Nat} {r : List Nat} (h : cl x = c :: r) : cl (Txt.slice x (some 1) none) = r := by
 have hl : x.length = r.length + 1 := by rw [<- cl_len, h]; rfl
 rw [PyProof.Rows.slice_from_eq (b := x.length) (by decide) (by omega) rfl]
 show ((((x.cps.toList.drop 1).take ((x.length : Int) - 1).toNat)).toArray).toList = r
 rw [show x.cps.toList = c :: r from h, drop_succ_cons, drop_zero, toList_toArray, take_of_length_le (by omega)]
noncomputable def txt (ns : List Int) : Str := if ns = [] then "none" else Str.join " " (ns.map tS)
theorem txt_cons (n : Int) (ns : List Int) : txt (n :: ns) = Str.join " " ((n :: ns).map tS) := by
 unfold txt; rw [if_neg (by simp)]
theorem txt_nil : txt [] = "none" := by unfold txt; rw [if_pos rfl]
theorem strF_ev {n : Int} (h : fine n) : strF [.int n] = some (.str (tS n)) := by
 show (if n.natAbs.log2 < 1920 then some (D.str (Str.ofString (toString n))) else none) = _
 rw [if_pos (fine_log h)]; rfl
theorem mmeth_ev {g : Str -> List D -> Option D} {x : ME} {m : ML} {ρ : Ro} {z : Str} {ds : List D} (h1 : x ρ = some (.str z)) (h2 : m ρ = some ds) : mmeth g x m ρ = g z ds := by
 unfold mmeth; rw [h1, h2]; rfl
theorem mmeth0_ev {g : Str -> Option D} {x : ME} {ρ : Ro} {z : Str} (h1 : x ρ = some (.str z)) : mmeth0 g x ρ = g z := by
 unfold mmeth0; rw [h1]; rfl
theorem call1_ev {f : List D -> Option D} {m : ML} {ρ : Ro} {ds : List D} (h : m ρ = some ds) : call1 f m ρ = f ds := by
 unfold call1; rw [h]; rfl
theorem m2_at {f : D -> D -> Option D} {x y : ME} {ρ : Ro} {a b : D} (h1 : x ρ = some a) (h2 : y ρ = some b) : m2 f x y ρ = f a b := by
 unfold m2; rw [h1, h2]; rfl
theorem mcutS_ev {m : ME} {lo hi : MO} {ρ : Ro} {z : Str} {l h : Option Int} (h1 : m ρ = some (.str z)) (h2 : lo ρ = some l) (h3 : hi ρ = some h) (hz : z.length <= sizeLine) : mcutS m lo hi ρ = some (.str (Txt.slice z l h)) := by
 unfold mcutS; rw [h1, h2, h3]
 show (if z.length <= sizeLine then some (D.str (Txt.slice z l h)) else none) = _
 rw [if_pos hz]
theorem addS_ev {x y : Str} (h : x.length + y.length <= sizeLine) : addSD (.str x) (.str y) = some (.str (x ++ y)) := by
 unfold addSD; simp only; rw [if_pos h]
theorem at3 (a b c : Int) (k : Int) (h0 : 0 <= k) (h1 : k < 3) : ∃ x, atI [D.int a, .int b, .int c] k = some (.int x) /\ (x = a \/ x = b \/ x = c) := by
 have : k = 0 \/ k = 1 \/ k = 2 := by omega
 rcases this with h | h | h <;> subst h
 ·exact ⟨_, rfl, by simp⟩
 ·exact ⟨_, rfl, by simp⟩
 ·exact ⟨_, rfl, by simp⟩
theorem at2' (a b : Int) (k : Int) (h0 : 0 <= k) (h1 : k < 2) : ∃ x, atI [D.int a, .int b] k = some (.int x) /\ (x = a \/ x = b) := by
 have : k = 0 \/ k = 1 := by omega
 rcases this with h | h <;> subst h
 ·exact ⟨_, rfl, by simp⟩
 ·exact ⟨_, rfl, by simp⟩
end
section
open PySem L2
theorem join_cl (x y : Str) (r : List Str) : cl (Str.join " " (x :: y :: r)) = cl x ++ 32 :: cl (Str.join " " (y :: r)) := by
 show cl (x ++ " " ++ Str.join " " (y :: r)) = _
 rw [cl_app, cl_app, append_assoc]; rfl
end
section
open PySem L2
theorem stir_eq (c k : Int) (hk : 0 <= k) : m_Z12 [.int c, .int k] = some (.sh (.int (stir c k))) := by
 have hp : ((10 : Int) ^ (18 : Int).toNat) = 10 ^ 18 := rfl
 have hp2 : ((2 : Int) ^ (28 : Int).toNat) = 2 ^ 28 := rfl
 have o1 : powOk 10 18 = true := by decide
 have o2 : powOk 2 28 = true := by decide
 have o3 : mulOk 28 k = true := mulOk_l _ _ (by decide) (by decide)
 have o4 : mulOk 1013 k = true := mulOk_l _ _ (by decide) (by decide)
 have o5 : mulOk (c + 1013 * k + 1) 16807 = true := mulOk_r _ _ (by decide) (by decide)
 have o6 : shrOk (c - 10 ^ 18) (28 * k) = true := by unfold shrOk; exact decide_eq_true (by omega)
 have o7 : mulOk ((c + 1013 * k + 1) * 16807 % 2147483647) ((c + 1013 * k + 1) * 16807 % 2147483647) = true := mulOk_l _ _ (by omega) (by omega)
 have o8 : mulOk (((c + 1013 * k + 1) * 16807 % 2147483647) * ((c + 1013 * k + 1) * 16807 % 2147483647) % 2147483629) 39373 = true := mulOk_r _ _ (by decide) (by decide)
 have q1 : ∀ i, modOk i (2 ^ 28) = true := fun i => modOk_of _ _ (by decide)
 have q2 : ∀ i, modOk i 2147483647 = true := fun i => modOk_of _ _ (by decide)
 have q3 : ∀ i, modOk i 2147483629 = true := fun i => modOk_of _ _ (by decide)
 have q4 : ∀ i, modOk i 2147483587 = true := fun i => modOk_of _ _ (by decide)
 have f1 : ∀ i, fdivOk i 8 = true := fun i => by unfold fdivOk; decide
 unfold m_Z12 b_Z12 stir
 by_cases h : 10 ^ 18 <= c
 ·simp_arith [hp, hp2, o1, o2, o3, o6, q1, h, decide_true, if_true]
 ·simp_arith [hp, hp2, o1, o2, o3, o4, o5, o7, o8, q1, q2, q3, q4, f1, h, decide_false, if_true, if_false]
theorem cells_eq (ns : List Int) (many : Nat) (hl : ns.length <= 63) : ∃ cs : List Int, m_Z6 [.lst (ns.map .int), .int many] = some (.fr (cs.map .int)) := by
 unfold m_Z6 b_Z6
 have e1 : cutL (ns.map D.int) none (some (many : Int)) = (ns.take many).map .int := by rw [cutL_map, cutI_to]
 have e2 : [D.int 0] = ([0] : List Int).map .int := rfl
 have g : ((ns.take many).map D.int).length + [D.int 0].length <= sizeLine := le_size (by simp; omega)
 have g2 : 1 <= sizeLine := le_size (by decide)
 refine ⟨cutI (ns.take many ++ [0]) none (some (max 1 (min (many : Int) (ns.length : Int)))), runB_rf ?_⟩
 simp_arith [e1, g2, if_true, length_map, max_if, min_if]
 have g3 : (ns.take many).length + (0 + 1) <= sizeLine := le_size (by simp; omega)
 rw [if_pos g3]
 simp_arith []
 rw [e2, <- map_append, cutL_map]
noncomputable def envN (c most size : Int) (f : List Int) (o4 o5 o6 : Option L2.S) : Ro := [some (.sh (.int c)), some (.sh (.int most)), some (.sh (.int size)), some (.own (f.map .int)), o4, o5, o6]
theorem numbers_body (c most size : Int) (f : List Int) (j : Nat) (o5 o6 : Option L2.S) (hf : f.length < 1000000) (Q : Out -> Prop)
  (hQ : ∀ x o4 o5 o6, fine x -> Q (.nx (envN c most size (f ++ [x]) o4 o5 o6))) : Run b_Z2_f0 (envN c most size f (some (.sh (.int (j : Int)))) o5 o6) Q := by
 have s1 := stir_eq c (10 + (j : Int)) (by omega)
 have n1 := stir_nonneg c (10 + (j : Int))
 have n2 := stir_lt c (10 + (j : Int))
 obtain ⟨one, eo⟩ : ∃ k, stir c (10 + (j : Int)) = k := ⟨_, rfl⟩
 rw [eo] at s1 n1 n2
 have p21 : (10 : Int) ^ (21 : Int).toNat = 1000000000000000000000 := by decide
 have o21 : powOk 10 21 = true := by decide
 have p30 : (10 : Int) ^ (30 : Int).toNat = 1000000000000000000000000000000 := by decide
 have o30 : powOk 10 30 = true := by decide
 have i2 : 0 + 1 + 1 <= sizeLine := le_size (by decide)
 have i4 : 0 + 1 + 1 + 1 + 1 <= sizeLine := le_size (by decide)
 have d16 : ∀ i, fdivOk i 16 = true := fun i => fdivOk_of _ _ (by decide) (by decide)
 have d4 : ∀ i, fdivOk i 4 = true := fun i => fdivOk_of _ _ (by decide) (by decide)
 have mu1 : mulOk one 1000000000000000000000 = true := mulOk_l _ _ (by omega) (by omega)
 have m4 := mod_cases (x := one) (show (0 : Int) < 4 by decide)
 have m2' := mod_cases (x := one / 4) (show (0 : Int) < 2 by decide)
 obtain ⟨x4, e4, h4⟩ := at4 (one / 16 % 10) (one / 16 % 1000) (one * 1000000000000000000000 + one / 16) (1000000000000000000000000000000 - 1 - one / 16 % 100) (one % 4) m4.1 m4.2
 obtain ⟨x2, e2, h2⟩ := at2' 1 (-1) (one / 4 % 2) m2'.1 m2'.2
 have mu2 : mulOk x4 x2 = true := mulOk_r _ _ (by omega) (by omega)
 have hx : fine (x4 * x2) := by
  have h5 : 0 <= x4 /\ x4 < 1000000000000000000000000000000 := by omega
  unfold fine
  have h6 : (10 : Nat) ^ 30 = 1000000000000000000000000000000 := by decide
  rw [h6]
  rcases h2 with h | h <;> subst h <;> omega
 unfold b_Z2_f0 envN
 ((apply run_seq; focus (simp_arith [s1]; rfl)))
 ((apply run_seq; focus (simp_arith [d16, if_true, i4, modOk_of (one / 16) 10 (by decide), modOk_of (one / 16) 1000 (by decide), modOk_of (one / 16) 100 (by decide), p21, o21, p30, o30, mu1]; rfl)))
 have hl : (f.map D.int).length < sizeLine := by simp; have := size_big; omega
 refine ⟨_, by simp_arith [i2, d4, if_true, e4, e2, mu2, modOk_of one 4 (by decide), modOk_of (one / 4) 2 (by decide), hl]; rfl, ?_⟩
 have := fun a b d => hQ (x4 * x2) a b d hx
 unfold envN at this
 simp only [map_append] at this
 exact this _ _ _
theorem numbers_eq (c : Int) (most : Nat) (hm : most <= 300) (h9 : 9 <= most) : ∃ f : List Int, f.length <= most /\ (∀ x ∈ f, fine x) /\ m_Z2 [.int c, .int most] = some (.fr (f.map .int)) := by
 suffices h : ∃ es, m_Z2 [.int c, .int most] = some (.fr es) /\ ∃ f : List Int, f.length <= most /\ (∀ x ∈ f, fine x) /\ es = f.map .int by
  obtain ⟨es, e, f, hf, hg, rfl⟩ := h
  exact ⟨f, hf, hg, e⟩
 unfold m_Z2 b_Z2
 refine runB_rfR ?_
 have i3 : 0 + 1 + 1 + 1 <= sizeLine := le_size (by decide)
 have i0 : 0 <= sizeLine := Nat.zero_le _
 have b1 := mod_cases (x := stir c 1) (show (0 : Int) < 3 by decide)
 obtain ⟨sz, e1, hs1⟩ := at3 3 9 ((most : Int) + 1) (stir c 1 % 3) b1.1 b1.2
 have hsz : 0 < sz := by omega
 have b0 := mod_cases (x := stir c 0) hsz
 ((apply run_seq; focus (simp_arith [stir_eq c 0 (by decide), stir_eq c 1 (by decide), i3, if_true, modOk_of (stir c 1) 3 (by decide), e1, modOk_of (stir c 0) sz hsz]; rfl)))
 ((apply run_seq; focus (simp_arith [i0, if_true]; rfl)))
 obtain ⟨n, en⟩ := nat_of (x := stir c 0 % sz) (by omega)
 have hn : n <= most := by omega
 have k1 : okR (n : Int) = true := okR_of (by omega) (by omega)
 refine run_mseq (run_forN n (f := fun (j : Nat) => D.int (j : Int)) (by simp_arith [en, rng1_ok k1, Int.toNat_natCast]; rw [rangeD_li, map_map]; rfl)
  (I := fun j ρ => ∃ f o4 o5 o6, f.length = j /\ (∀ x ∈ f, fine x) /\ ρ = envN c most (stir c 0 % sz) f o4 o5 o6) _ ⟨[], _, _, _, rfl, by simp, rfl⟩ ?_ ?_)
 ·rintro j ρ hj ⟨f, o4, o5, o6, hf, hg, rfl⟩
  refine ⟨_, rfl, numbers_body c most (stir c 0 % sz) f j o5 o6 (by omega) _ fun x o4 o5 o6 hx => ⟨f ++ [x], o4, o5, o6, by simp [hf], ?_, rfl⟩⟩
  intro y hy
  rcases List.mem_append.mp hy with h | h
  ·exact hg y h
  ·rw [mem_singleton] at h; subst h; exact hx
 ·rintro ρ ⟨f, o4, o5, o6, hf, hg, rfl⟩
  exact run_retO rfl ⟨_, rfl, f, by omega, hg, rfl⟩
end
section
open PySem L2
theorem mtru_ev {x : ME} {ρ : Ro} {b : Bool} (h : x ρ = some (.bl b)) : mtru x ρ = some b := by unfold mtru; rw [h]; rfl
theorem mtest_ev {x : ME} {ρ : Ro} {b : Bool} (h : x ρ = some (.bl b)) : mtest x ρ = some b := by unfold mtest; rw [h]
theorem cnot_ev {c : MB} {ρ : Ro} {k : Bool} (h : c ρ = some k) : cnot c ρ = some (!k) := by unfold cnot; rw [h]; rfl
noncomputable def dgt (c : Nat) : Bool := decide (48 <= c) && decide (c <= 57)
noncomputable def fOk (l : List Nat) : Bool := !l.isEmpty && l.all dgt && decide (l.length <= 30) && (l == [48] || !(l.head? == some 48))
noncomputable def mOff : List Nat -> List Nat
 | 45 :: r => r
 | l => l
noncomputable def okW (l : List Nat) : Bool := !(l == [45, 48]) && fOk (mOff l)
theorem dgt_iff {c : Nat} : dgt c = true ↔ 48 <= c /\ c <= 57 := by unfold dgt; simp
theorem isDigit_low : ∀ c : Nat, c < 128 -> Unicode.isDigit c = dgt c := by decide +kernel
theorem cl_str (x : Str) (l : List Nat) (y : Str) (hy : cl y = l) : (x == y) = (cl x == l) := by
 subst hy
 by_cases h : x = y
 ·subst h; simp
 ·have : cl x ≠ cl y := fun e => h (cl_ext e)
  rw [beq_eq_false_iff_ne.mpr h, beq_eq_false_iff_ne.mpr this]
theorem asc_dig (x : Str) : (Txt.isascii x && Txt.isdigit x) = (!(cl x).isEmpty && (cl x).all dgt) := by
 unfold Txt.isascii Txt.isdigit
 rw [<- Array.all_toList, <- Array.all_toList]
 have e : (decide (x.length > 0)) = !(cl x).isEmpty := by
  rw [<- cl_len]
  cases cl x <;> simp
 rw [e]
 have h : ∀ l : List Nat, (l.all (fun c => decide (c < 128)) && l.all Unicode.isDigit) = l.all dgt := by
  intro l
  rw [Bool.eq_iff_iff]
  simp only [Bool.and_eq_true, all_eq_true, decide_eq_true_eq]
  constructor
  ·rintro ⟨h1, h2⟩ c hc
   rw [<- isDigit_low c (h1 c hc)]; exact h2 c hc
  ·intro h
   have hh : ∀ c ∈ l, c < 128 := fun c hc => by have := dgt_iff.mp (h c hc); omega
   exact ⟨hh, fun c hc => by rw [isDigit_low c (hh c hc)]; exact h c hc⟩
 have := h (cl x)
 unfold cl at this ⊢
 rw [<- this]
 cases (x.cps.toList.all fun x => decide (x < 128)) <;> cases (x.cps.toList.isEmpty) <;> simp
theorem starts_zero (x : Str) : Txt.startswith x "0" = ((cl x).head? == some 48) := by
 have h0 : ("0" : Str).cps.toList = [48] := by decide +kernel
 have h01 : ("0" : Str).length = 1 := by decide +kernel
 unfold Txt.startswith
 rw [StrLaws.subAt_eq, h0, h01, <- cl_len]
 have hx : x.cps.toList = cl x := rfl
 rw [hx, drop_zero]
 cases cl x with
 | nil => rfl
 | cons c r => simp
theorem rem_minus (x : Str) : cl (Txt.removeprefix x "-") = mOff (cl x) := by
 have hm : ("-" : Str).cps.toList = [45] := by decide +kernel
 have hm1 : ("-" : Str).length = 1 := by decide +kernel
 rw [StrLaws.removeprefix_eq, StrLaws.subAt_eq, hm, hm1]
 have hx : x.cps.toList = cl x := rfl
 have hl := cl_len x
 rw [hx, drop_zero]
 cases h : cl x with
 | nil =>
  rw [h] at hl
  have hc : ¬ (decide (0 + 1 <= x.length) && (List.take 1 ([] : List Nat) == [45])) = true := by simp
  rw [if_neg hc]
  exact h
 | cons c r =>
  rw [h] at hl
  simp only [length_cons] at hl
  by_cases q : c = 45
  ·subst q
   have hc : (decide (0 + 1 <= x.length) && (List.take 1 (45 :: r) == [45])) = true := by
    rw [decide_eq_true (by omega)]; rfl
   rw [if_pos hc]
   show (((45 :: r).drop 1).take (x.length - 1)).toArray.toList = r
   rw [drop_succ_cons, drop_zero, toList_toArray, take_of_length_le (by omega)]
  ·have hc : ¬ (decide (0 + 1 <= x.length) && (List.take 1 (c :: r) == [45])) = true := by
    simp [q]
   rw [if_neg hc, h]
   unfold mOff
   split
   ·rename_i e; cases e; exact absurd rfl q
   ·rfl
theorem figures_eq (x : Str) (hl : x.length <= 100000) : m_Z1 [.str x, .int 30] = some (.sh (.bl (fOk (cl x)))) := by
 have big := size_big
 have hz : x.length <= sizeLine := by omega
 have g1 : mtru (mmeth0 (fun z => some (D.bl (Txt.isascii z))) (mvar 0)) [some (.sh (.str x)), some (.sh (.int 30))] = some (Txt.isascii x) := mtru_ev (mmeth0_ev (z := x) rfl)
 have g2 : mtru (mmeth0 (fun z => some (D.bl (Txt.isdigit z))) (mvar 0)) [some (.sh (.str x)), some (.sh (.int 30))] = some (Txt.isdigit x) := mtru_ev (mmeth0_ev (z := x) rfl)
 have g3 : mtest (m2 gtD (call1 lenF (acons (mvar 0) anil)) (mvar 1)) [some (.sh (.str x)), some (.sh (.int 30))] = some (decide ((x.length : Int) > 30)) := by
  refine mtest_ev ?_
  have e : call1 lenF (acons (mvar 0) anil) [some (.sh (.str x)), some (.sh (.int 30))] = some (.int x.length) := by
   rw [call1_ev (acons_ev (d := .str x) rfl anil_ev)]
   show (if x.length <= sizeLine then some (D.int x.length) else none) = _
   rw [if_pos hz]
  rw [m2_at e (b := .int 30) rfl]
  rfl
 have t := cor_ev (cnot_ev g1) (cor_ev (cnot_ev g2) g3)
 have hx : fOk (cl x) = (!(!Txt.isascii x || (!Txt.isdigit x || decide ((x.length : Int) > 30))) && (x == ("0" : Str) || !Txt.startswith x "0")) := by
  unfold fOk
  rw [<- asc_dig, starts_zero, cl_str x [48] "0" (by decide +kernel), cl_len]
  have : decide (x.length <= 30) = !decide ((x.length : Int) > 30) := by
   by_cases q : x.length <= 30
   ·rw [decide_eq_true q, decide_eq_false (by omega)]; rfl
   ·rw [decide_eq_false q, decide_eq_true (by omega)]; rfl
  rw [this]
  cases Txt.isascii x <;> cases Txt.isdigit x <;> cases decide ((x.length : Int) > 30) <;> rfl
 unfold m_Z1 b_Z1
 refine runB_rt ?_
 show mseq _ _ [some (.sh (.str x)), some (.sh (.int 30))] = _
 cases hb : (!Txt.isascii x || (!Txt.isdigit x || decide ((x.length : Int) > 30))) with
 | true =>
  rw [hb] at t
  rw [hx, hb]
  unfold mseq
  rw [mif_ev t]
  rfl
 | false =>
  rw [hb] at t
  rw [hx, hb]
  refine seqI (ρ' := [some (.sh (.str x)), some (.sh (.int 30))]) (by rw [mif_ev t]; rfl) ?_
  refine mret_ev ?_
  have g4 : m2 eqSD (mvar 0) (mc (.str "0")) [some (.sh (.str x)), some (.sh (.int 30))] = some (.bl (x == "0")) := (m2_at (a := .str x) (b := .str "0") rfl rfl).trans rfl
  have g5 : m1 notD (mmeth startsF (mvar 0) (acons (mc (.str "0")) anil)) [some (.sh (.str x)), some (.sh (.int 30))] = some (.bl (!Txt.startswith x "0")) := by
   have e : mmeth startsF (mvar 0) (acons (mc (.str "0")) anil) [some (.sh (.str x)), some (.sh (.int 30))] = some (.bl (Txt.startswith x "0")) := (mmeth_ev (z := x) rfl (acons_ev (d := .str "0") rfl anil_ev)).trans rfl
   unfold m1; rw [e]; rfl
  unfold mor
  rw [g4]
  cases hq : (x == ("0" : Str)) with
  | true => rfl
  | false => exact g5
theorem is_number_eq (x : Str) (hl : x.length <= 100000) : m_Z9 [.str x] = some (.sh (.bl (okW (cl x)))) := by
 have big := size_big
 have hz : x.length <= sizeLine := by omega
 have e := rem_minus x
 have hl2 : (Txt.removeprefix x "-").length <= 100000 := by
  rw [<- cl_len, e]
  have : (mOff (cl x)).length <= (cl x).length := by
   unfold mOff
   split
   ·rename_i r h; rw [h]; exact Nat.le_succ _
   ·exact Nat.le_refl _
  rw [cl_len] at this
  omega
 have g1 : m2 neSD (mvar 0) (mc (.str "-0")) [some (.sh (.str x))] = some (.bl (!(x == "-0"))) := (m2_at (a := .str x) (b := .str "-0") rfl rfl).trans rfl
 have g2 : mmeth remPF (mvar 0) (acons (mc (.str "-")) anil) [some (.sh (.str x))] = some (.str (Txt.removeprefix x "-")) := by
  rw [mmeth_ev (z := x) rfl (acons_ev (d := .str "-") rfl anil_ev)]
  show (if x.length <= sizeLine then some (D.str (Txt.removeprefix x "-")) else none) = _
  rw [if_pos hz]
 have g3 := mcall_sh (acons_ev g2 (acons_ev (d := .int 30) (show mc (.int 30) [some (.sh (.str x))] = _ from rfl) anil_ev)) (figures_eq _ hl2)
 rw [e] at g3
 unfold m_Z9 b_Z9
 refine runB_rt (mret_ev ?_)
 show mand _ _ [some (.sh (.str x))] = _
 unfold mand
 rw [g1, cl_str x [45, 48] "-0" (by decide +kernel)]
 unfold okW
 cases hq : (cl x == [45, 48]) with
 | true => rfl
 | false => exact g3
theorem nin_digits (c : Nat) : (Builtin.Str.occurrences "0123456789" ⟨#[c]⟩ 0 ("0123456789" : Str).length 1).isEmpty = !dgt c := by
 have hd : ("0123456789" : Str).cps.toList = [48, 49, 50, 51, 52, 53, 54, 55, 56, 57] := by decide +kernel
 have hl : ("0123456789" : Str).length = 10 := by decide +kernel
 have hc : (⟨#[c]⟩ : Str).length = 1 := rfl
 have hcl : (⟨#[c]⟩ : Str).cps.toList = [c] := rfl
 have ht : ∀ i, i < 10 -> (([48, 49, 50, 51, 52, 53, 54, 55, 56, 57] : List Nat).drop i).take 1 = [48 + i] := by decide
 have key : (!(Builtin.Str.occurrences "0123456789" ⟨#[c]⟩ 0 ("0123456789" : Str).length 1).isEmpty) = dgt c := by
  rw [Bool.eq_iff_iff, StrLaws.found_iff, dgt_iff]
  constructor
  ·rintro ⟨i, h1, h2⟩
   rw [hl, hc] at h1
   rw [StrLaws.subAt_eq, hd, hc, hcl, ht i (by omega)] at h2
   have h3 : [48 + i] = [c] := by simpa using h2
   have := (List.cons.inj h3).1
   omega
  ·rintro ⟨h1, h2⟩
   refine ⟨c - 48, by rw [hl, hc]; omega, ?_⟩
   rw [StrLaws.subAt_eq, hd, hc, hcl, ht (c - 48) (by omega), show 48 + (c - 48) = c by omega]
   simp
 rw [<- key, Bool.not_not]
theorem filter_dgt (l : List Nat) : ((l.filter fun c => !dgt c) = []) ↔ l.all dgt = true := by
 rw [filter_eq_nil_iff, all_eq_true]
 simp
end
section
open PySem L2
theorem first_minus (x : Str) : (Txt.slice x none (some 1) == ("-" : Str)) = ((cl x).head? == some 45) := by
 rw [cl_str _ [45] "-" (by decide +kernel)]
 cases h : cl x with
 | nil =>
  have : x = "" := cl_ext (by rw [h]; decide +kernel)
  subst this
  decide +kernel
 | cons c r =>
  have hl : x.length = r.length + 1 := by rw [<- cl_len, h]; rfl
  have e : cl (Txt.slice x none (some 1)) = [c] := by
   rw [beq_iff_eq.mp (PyProof.Rows.slice_closes_toL (x := x) (j := 1) (by decide) (by omega))]
   show (((x.cps.toList.drop 0).take 1).toArray).toList = [c]
   rw [show x.cps.toList = c :: r from h, toList_toArray]
   rfl
  rw [e]
  simp
noncomputable def fg (x : Str) : Str := if (cl x).head? == some 45 then Txt.slice x (some 1) none else x
theorem fg_cl (x : Str) : cl (fg x) = mOff (cl x) := by
 unfold fg
 cases h : cl x with
 | nil =>
  rw [show (([] : List Nat).head? == some 45) = false from rfl]
  simp only [Bool.false_eq_true, if_false]
  rw [h]; rfl
 | cons c r =>
  by_cases q : c = 45
  ·subst q
   simp only [head?_cons, beq_self_eq_true, if_true]
   exact slice1 h
  ·have : ((c :: r).head? == some 45) = false := by simp [q]
   rw [this]
   simp only [Bool.false_eq_true, if_false]
   rw [h]
   unfold mOff
   split
   ·rename_i e; cases e; exact absurd rfl q
   ·rfl
theorem ninS_ev (c : Nat) : ninSD (.str ⟨#[c]⟩) (.str "0123456789") = some (.bl (!dgt c)) := by
 show some (D.bl (!(!(Builtin.Str.occurrences "0123456789" ⟨#[c]⟩ 0 ("0123456789" : Str).length 1).isEmpty))) = _
 rw [nin_digits, Bool.not_not]
theorem signs_comp (x y : Str) (hl : y.length <= 100000) : mcomp [none] (aschr (mvar 1)) (.nm 0) (mtest (m2 ninSD (mvar 0) (mc (.str "0123456789")))) (mvar 0) [some (.sh (.str x)), some (.sh (.str y))] = some (((cl y).filter fun c => !dgt c).map fun c => D.str ⟨#[c]⟩) := by
 have big := size_big
 unfold mcomp
 rw [show aschr (mvar 1) [some (.sh (.str x)), some (.sh (.str y))] = some ((cl y).map fun c => D.str ⟨#[c]⟩) from rfl, Option.bind_some]
 refine (compD_filter (f := fun c => D.str ⟨#[c]⟩) (p := fun c => !dgt c) (G := fun c => D.str ⟨#[c]⟩) (fun _ ρ => ∃ o, ρ = [o]) ?_ (cl y) _ [] ⟨none, rfl⟩ (by rw [cl_len]; simp; omega)).trans rfl
 rintro c cs ρ ⟨o, rfl⟩
 exact ⟨[some (.sh (.str ⟨#[c]⟩))], rfl, mtest_ev ((m2_at (a := .str ⟨#[c]⟩) (b := .str "0123456789") rfl rfl).trans (ninS_ev c)), fun _ => rfl, _, rfl⟩
theorem isE_filter (l : List Nat) : (((l.filter fun c => !dgt c).map fun c => D.str ⟨#[c]⟩).isEmpty) = l.all dgt := by
 rw [Bool.eq_iff_iff, isEmpty_iff, map_eq_nil_iff, filter_dgt]
theorem number_eq (x : Str) (hl : x.length <= 100000) : (okW (cl x) = true -> ∃ v, intText? x = some v /\ m_Z4 [.str x] = some (.sh (.int v))) /\ (okW (cl x) = false -> m_Z4 [.str x] = some (.sh .non)) := by
 have big := size_big
 have hz : x.length <= sizeLine := by omega
 have hf := fg_cl x
 have hfl : (fg x).length <= x.length := by
  rw [<- cl_len, hf, <- cl_len x]
  unfold mOff
  split
  ·rename_i r h; rw [h]; exact Nat.le_succ _
  ·exact Nat.le_refl _
 have hfz : (fg x).length <= sizeLine := by omega
 have hlen : (fg x).length = (mOff (cl x)).length := by rw [<- cl_len, hf]
 have e1 : mif (mtest (m2 eqSD (mcutS (mvar 0) onone (osome (mc (.int 1)))) (mc (.str "-")))) (mset 1 (mcutS (mvar 0) (osome (mc (.int 1))) onone)) mnext [some (.sh (.str x)), some (.sh (.str x))] = some (.nx [some (.sh (.str x)), some (.sh (.str (fg x)))]) := by
  have t : mtest (m2 eqSD (mcutS (mvar 0) onone (osome (mc (.int 1)))) (mc (.str "-"))) [some (.sh (.str x)), some (.sh (.str x))] = some ((cl x).head? == some 45) := by
   refine mtest_ev ?_
   rw [m2_at (mcutS_ev (z := x) (l := none) (h := some 1) rfl rfl rfl hz) (b := .str "-") rfl, <- first_minus]
   rfl
  rw [mif_ev t]
  unfold fg
  cases hh : ((cl x).head? == some 45) with
  | true => exact (mset_ev (mcutS_ev (z := x) (l := some 1) (h := none) rfl rfl rfl hz)).trans rfl
  | false => rfl
 have t2 : cor (cnot (mtest (mchain leD leD (mc (.int 1)) (call1 lenF (acons (mvar 1) anil)) (mc (.int 30))))) (mtest (meqB true (mcomp [none] (aschr (mvar 1)) (.nm 0) (mtest (m2 ninSD (mvar 0) (mc (.str "0123456789")))) (mvar 0)) (sized anil))) [some (.sh (.str x)), some (.sh (.str (fg x)))] = some (!(!(mOff (cl x)).isEmpty && (mOff (cl x)).all dgt && decide ((mOff (cl x)).length <= 30))) := by
  have a1 : call1 lenF (acons (mvar 1) anil) [some (.sh (.str x)), some (.sh (.str (fg x)))] = some (.int (fg x).length) := by
   rw [call1_ev (acons_ev (d := .str (fg x)) rfl anil_ev)]
   show (if (fg x).length <= sizeLine then some (D.int (fg x).length) else none) = _
   rw [if_pos hfz]
  have a2 : mtest (mchain leD leD (mc (.int 1)) (call1 lenF (acons (mvar 1) anil)) (mc (.int 30))) [some (.sh (.str x)), some (.sh (.str (fg x)))] = some (decide (1 <= ((fg x).length : Int)) && decide (((fg x).length : Int) <= 30)) := by
   refine mtest_ev ?_
   unfold mchain
   rw [show mc (.int 1) [some (.sh (.str x)), some (.sh (.str (fg x)))] = some (.int 1) from rfl, a1]
   show (match (some (D.bl (decide (1 <= ((fg x).length : Int)))) : Option D) with | some (.bl true) => (match mc (.int 30) [some (.sh (.str x)), some (.sh (.str (fg x)))] with | some h => leD (.int (fg x).length) h | none => none) | some (.bl false) => some (.bl false) | _ => none) = _
   cases decide (1 <= ((fg x).length : Int)) <;> rfl
  have a3 : mtest (meqB true (mcomp [none] (aschr (mvar 1)) (.nm 0) (mtest (m2 ninSD (mvar 0) (mc (.str "0123456789")))) (mvar 0)) (sized anil)) [some (.sh (.str x)), some (.sh (.str (fg x)))] = some (!(mOff (cl x)).all dgt) := by
   refine mtest_ev ?_
   unfold meqB
   rw [signs_comp x (fg x) (by omega), sized_ev anil_ev (Nat.zero_le _)]
   show eqFD true (.lst _) (.lst []) = _
   rw [eq_nilT, isE_filter, hf]
  rw [cor_ev (cnot_ev a2) a3, hlen]
  congr 1
  cases hm : mOff (cl x) with
  | nil => rfl
  | cons c r =>
   have h1 : decide (1 <= (((c :: r).length : Nat) : Int)) = true := decide_eq_true (by simp; omega)
   have h2 : decide ((((c :: r).length : Nat) : Int) <= 30) = decide ((c :: r).length <= 30) := by
    by_cases q : (c :: r).length <= 30
    ·rw [decide_eq_true q, decide_eq_true (by omega)]
    ·rw [decide_eq_false q, decide_eq_false (by omega)]
   rw [h1, h2]
   cases decide ((c :: r).length <= 30) <;> cases (c :: r).all dgt <;> rfl
 generalize hA : (!(mOff (cl x)).isEmpty && (mOff (cl x)).all dgt && decide ((mOff (cl x)).length <= 30)) = A at t2
 have start : ∀ r, mseq (mif (cor (cnot (mtest (mchain leD leD (mc (.int 1)) (call1 lenF (acons (mvar 1) anil)) (mc (.int 30))))) (mtest (meqB true (mcomp [none] (aschr (mvar 1)) (.nm 0) (mtest (m2 ninSD (mvar 0) (mc (.str "0123456789")))) (mvar 0)) (sized anil)))) (mret (mc .non)) mnext) (mseq (mif (cand (mtest (m2 eqSD (m2 ixSD (mvar 1) (mc (.int 0))) (mc (.str "0")))) (mtest (m2 neSD (mvar 0) (mc (.str "0"))))) (mret (mc .non)) mnext) (mret (call1 intTF (acons (mvar 0) anil)))) [some (.sh (.str x)), some (.sh (.str (fg x)))] = some (.rt r) -> m_Z4 [.str x] = some (.sh r) := fun r h => by
  unfold m_Z4 b_Z4
  exact runB_rt (seqI (ρ' := [some (.sh (.str x)), some (.sh (.str x))]) ((mset_ev (d := .str x) rfl).trans rfl) (seqI e1 h))
 have hok : okW (cl x) = (!(cl x == [45, 48]) && (A && (mOff (cl x) == [48] || !((mOff (cl x)).head? == some 48)))) := by
  unfold okW fOk; rw [hA]
 cases A with
 | false =>
  rw [hok]
  refine ⟨fun h => by simp at h, fun _ => start _ ?_⟩
  unfold mseq
  rw [mif_ev t2]
  rfl
 | true =>
  rw [hok]
  simp only [Bool.and_eq_true, decide_eq_true_eq] at hA
  obtain ⟨⟨n1, n2⟩, n3⟩ := hA
  cases hm : mOff (cl x) with
  | nil => rw [hm] at n1; cases n1
  | cons c r =>
   have nx2 : mif (cor (cnot (mtest (mchain leD leD (mc (.int 1)) (call1 lenF (acons (mvar 1) anil)) (mc (.int 30))))) (mtest (meqB true (mcomp [none] (aschr (mvar 1)) (.nm 0) (mtest (m2 ninSD (mvar 0) (mc (.str "0123456789")))) (mvar 0)) (sized anil)))) (mret (mc .non)) mnext [some (.sh (.str x)), some (.sh (.str (fg x)))] = some (.nx [some (.sh (.str x)), some (.sh (.str (fg x)))]) := by rw [mif_ev t2]; rfl
   have t3 : cand (mtest (m2 eqSD (m2 ixSD (mvar 1) (mc (.int 0))) (mc (.str "0")))) (mtest (m2 neSD (mvar 0) (mc (.str "0")))) [some (.sh (.str x)), some (.sh (.str (fg x)))] = some ((c == 48) && !(cl x == [48])) := by
    have i0 : m2 ixSD (mvar 1) (mc (.int 0)) [some (.sh (.str x)), some (.sh (.str (fg x)))] = some (.str ⟨#[c]⟩) := by
     rw [m2_at (a := .str (fg x)) (b := .int 0) rfl rfl]
     show (if (fg x).length <= sizeLine then (atI (fg x).cps.toList 0).map fun c => D.str ⟨#[c]⟩ else none) = _
     rw [if_pos hfz, show (fg x).cps.toList = c :: r from hf.trans hm]
     have : atI (c :: r) (0 : Int) = some c := by
      unfold atI
      rw [ixN_in (by omega) (by simp)]
      rfl
     rw [this]
     rfl
    have z1 : mtest (m2 eqSD (m2 ixSD (mvar 1) (mc (.int 0))) (mc (.str "0"))) [some (.sh (.str x)), some (.sh (.str (fg x)))] = some (c == 48) := by
     refine mtest_ev ?_
     rw [m2_at i0 (b := .str "0") rfl]
     show some (D.bl ((⟨#[c]⟩ : Str) == "0")) = _
     rw [cl_str _ [48] "0" (by decide +kernel)]
     show some (D.bl ([c] == [48])) = _
     simp
    have z2 : mtest (m2 neSD (mvar 0) (mc (.str "0"))) [some (.sh (.str x)), some (.sh (.str (fg x)))] = some (!(cl x == [48])) := by
     refine mtest_ev ?_
     rw [m2_at (a := .str x) (b := .str "0") rfl rfl, <- cl_str x [48] "0" (by decide +kernel)]
     rfl
    exact cand_ev z1 z2
   have h31 : x.length <= 31 := by
    rw [<- cl_len]
    have : (cl x).length <= (mOff (cl x)).length + 1 := by
     unfold mOff
     split
     ·rename_i r' h; rw [h]; exact Nat.le_refl _
     ·exact Nat.le_succ _
    omega
   have alld : ∀ d ∈ c :: r, 48 <= d /\ d <= 57 := fun d hd => by
    rw [hm, all_eq_true] at n2
    exact dgt_iff.mp (n2 d hd)
   have key : (!(cl x == [45, 48]) && (true && (c :: r == [48] || !((c :: r).head? == some 48)))) = !((c == 48) && !(cl x == [48])) := by
    by_cases h0 : c = 48
    ·subst h0
     by_cases h1 : cl x = [48]
     ·rw [h1] at hm ⊢
      cases hm
      rfl
     ·have hne : (cl x == [48]) = false := beq_eq_false_iff_ne.mpr h1
      rw [hne]
      cases r with
      | nil =>
       have : cl x = [45, 48] := by
        unfold mOff at hm
        split at hm
        ·rename_i r' e; rw [e, hm]
        ·exact absurd hm h1
       rw [this]; rfl
      | cons d r => simp
    ·have h2 : cl x ≠ [45, 48] := fun e => by
      rw [e] at hm; cases hm; exact h0 rfl
     rw [beq_eq_false_iff_ne.mpr h2, show ((c :: r).head? == some 48) = false by simp [h0], show (c == 48) = false by simp [h0]]
     simp
   rw [key]
   cases hb : ((c == 48) && !(cl x == [48])) with
   | true =>
    rw [hb] at t3
    refine ⟨fun h => by simp at h, fun _ => start _ (seqI nx2 ?_)⟩
    unfold mseq
    rw [mif_ev t3]
    rfl
   | false =>
    rw [hb] at t3
    refine ⟨fun _ => ?_, fun h => by simp at h⟩
    have iv : ∃ v, intText? x = some v := by
     by_cases hd : ∃ r', cl x = 45 :: r'
     ·obtain ⟨r', e⟩ := hd
      have er : r' = c :: r := by rw [e] at hm; exact hm
      subst er
      exact ⟨_, PySem.intText_neg (show x.cps.toList = 45 :: c :: r from e) alld (by simp) (by omega)⟩
     ·have e : cl x = c :: r := by
       unfold mOff at hm
       split at hm
       ·rename_i r' e; exact absurd ⟨r', e⟩ hd
       ·exact hm
      exact ⟨_, PySem.intText_digits (by rw [show x.cps.toList = c :: r from e]; exact alld) (by rw [show x.cps.toList = c :: r from e]; simp) (by omega)⟩
    obtain ⟨v, iv⟩ := iv
    refine ⟨v, iv, start _ (seqI nx2 (seqI (ρ' := [some (.sh (.str x)), some (.sh (.str (fg x)))]) (by rw [mif_ev t3]; rfl) (mret_ev ?_)))⟩
    rw [call1_ev (acons_ev (d := .str x) rfl anil_ev)]
    show (if x.length <= 640 then (intText? x).map D.int else none) = _
    rw [if_pos (by omega), iv]
    rfl
end
section
open PySem L2
theorem join_mem : ∀ (as : List Str) (w : Str), w ∈ as -> (cl w).length <= (cl (Str.join " " as)).length
 | [], _, h => absurd h (by simp)
 | [a], w, h => by
  have : w = a := by simpa using h
  subst this
  exact Nat.le_refl _
 | a :: b :: r, w, h => by
  rw [join_cl, length_append, length_cons]
  rcases List.mem_cons.mp h with e | e
  ·subst e; omega
  ·have := join_mem (b :: r) w e; omega
theorem split_mem (t w : Str) (h : w ∈ Txt.split t " ") : w.length <= t.length := by
 have := join_mem _ w h
 rw [StrLaws.join_split, cl_len, cl_len] at this
 exact this
noncomputable def iv (w : Str) : Int := (intText? w).getD 0
theorem split_evs (t : Str) (ρ : Ro) (hl : t.length <= 50000) {x : ME} (hx : x ρ = some (.str t)) : mmeth splitF x (acons (mc (.str " ")) anil) ρ = some (.lst ((Txt.split t " ").map D.str)) := by
 have big := size_big
 have hb : (" " : Str).length = 1 := by decide +kernel
 rw [mmeth_ev hx (acons_ev (d := .str " ") rfl anil_ev)]
 show (if ((" " : Str).length == 0) = false /\ t.length + 2 <= sizeLine then some (D.lst ((Txt.split t " ").map D.str)) else none) = _
 rw [if_pos ⟨by rw [hb]; rfl, by omega⟩]
theorem split_len' (t : Str) : (Txt.split t " ").length <= t.length + 2 := by
 unfold Txt.split
 split
 ·simp
 ·split
  ·simp
  ·rw [PySem.length_partsBetween]
   have := StrLaws.occ_length_le t " " 0 t.length (t.length + 1)
   omega
theorem none_ev (t : Str) (o : List (Option S)) : mtest (m2 eqSD (mvar 0) (mc (.str "none"))) (some (.sh (.str t)) :: o) = some (t == "none") := mtest_ev ((m2_at (a := .str t) (b := .str "none") rfl rfl).trans rfl)
theorem word_test (a b : Option S) (w : Str) (hl : w.length <= 100000) : cnot (mtru (mcall m_Z9 (acons (mvar 2) anil))) [a, b, some (.sh (.str w))] = some (!okW (cl w)) := cnot_ev (mtru_ev (mcall_sh (acons_ev (d := .str w) rfl anil_ev) (is_number_eq w hl)))
theorem walk_ok (a b : Option S) : ∀ (ws : List Str) (o : Option S), (∀ w ∈ ws, w.length <= 100000 /\ okW (cl w) = true) -> ∃ o', forD (.nm 2) b_Z13_f0 (ws.map D.str) [a, b, o] = some (.nx [a, b, o'])
 | [], o, _ => ⟨o, rfl⟩
 | w :: ws, o, h => by
  obtain ⟨h1, h2⟩ := h w (by simp)
  obtain ⟨o', e⟩ := walk_ok a b ws (some (.sh (.str w))) fun v hv => h v (by simp [hv])
  refine ⟨o', ?_⟩
  rw [map_cons, forD]
  rw [show tgD (.nm 2) (.str w) [a, b, o] = some [a, b, some (.sh (.str w))] from rfl]
  simp only
  have : b_Z13_f0 [a, b, some (.sh (.str w))] = some (.nx [a, b, some (.sh (.str w))]) := by
   unfold b_Z13_f0
   rw [mif_ev (word_test a b w h1), h2]
   rfl
  rw [this]
  exact e
theorem walk_no (a b : Option S) : ∀ (ws : List Str) (o : Option S), (∀ w ∈ ws, w.length <= 100000) -> (∃ w ∈ ws, okW (cl w) = false) -> forD (.nm 2) b_Z13_f0 (ws.map D.str) [a, b, o] = none
 | [], o, _, h => by obtain ⟨w, hw, _⟩ := h; exact absurd hw (by simp)
 | w :: ws, o, hl, h => by
  rw [map_cons, forD]
  rw [show tgD (.nm 2) (.str w) [a, b, o] = some [a, b, some (.sh (.str w))] from rfl]
  simp only
  cases hb : okW (cl w) with
  | false =>
   have : b_Z13_f0 [a, b, some (.sh (.str w))] = none := by
    unfold b_Z13_f0
    rw [mif_ev (word_test a b w (hl w (by simp))), hb]
    rfl
   rw [this]
  | true =>
   have : b_Z13_f0 [a, b, some (.sh (.str w))] = some (.nx [a, b, some (.sh (.str w))]) := by
    unfold b_Z13_f0
    rw [mif_ev (word_test a b w (hl w (by simp))), hb]
    rfl
   rw [this]
   refine walk_no a b ws _ (fun v hv => hl v (by simp [hv])) ?_
   obtain ⟨v, hv, e⟩ := h
   rcases List.mem_cons.mp hv with z | z
   ·subst z; rw [hb] at e; cases e
   ·exact ⟨v, z, e⟩
theorem walk_x (a b : Option S) : ∀ (ws : List Str) (o : Option S), (∀ w ∈ ws, w.length <= 100000) -> (∃ w ∈ ws, okW (cl w) = false) -> ∃ ρ, xforD (.nm 2) (mif (cnot (mtru (mcall m_Z9 (acons (mvar 2) anil)))) mnever mnext) (xif (cnot (mtru (mcall m_Z9 (acons (mvar 2) anil)))) (xraise "NoText" (acons (mc (.str "a row's text is numbers parted by single blanks, or none")) anil)) xnone) (ws.map D.str) [a, b, o] = some (("NoText" : Str), ρ)
 | [], o, _, h => by obtain ⟨w, hw, _⟩ := h; exact absurd hw (by simp)
 | w :: ws, o, hl, h => by
  rw [map_cons, xforD]
  rw [show tgD (.nm 2) (.str w) [a, b, o] = some [a, b, some (.sh (.str w))] from rfl]
  simp only
  have wt := word_test a b w (hl w (by simp))
  cases hb : okW (cl w) with
  | false =>
   rw [hb] at wt
   rw [mif_ev wt]
   refine ⟨[a, b, some (.sh (.str w))], ?_⟩
   show xif _ _ _ _ = _
   rw [xif_ev wt]
   exact xraise_ev (acons_ev rfl anil_ev)
  | true =>
   rw [hb] at wt
   rw [mif_ev wt]
   refine walk_x a b ws _ (fun v hv => hl v (by simp [hv])) ?_
   obtain ⟨v, hv, e⟩ := h
   rcases List.mem_cons.mp hv with z | z
   ·subst z; rw [hb] at e; cases e
   ·exact ⟨v, z, e⟩
theorem okW_iv (w : Str) (hl : w.length <= 100000) (h : okW (cl w) = true) : intTF [.str w] = some (.int (iv w)) /\ m_Z4 [.str w] = some (.sh (.int (iv w))) := by
 obtain ⟨v, e1, e2⟩ := (number_eq w hl).1 h
 have ev : iv w = v := by unfold iv; rw [e1]; rfl
 rw [ev]
 refine ⟨?_, e2⟩
 have h31 : w.length <= 640 := by
  unfold okW fOk at h
  simp only [Bool.and_eq_true, decide_eq_true_eq] at h
  have h3 := h.2.1.2
  rw [<- cl_len]
  have : (cl w).length <= (mOff (cl w)).length + 1 := by
   unfold mOff
   split
   ·rename_i r' h; rw [h]; exact Nat.le_refl _
   ·exact Nat.le_succ _
  omega
 show (if w.length <= 640 then (intText? w).map D.int else none) = _
 rw [if_pos h31, e1]
 rfl
end
section
open PySem L2
noncomputable def RD (t : Str) : Option (List Int) := if t == "none" then some [] else if (Txt.split t " ").all (fun w => okW (cl w)) then some ((Txt.split t " ").map iv) else none
theorem runX_ex {n : Nat} {x : MXs} {ds : List D} {c : Str} (h : ∃ ρ, x (startS n ds) = some (c, ρ)) : runX n x ds = some c := by
 obtain ⟨ρ, h⟩ := h
 exact runX_ev h
section
variable (t : Str) (hl : t.length <= 50000)
include hl
theorem words_short : ∀ w ∈ Txt.split t " ", w.length <= 100000 := fun w hw => by
 have := split_mem t w hw; omega
theorem read_set : mset 1 (mmeth splitF (mvar 0) (acons (mc (.str " ")) anil)) [some (.sh (.str t)), none, none] = some (.nx [some (.sh (.str t)), some (.sh (.lst ((Txt.split t " ").map D.str))), none]) := (mset_ev (split_evs t _ hl rfl)).trans rfl
theorem read_some (vs : List Int) (h : RD t = some vs) : m_Z13 [.str t] = some (.fr (vs.map .int)) := by
 have big := size_big
 have i0 : 0 <= sizeLine := Nat.zero_le _
 unfold RD at h
 unfold m_Z13 b_Z13
 refine runB_rf ?_
 show mseq _ _ [some (.sh (.str t)), none, none] = _
 cases hn : (t == ("none" : Str)) with
 | true =>
  rw [hn] at h
  simp only [if_true] at h
  cases h
  unfold mseq
  rw [mif_ev (none_ev t _), hn]
  show (match mretF (sized anil) [some (.sh (.str t)), none, none] with | some (.nx ρ) => _ | o => o) = _
  unfold mretF
  rw [sized_ev anil_ev i0]
  rfl
 | false =>
  rw [hn] at h
  simp only [Bool.false_eq_true, if_false] at h
  split at h
  ·rename_i ha
   cases h
   rw [all_eq_true] at ha
   have hw := words_short t hl
   have hlen := split_len' t
   refine seqI (ρ' := [some (.sh (.str t)), none, none]) (by rw [mif_ev (none_ev t _), hn]; rfl) (seqI (read_set t hl) ?_)
   obtain ⟨o', e⟩ := walk_ok (some (.sh (.str t))) (some (.sh (.lst ((Txt.split t " ").map D.str)))) (Txt.split t " ") none fun w h => ⟨hw w h, ha w h⟩
   refine seqI (ρ' := [some (.sh (.str t)), some (.sh (.lst ((Txt.split t " ").map D.str))), o']) (by unfold mfor; exact e) ?_
   have ec : mcomp [none] (aslst (mvar 1)) (.nm 0) cyes (call1 intTF (acons (mvar 0) anil)) [some (.sh (.str t)), some (.sh (.lst ((Txt.split t " ").map D.str))), o'] = some ((Txt.split t " ").map fun w => D.int (iv w)) := by
    unfold mcomp
    rw [show aslst (mvar 1) [some (.sh (.str t)), some (.sh (.lst ((Txt.split t " ").map D.str))), o'] = some ((Txt.split t " ").map D.str) from rfl, Option.bind_some]
    refine (compD_map (f := D.str) (G := fun w => D.int (iv w)) (fun ws ρ => (∃ o, ρ = [o]) /\ ∀ w ∈ ws, w.length <= 100000 /\ okW (cl w) = true) ?_ (Txt.split t " ") _ [] ⟨⟨none, rfl⟩, fun w h => ⟨hw w h, ha w h⟩⟩ (by simp; omega)).trans rfl
    rintro c cs ρ ⟨⟨o, rfl⟩, hc⟩
    obtain ⟨c1, c2⟩ := hc c (by simp)
    exact ⟨[some (.sh (.str c))], rfl, rfl, (call1_ev (acons_ev (d := .str c) rfl anil_ev)).trans (okW_iv c c1 c2).1, ⟨_, rfl⟩, fun w hw => hc w (by simp [hw])⟩
   unfold mretF
   rw [ec, map_map]
   rfl
  ·cases h
theorem read_none (h : RD t = none) : m_Z13 [.str t] = none /\ xm_Z13 [.str t] = some "NoText" := by
 unfold RD at h
 cases hn : (t == ("none" : Str)) with
 | true => rw [hn] at h; simp at h
 | false =>
  rw [hn] at h
  simp only [Bool.false_eq_true, if_false] at h
  split at h
  ·cases h
  ·rename_i ha
   have hw := words_short t hl
   have hx : ∃ w ∈ Txt.split t " ", okW (cl w) = false := by
    have hb : (Txt.split t " ").all (fun w => okW (cl w)) = false := by
     cases z : (Txt.split t " ").all (fun w => okW (cl w)) with
     | false => rfl
     | true => exact absurd z ha
    rw [all_eq_false] at hb
    obtain ⟨w, h1, h2⟩ := hb
    exact ⟨w, h1, by simpa using h2⟩
   have nx0 : mif (mtest (m2 eqSD (mvar 0) (mc (.str "none")))) (mretF (sized anil)) mnext [some (.sh (.str t)), none, none] = some (.nx [some (.sh (.str t)), none, none]) := by rw [mif_ev (none_ev t _), hn]; rfl
   constructor
   ·unfold m_Z13 b_Z13
    refine runB_no ?_
    refine seqI nx0 (seqI (read_set t hl) (mseq_no ?_))
    unfold mfor
    exact walk_no _ _ _ none hw hx
   ·unfold xm_Z13 bx_Z13
    refine runX_ex ?_
    obtain ⟨ρ, e⟩ := walk_x (some (.sh (.str t))) (some (.sh (.lst ((Txt.split t " ").map D.str)))) (Txt.split t " ") none hw hx
    refine ⟨ρ, ?_⟩
    show xseq _ _ _ [some (.sh (.str t)), none, none] = _
    rw [xseq_nx nx0, xseq_nx (read_set t hl)]
    unfold xfor
    exact e
end
end
section
open PySem L2
theorem law_text_eq (ns : List Int) (h : ∀ n ∈ ns, fine n) (hl : ns.length <= 1000) : m_Z10 [.lst (ns.map .int)] = some (.sh (.str (txt ns))) := by
 unfold m_Z10 b_Z10
 refine runB_rt ?_
 refine seqI (ρ' := [some (.sh (.lst (ns.map .int))), some (.sh (.str "")), none]) (by simp_arith []) ?_
 have big := size_big
 refine seq_for ns (f := D.int) (by simp_arith [])
  (I := fun ps ρ => ∃ (T : Str) (a : List Int) (x : Option L2.S), ρ = [some (.sh (.lst (ns.map .int))), some (.sh (.str T)), x] /\ ns = a ++ ps /\ cl T = led a)
  (Q := fun o => ∃ (T : Str) (x : Option L2.S), o = .nx [some (.sh (.lst (ns.map .int))), some (.sh (.str T)), x] /\ cl T = led ns)
  ⟨"", [], none, rfl, rfl, by decide⟩ ?_ ?_ ?_
 ·rintro n ps ρ ⟨T, a, x, rfl, e, hT⟩
  have ha : ∀ m ∈ a, fine m := fun m hm => h m (by rw [e]; exact mem_append_left _ hm)
  have hn : fine n := h n (by rw [e]; simp)
  have l1 := led_len ha
  have l2 : T.length <= 32 * a.length := by rw [<- cl_len, hT]; exact l1
  have l3 : a.length <= 1000 := by have := congrArg List.length e; simp at this; omega
  have l4 := tS_len hn
  have b1 : (" " : Str).length = 1 := by decide
  refine ⟨_, .nx [some (.sh (.lst (ns.map .int))), some (.sh (.str (T ++ " " ++ tS n))), some (.sh (.int n))], rfl, ?_, T ++ " " ++ tS n, a ++ [n], _, rfl, by rw [e]; simp, ?_⟩
  ·unfold b_Z10_f0
   refine (mset_ev (d := .str (T ++ " " ++ tS n)) ?_).trans rfl
   refine (m2_at (a := .str (T ++ " ")) (b := .str (tS n)) ((m2_at (a := .str T) (b := .str " ") rfl rfl).trans (addS_ev (by omega))) ((call1_ev (acons_ev (d := .int n) rfl anil_ev)).trans (strF_ev hn))).trans (addS_ev ?_)
   rw [PySem.Str.length_append]; omega
  ·rw [cl_app, cl_app, hT, led_app]
   show led a ++ [32] ++ cl (tS n) = led a ++ (32 :: (cl (tS n) ++ []))
   simp
 ·rintro ρ ⟨T, a, x, rfl, e, hT⟩
  rw [append_nil] at e
  subst e
  exact ⟨T, x, rfl, hT⟩
 ·rintro o ⟨T, x, rfl, hT⟩
  have l2 : T.length <= 32 * ns.length := by rw [<- cl_len, hT]; exact led_len h
  have hsl := mcutS_ev (m := mvar 1) (lo := osome (mc (.int 1))) (hi := onone) (ρ := [some (.sh (.lst (ns.map .int))), some (.sh (.str T)), x]) (z := T) (l := some 1) (h := none) rfl rfl rfl (by omega)
  have i2 : 2 <= sizeLine := le_size (by decide)
  have hz := sized_ev (m := acons (mcutS (mvar 1) (osome (mc (.int 1))) onone) (acons (mc (.str "none")) anil)) (ρ := [some (.sh (.lst (ns.map .int))), some (.sh (.str T)), x]) (acons_ev hsl (acons_ev (d := .str "none") rfl anil_ev)) i2
  unfold after
  refine mret_ev ?_
  cases ns with
  | nil =>
   have hq : call1 intF (acons (meqB false (bvar 0) (sized anil)) anil) [some (.sh (.lst (([] : List Int).map .int))), some (.sh (.str T)), x] = some (.int 1) := by
    have e1 := eqB_nilD (m := bvar 0) (ρ := [some (.sh (.lst (([] : List Int).map .int))), some (.sh (.str T)), x]) (ds := []) rfl false
    exact (call1_ev (acons_ev e1 anil_ev)).trans rfl
   rw [mix_ev hz hq, txt_nil]; rfl
  | cons n ns =>
   have hq : call1 intF (acons (meqB false (bvar 0) (sized anil)) anil) [some (.sh (.lst ((n :: ns).map .int))), some (.sh (.str T)), x] = some (.int 0) := by
    have e1 := eqB_nilD (m := bvar 0) (ρ := [some (.sh (.lst ((n :: ns).map .int))), some (.sh (.str T)), x]) (ds := (n :: ns).map .int) rfl false
    exact (call1_ev (acons_ev e1 anil_ev)).trans rfl
   rw [mix_ev hz hq, txt_cons]
   show some (D.str (Txt.slice T (some 1) none)) = _
   rw [led_join] at hT
   rw [cl_ext (slice1 hT)]
theorem comp_noneL {α : Type} {f : α -> D} {mi : ML} {c : MB} {ρ : Ro} (xs : List α) (hi : mi ρ = some (xs.map fun x => D.tup [f x, f x])) (hl : xs.length <= 100000) (hc : ∀ x ∈ xs, c [some (.sh (f x)), some (.sh (f x))] = some false) :
  meqB false (mcomp [none, none] mi (.tp [0, 1]) c (mc (.int 1))) (sized anil) ρ = some (.bl true) := by
 have e : mcomp [none, none] mi (.tp [0, 1]) c (mc (.int 1)) ρ = some [] := by
  unfold mcomp
  rw [hi]
  refine (compD_filter (f := fun x => D.tup [f x, f x]) (p := fun _ => false) (G := fun _ => D.int 1) (fun ys ρ => (∀ x ∈ ys, x ∈ xs) /\ ∃ a b, ρ = [a, b])
   (by
    rintro x ds ρ ⟨hx, a, b, rfl⟩
    exact ⟨_, rfl, hc x (hx x (by simp)), fun z => (by cases z), fun y hy => hx y (by simp [hy]), _, _, rfl⟩) xs _ [] ⟨fun _ h => h, none, none, rfl⟩ (le_size (by simp; omega))).trans ?_
  rw [filter_none]; rfl
 rw [eqB_nilD e false]; rfl
theorem same0 (a : Int) : m_Z0 [.int a, .int a] = some (.sh (.bl true)) := by
 unfold m_Z0 b_Z0
 refine runB_rt ?_
 ((apply seqI; focus (simp_arith [ks_is]; rfl)))
 ((apply seqI; focus (simp_arith [misi2, k2_i]; rfl)))
 simp_arith [ks_ii, ks_ib, beq_self_eq_true]
theorem same1_lst (xs : List Int) (hl : xs.length <= 100000) : m_Z3 [.lst (xs.map .int), .lst (xs.map .int)] = some (.sh (.bl true)) := by
 unfold m_Z3 b_Z3
 refine runB_run ?_
 ((apply run_seq; focus (simp_arith [ks_ls]; rfl)))
 refine run_mseq (run_if (b := true) (by simp_arith [misi2, k2_l]) ?_)
 show Run (mseq _ _) _ _
 ((apply run_seq; focus (simp_arith [ks_ll, misi2, k2_l, eqS_bb, beq_self_eq_true, Bool.not_true, Bool.not_false]; rfl)))
 ((apply run_seq; focus (simp_arith [beq_self_eq_true, Bool.not_true]; rfl)))
 refine ⟨.rt (.bl true), ?_, rfl⟩
 have hc := comp_noneL (f := D.int) (mi := mlist zip2 (acons (mvar 0) (acons (mvar 1) anil))) (c := cnot (mtru (mcall m_Z0 (acons (mvar 0) (acons (mvar 1) anil))))) (ρ := [some (.sh (.lst (xs.map .int))), some (.sh (.lst (xs.map .int)))]) xs (by simp_arith [zip_self]) hl
  (by
   intro x hx
   unfold cnot mtru
   rw [mcall_sh (acons_ev (d := .int x) rfl (acons_ev (d := .int x) rfl anil_ev)) (same0 x)]; rfl)
 exact mret_ev hc
theorem same1_str (z : Str) : m_Z3 [.str z, .str z] = some (.sh (.bl true)) := by
 have k : kitB "str" "str" = some true := by decide +kernel
 unfold m_Z3 b_Z3
 refine runB_run ?_
 refine run_mseq ⟨.rt (.bl true), ?_, rfl⟩
 simp_arith [k, beq_self_eq_true]
noncomputable def fT : List Bool := [false, false, false, false, true, false, false, false]
theorem flags_eq : m_Z7 [.exc "NoText"] = some (.fr (fT.map .bl)) := by
 have x : ∀ {o : Option S} {b : Bool}, misX [("NoText", b)] (mvar 0) [some (.sh (.exc "NoText")), o] = some (.bl b) := fun {o b} => misX_ev (c := "NoText") rfl rfl
 have i4 : 0 + 1 + 1 + 1 + 1 <= sizeLine := le_size (by decide)
 have i3 : 0 + 1 + 1 + 1 <= sizeLine := le_size (by decide)
 have i1 : 0 + 1 <= sizeLine := le_size (by decide)
 unfold m_Z7 b_Z7
 refine runB_rf ?_
 refine seqI (ρ' := [some (.sh (.exc "NoText")), some (.sh (.lst [.bl false, .bl false, .bl false, .bl false]))]) ((mset_ev (mlst_ev (sized_ev (acons_ev x (acons_ev x (acons_ev x (acons_ev x anil_ev)))) i4))).trans rfl) ?_
 refine seqI (ρ' := [some (.sh (.exc "NoText")), some (.sh (.lst [.bl false, .bl false, .bl false, .bl false, .bl true, .bl false, .bl false]))]) ((mset_ev (mlst_ev (mcat_ev (ds := [.bl false, .bl false, .bl false, .bl false]) rfl (sized_ev (acons_ev x (acons_ev x (acons_ev x anil_ev))) i3) (le_size (by decide))))).trans rfl) ?_
 have nn : m1 notD (misX [("NoText", true)] (mvar 0)) [some (.sh (.exc "NoText")), some (.sh (.lst [.bl false, .bl false, .bl false, .bl false, .bl true, .bl false, .bl false]))] = some (.bl false) := by
  unfold m1; rw [x]; rfl
 unfold mretF
 rw [mcat_ev (ds := [.bl false, .bl false, .bl false, .bl false, .bl true, .bl false, .bl false]) rfl (sized_ev (acons_ev nn anil_ev) i1) (le_size (by decide))]
 rfl
noncomputable def TD1 (t : Str) : D := match RD t with | some vs => .lst (vs.map .int) | none => .str "text"
theorem told_eq (t : Str) (hl : t.length <= 50000) : m_Z11 [.str t] = some (.sh (TD1 t)) := by
 have i2 : 0 + 1 + 1 <= sizeLine := le_size (by decide)
 unfold m_Z11 b_Z11 TD1
 cases h : RD t with
 | some vs =>
  refine runB_rt ?_
  refine seqI (ρ' := [some (.sh (.str t)), some (.sh .non), none]) ((mset_ev (d := .non) rfl).trans rfl) ?_
  refine seqI (ρ' := [some (.sh (.str t)), some (.sh (.lst (vs.map .int))), none]) (try_ok ((mset_ev (mcall_fr (acons_ev (d := .str t) rfl anil_ev) (read_some t hl vs h))).trans rfl)) rfl
 | none =>
  obtain ⟨h1, h2⟩ := read_none t hl h
  refine runB_rt ?_
  refine seqI (ρ' := [some (.sh (.str t)), some (.sh .non), none]) ((mset_ev (d := .non) rfl).trans rfl) ?_
  refine seqI (ρ' := [some (.sh (.str t)), some (.sh (.str "text")), none]) ((try_x (c := "NoText") (ρ1 := [some (.sh (.str t)), some (.sh .non), none]) (ρ2 := [some (.sh (.str t)), some (.sh (.str "text")), some (.sh (.exc "NoText"))]) ?_ (xE_ev (xcall_ev (acons_ev (d := .str t) rfl anil_ev) h2)) (mem_cons_self ..) ?_).trans rfl) rfl
  ·unfold mset
   rw [mcall_no (acons_ev (d := .str t) rfl anil_ev) h1]
   rfl
  ·refine (mset_ev (d := .str "text") ?_).trans rfl
   have ec : mcomp [none] (mlist rng1 (acons (mc (.int 8)) anil)) (.nm 0) cyes (m2 eqSD (mvar 0) (mc (.int 4))) [some (.sh (.str t)), some (.sh .non), some (.sh (.exc "NoText"))] = some (fT.map .bl) := by
    unfold mcomp
    rw [show mlist rng1 (acons (mc (.int 8)) anil) [some (.sh (.str t)), some (.sh .non), some (.sh (.exc "NoText"))] = some (([0, 1, 2, 3, 4, 5, 6, 7] : List Int).map .int) by unfold mlist; rw [acons_ev (d := .int 8) rfl anil_ev, Option.bind_some, rng1_ok (okR_of (by decide) (by decide))]; rfl, Option.bind_some]
    refine (compD_map (f := D.int) (G := fun i => D.bl (i == 4)) (fun _ ρ => ∃ o, ρ = [o]) ?_ _ _ [] ⟨none, rfl⟩ (le_size (by decide))).trans rfl
    rintro i is ρ ⟨o, rfl⟩
    exact ⟨[some (.sh (.int i))], rfl, rfl, (m2_at (a := .int i) (b := .int 4) rfl rfl).trans rfl, _, rfl⟩
   have ef : aslst (mcall m_Z7 (acons (mvar 2) anil)) [some (.sh (.str t)), some (.sh .non), some (.sh (.exc "NoText"))] = some (fT.map .bl) := by
    unfold aslst
    rw [mcall_fr (acons_ev (d := .exc "NoText") rfl anil_ev) flags_eq]
   have eq : meqB false (aslst (mcall m_Z7 (acons (mvar 2) anil))) (mcomp [none] (mlist rng1 (acons (mc (.int 8)) anil)) (.nm 0) cyes (m2 eqSD (mvar 0) (mc (.int 4)))) [some (.sh (.str t)), some (.sh .non), some (.sh (.exc "NoText"))] = some (.bl true) := by
    unfold meqB
    rw [ec, ef]
    rfl
   exact mix_ev (sized_ev (acons_ev (d := .str "other") rfl (acons_ev (d := .str "text") rfl anil_ev)) i2) (k := 1) ((call1_ev (acons_ev eq anil_ev)).trans rfl) rfl
end
end
section
noncomputable def nD (w : Str) : D := if okW (cl w) then .int (iv w) else .non
theorem number_nD (w : Str) (hl : w.length <= 100000) : m_Z4 [.str w] = some (.sh (nD w)) := by
 unfold nD
 cases h : okW (cl w) with
 | true => exact (okW_iv w hl h).2
 | false => exact (number_eq w hl).2 h
noncomputable def nV (w : Str) : V := if okW (cl w) then .int (iv w) else .non
theorem flVs_n : ∀ ws : List Str, flVs (ws.map nD) = some (ws.map nV)
 | [] => rfl
 | w :: ws => by
  have : flV (nD w) = some (nV w) := by unfold nD nV; split <;> rfl
  rw [map_cons, flVs, this, flVs_n ws]
  rfl
theorem in_none (ws : List Str) : inD false .non (.lst (ws.map nD)) = some (.bl (!ws.all fun w => okW (cl w))) := by
 show inDs false .non (ws.map nD) = _
 unfold inDs
 rw [flVs_n]
 show some (D.bl (inV .non (ws.map nV))) = _
 congr 2
 induction ws with
 | nil => rfl
 | cons w ws ih =>
  show (eqV (nV w) .non || inV .non (ws.map nV)) = _
  rw [ih]
  have : eqV (nV w) .non = !okW (cl w) := by
   unfold nV
   cases okW (cl w) <;> rfl
  rw [this, all_cons, Bool.not_and]
theorem same_TD1 (t : Str) (hl : t.length <= 50000) : m_Z3 [TD1 t, TD1 t] = some (.sh (.bl true)) := by
 unfold TD1
 cases h : RD t with
 | none => exact same1_str _
 | some vs =>
  refine same1_lst vs ?_
  unfold RD at h
  split at h
  ·cases h; simp
  ·split at h
   ·cases h
    have := split_len' t
    rw [length_map]
    omega
   ·cases h
theorem right_eq (t : Str) (hl : t.length <= 50000) : m_Z8 [.str t] = some (.sh (.bl true)) := by
 have big := size_big
 have i0 : 0 <= sizeLine := Nat.zero_le _
 have hw := words_short t hl
 have hlen := split_len' t
 have ec : mcomp [none] (aslst (mmeth splitF (mvar 0) (acons (mc (.str " ")) anil))) (.nm 0) cyes (mcall m_Z4 (acons (mvar 0) anil)) [some (.sh (.str t)), none] = some ((Txt.split t " ").map nD) := by
  unfold mcomp
  rw [show aslst (mmeth splitF (mvar 0) (acons (mc (.str " ")) anil)) [some (.sh (.str t)), none] = some ((Txt.split t " ").map D.str) by unfold aslst; rw [split_evs t _ hl rfl], Option.bind_some]
  refine (compD_map (f := D.str) (G := nD) (fun ws ρ => (∃ o, ρ = [o]) /\ ∀ w ∈ ws, w.length <= 100000) ?_ (Txt.split t " ") _ [] ⟨⟨none, rfl⟩, hw⟩ (by simp; omega)).trans rfl
  rintro c cs ρ ⟨⟨o, rfl⟩, hc⟩
  exact ⟨[some (.sh (.str c))], rfl, rfl, mcall_sh (acons_ev (d := .str c) rfl anil_ev) (number_nD c (hc c (by simp))), ⟨_, rfl⟩, fun w hw => hc w (by simp [hw])⟩
 have e3 : ∀ d : D, inD false .non d = some (.bl (match RD t with | some _ => false | none => true)) -> (∀ vs, RD t = some vs -> d = .lst (vs.map .int)) -> mif (mtest (m2 (inD false) (mc .non) (mvar 1))) (mset 1 (mc (.str "text"))) mnext [some (.sh (.str t)), some (.sh d)] = some (.nx [some (.sh (.str t)), some (.sh (TD1 t))]) := fun d h1 h2 => by
  rw [mif_ev (mtest_ev ((m2_at (a := .non) (b := d) rfl rfl).trans h1))]
  unfold TD1
  cases h : RD t with
  | none => exact (mset_ev (d := .str "text") rfl).trans rfl
  | some vs => rw [h2 vs h]; rfl
 have last : mret (mand (mcall m_Z3 (acons (mcall m_Z11 (acons (mvar 0) anil)) (acons (mvar 1) anil))) (mcall m_Z3 (acons (mcall m_Z11 (acons (mvar 0) anil)) (acons (mvar 1) anil)))) [some (.sh (.str t)), some (.sh (TD1 t))] = some (.rt (.bl true)) := by
  have e : mcall m_Z3 (acons (mcall m_Z11 (acons (mvar 0) anil)) (acons (mvar 1) anil)) [some (.sh (.str t)), some (.sh (TD1 t))] = some (.bl true) := mcall_sh (acons_ev (mcall_sh (acons_ev (d := .str t) rfl anil_ev) (told_eq t hl)) (acons_ev (d := TD1 t) rfl anil_ev)) (same_TD1 t hl)
  refine mret_ev ?_
  unfold mand
  rw [e]
 unfold m_Z8 b_Z8
 refine runB_rt ?_
 refine seqI (ρ' := [some (.sh (.str t)), some (.sh (.lst ((Txt.split t " ").map nD)))]) ((mset_ev (mlst_ev ec)).trans rfl) ?_
 cases hn : (t == ("none" : Str)) with
 | true =>
  have hRD : RD t = some [] := by unfold RD; rw [hn]; rfl
  refine seqI (ρ' := [some (.sh (.str t)), some (.sh (.lst []))]) (by rw [mif_ev (none_ev t _), hn]; exact (mset_ev (mlst_ev (sized_ev anil_ev i0))).trans rfl) ?_
  refine seqI (e3 (.lst []) (by rw [hRD]; rfl) (fun vs h => by rw [hRD] at h; cases h; rfl)) last
 | false =>
  refine seqI (ρ' := [some (.sh (.str t)), some (.sh (.lst ((Txt.split t " ").map nD)))]) (by rw [mif_ev (none_ev t _), hn]; rfl) ?_
  refine seqI (e3 _ ?_ ?_) last
  ·rw [in_none]
   unfold RD
   rw [hn]
   cases (Txt.split t " ").all (fun w => okW (cl w)) <;> rfl
  ·intro vs h
   unfold RD at h
   rw [hn] at h
   simp only [Bool.false_eq_true, if_false] at h
   split at h
   ·rename_i ha
    cases h
    rw [all_eq_true] at ha
    congr 1
    rw [map_map]
    apply map_congr_left
    intro w hw'
    unfold nD
    rw [ha w hw']
    rfl
   ·cases h
end
section
noncomputable def sumL (ws : List Str) : Nat := (ws.map fun w => w.length).sum
theorem join_ev (ws : List Str) (hs : sumL ws <= 100000) (hn : ws.length <= 100000) : joinF " " [.lst (ws.map D.str)] = some (.str (Str.join " " ws)) := by
 have h1 : (" " : Str).length = 1 := by decide +kernel
 unfold joinF
 show (match strsD (ws.map D.str) with | some ys => if ((ys : List Str).map (fun x : Str => x.length)).sum + ys.length * (" " : Str).length <= 16777216 then some (D.str (Txt.join " " ys)) else none | none => none) = _
 rw [strsD_map]
 simp only [h1]
 unfold sumL at hs
 rw [if_pos (by omega)]
 show some (D.str (Builtin.Str.glued " " ws)) = _
 rw [StrLaws.glued_eq_join]
theorem join_len : ∀ ws : List Str, (Str.join " " ws).length <= sumL ws + ws.length
 | [] => by
  have : (Str.join " " []).length = 0 := by decide +kernel
  omega
 | [a] => by
  show a.length <= _
  unfold sumL; simp
 | a :: b :: r => by
  have ih := join_len (b :: r)
  rw [<- cl_len, join_cl, length_append, length_cons, cl_len, cl_len]
  unfold sumL at ih ⊢
  simp only [map_cons, sum_cons, length_cons] at ih ⊢
  omega
theorem sum_join : ∀ ws : List Str, ws ≠ [] -> sumL ws + ws.length = (Str.join " " ws).length + 1
 | [], h => absurd rfl h
 | [a], _ => by
  show sumL [a] + 1 = a.length + 1
  unfold sumL; simp
 | a :: b :: r, _ => by
  have ih := sum_join (b :: r) (by simp)
  have e : (Str.join " " (a :: b :: r)).length = a.length + ((Str.join " " (b :: r)).length + 1) := by
   rw [<- cl_len, join_cl, length_append, cl_len]
   simp only [length_cons, cl_len]
  rw [e]
  unfold sumL at ih ⊢
  simp only [map_cons, sum_cons, length_cons] at ih ⊢
  omega
theorem split_ne (t : Str) : Txt.split t " " ≠ [] := fun e => by
 have := PyProof.Rows.split_pos t " "
 rw [e] at this; simp at this
theorem split_sum (t : Str) : sumL (Txt.split t " ") + (Txt.split t " ").length = t.length + 1 := by
 have := sum_join _ (split_ne t)
 rw [StrLaws.join_split] at this
 exact this
theorem sum_erase : ∀ (ws : List Str) (i : Nat), sumL (ws.eraseIdx i) <= sumL ws /\ (ws.eraseIdx i).length <= ws.length
 | [], _ => by simp
 | w :: ws, 0 => by unfold sumL; simp
 | w :: ws, i + 1 => by
  have := sum_erase ws i
  unfold sumL at this ⊢
  simp only [eraseIdx_cons_succ, map_cons, sum_cons, length_cons] at this ⊢
  omega
theorem sum_set (w : Str) : ∀ (ws : List Str) (i : Nat), sumL (ws.set i w) <= sumL ws + w.length
 | [], _ => by simp [sumL]
 | a :: ws, 0 => by unfold sumL; simp; omega
 | a :: ws, i + 1 => by
  have := sum_set w ws i
  unfold sumL at this ⊢
  simp only [set_cons_succ, map_cons, sum_cons] at this ⊢
  omega
theorem sum_ins (w : Str) (ws : List Str) (i : Nat) : sumL (ws.take i ++ w :: ws.drop i) = sumL ws + w.length := by
 have : sumL (ws.take i ++ ws.drop i) = sumL ws := by rw [take_append_drop]
 unfold sumL at this ⊢
 simp only [map_append, map_cons, sum_append, sum_cons] at this ⊢
 omega
theorem len_app (x y : Str) : (x ++ y).length = x.length + y.length := by
 rw [<- cl_len, cl_app, length_append, cl_len, cl_len]
theorem cutS_some {m : ME} {lo hi : MO} {ρ : Ro} {z : Str} {l h : Option Int} (h1 : m ρ = some (.str z)) (h2 : lo ρ = some l) (h3 : hi ρ = some h) (hz : z.length <= 50000) : ∃ y : Str, y.length <= z.length /\ mcutS m lo hi ρ = some (.str y) := by
 have big := size_big
 exact ⟨_, Txt.slice_le z l h, mcutS_ev h1 h2 h3 (by omega)⟩
theorem addS_some {x y : ME} {ρ : Ro} {u v : Str} (h1 : x ρ = some (.str u)) (h2 : y ρ = some (.str v)) (h : u.length + v.length <= 200000) : m2 addSD x y ρ = some (.str (u ++ v)) := by
 have big := size_big
 rw [m2_at h1 h2]
 exact addS_ev (by omega)
theorem ixS_some (z : Str) (i : Int) (hz : z.length <= 50000) (h0 : 0 <= i) (h1 : i < z.length) : ∃ y : Str, y.length = 1 /\ ixSD (.str z) (.int i) = some (.str y) := by
 have big := size_big
 have hl : z.cps.toList.length = z.length := Array.length_toList
 unfold ixSD
 simp only
 rw [if_pos (by omega)]
 have : ∃ q, atI z.cps.toList i = some q := by
  unfold atI
  rw [ixN_in h0 (by rw [hl]; omega)]
  exact ⟨_, getElem?_eq_getElem (by rw [hl]; omega)⟩
 obtain ⟨q, e⟩ := this
 rw [e]
 exact ⟨⟨#[q]⟩, rfl, rfl⟩
theorem sign_eq (c k : Int) (hk : 0 <= k) : ∃ y : Str, y.length = 1 /\ m_Z14 [.int c, .int k] = some (.sh (.str y)) := by
 have i2 : 0 + 1 + 1 <= sizeLine := le_size (by decide)
 have s1 := stir_eq c k hk
 have s2 := stir_eq c (k + 1) (by omega)
 have q2 : ∀ i, modOk i 2 = true := fun i => modOk_of _ _ (by decide)
 have m2' := mod_cases (x := stir c k) (show (0 : Int) < 2 by decide)
 generalize hA : (" !\"#$&'()*+,-./0123456789:;<=>?@ABCDEFGHIJKLMNOP" : Str) = A
 generalize hB : ("QRSTUVWXYZ[\\]^_`abcdefghijklmnopqrstuvwxyz{|}~\n" : Str) = B
 have lA : 0 < A.length /\ A.length <= 100 := by rw [<- hA]; decide +kernel
 have lB : B.length <= 100 := by rw [<- hB]; decide +kernel
 obtain ⟨m, hm, em⟩ : ∃ m : Str, (0 < m.length /\ m.length <= 200) /\ atI [D.str "0019 --", .str (A ++ B)] (stir c k % 2) = some (.str m) := by
  have : stir c k % 2 = 0 \/ stir c k % 2 = 1 := by omega
  rcases this with h | h <;> rw [h]
  ·exact ⟨"0019 --", by decide +kernel, rfl⟩
  ·exact ⟨A ++ B, by rw [len_app]; omega, rfl⟩
 have qm : modOk (stir c (k + 1)) (m.length : Int) = true := modOk_of _ _ (by omega)
 have mm := mod_cases (x := stir c (k + 1)) (show (0 : Int) < (m.length : Int) by omega)
 obtain ⟨y, hy, ey⟩ := ixS_some m (stir c (k + 1) % (m.length : Int)) (by omega) mm.1 mm.2
 refine ⟨y, hy, ?_⟩
 unfold m_Z14 b_Z14
 rw [hA, hB]
 refine runB_rt ?_
 refine seqI (ρ' := [some (.sh (.int c)), some (.sh (.int k)), some (.sh (.str A)), none]) ((mset_ev (d := .str A) rfl).trans rfl) ?_
 refine seqI (ρ' := [some (.sh (.int c)), some (.sh (.int k)), some (.sh (.str (A ++ B))), none]) ((mset_ev (addS_some (u := A) (v := B) rfl rfl (by omega))).trans rfl) ?_
 refine seqI (ρ' := [some (.sh (.int c)), some (.sh (.int k)), some (.sh (.str (A ++ B))), some (.sh (.str m))]) ((mset_ev (mix_ev (sized_ev (acons_ev (d := .str "0019 --") rfl (acons_ev (d := .str (A ++ B)) rfl anil_ev)) i2) ((m2_at (mcall_sh (acons_ev (d := .int c) rfl (acons_ev (d := .int k) rfl anil_ev)) s1) (b := .int 2) rfl).trans ?_) em)).trans rfl) ?_
 ·show (if modOk (stir c k) 2 = true then some (D.int (stir c k % 2)) else none) = _
  rw [if_pos (q2 _)]
 refine mret_ev ?_
 have ei : m2 modD (mcall m_Z12 (acons (mvar 0) (acons (m2 addD (mvar 1) (mc (.int 1))) anil))) (call1 lenF (acons (mvar 3) anil)) [some (.sh (.int c)), some (.sh (.int k)), some (.sh (.str (A ++ B))), some (.sh (.str m))] = some (.int (stir c (k + 1) % (m.length : Int))) := by
  have e3 : call1 lenF (acons (mvar 3) anil) [some (.sh (.int c)), some (.sh (.int k)), some (.sh (.str (A ++ B))), some (.sh (.str m))] = some (.int (m.length : Int)) := by
   rw [call1_ev (acons_ev (d := .str m) rfl anil_ev)]
   show (if m.length <= sizeLine then some (D.int m.length) else none) = _
   rw [if_pos (le_size (by omega))]
  rw [m2_at (mcall_sh (acons_ev (d := .int c) rfl (acons_ev (d := .int (k + 1)) ((m2_at (a := .int k) (b := .int 1) rfl rfl).trans rfl) anil_ev)) s2) e3]
  show (if modOk (stir c (k + 1)) (m.length : Int) = true then some (D.int (stir c (k + 1) % (m.length : Int))) else none) = _
  rw [if_pos qm]
 rw [m2_at (a := .str m) rfl ei]
 exact ey
end
section
noncomputable def eS (c k : Int) (t : Str) (o3 o4 o5 o6 o7 o8 : Option S) : Ro := [some (.sh (.int c)), some (.sh (.int k)), some (.sh (.str t)), o3, o4, o5, o6, o7, o8]
theorem splF_ev {x y : ME} {ρ : Ro} {t : Str} (h1 : x ρ = some (.str t)) (h2 : y ρ = some (.str " ")) (hl : t.length <= 50000) : msplF x y ρ = some ((Txt.split t " ").map D.str) := by
 have big := size_big
 have hb : (" " : Str).length = 1 := by decide +kernel
 unfold msplF
 rw [h1, h2]
 simp only
 rw [if_pos ⟨by rw [hb]; rfl, by omega⟩]
theorem at_str (ws : List Str) (i : Int) (h0 : 0 <= i) (h1 : i < ws.length) : ∃ w ∈ ws, atI (ws.map D.str) i = some (.str w) := by
 have h : i.toNat < ws.length := by omega
 refine ⟨ws[i.toNat], getElem_mem h, ?_⟩
 unfold atI
 rw [ixN_in h0 (by rw [length_map]; omega)]
 show (ws.map D.str)[i.toNat]? = _
 rw [getElem?_map, getElem?_eq_getElem h]
 rfl
theorem mod_at {x y : ME} {ρ : Ro} {a n : Int} (h1 : x ρ = some (.int a)) (h2 : y ρ = some (.int n)) (hn : 0 < n) : m2 modD x y ρ = some (.int (a % n)) := by
 rw [m2_at h1 h2]
 show (if modOk a n = true then some (D.int (a % n)) else none) = _
 rw [if_pos (modOk_of _ _ hn)]
theorem odd1_ev (ρ : Ro) : ∃ os : List Str, os.length = 16 /\ (∀ w ∈ os, w.length <= 40) /\ (mset 7 (mlst (sized (acons (mc (.str "0")) (acons (mc (.str "-0")) (acons (mc (.str "00")) (acons (mc (.str "01")) (acons (mc (.str "-01")) (acons (mc (.str "+1")) (acons (mc (.str "")) (acons (mc (.str "-")) (acons (mc (.str "--1")) (acons (mc (.str "1-")) (acons (mc (.str "none")) (acons (mc (.str "nones")) (acons (mc (.str "None")) (acons (mc (.str "1_0")) (acons (mc (.str "1.0")) (acons (mc (.str "x")) anil))))))))))))))))))) ρ = some (.nx (ρ.set 7 (some (.sh (.lst (os.map D.str)))))) := by
 refine ⟨["0", "-0", "00", "01", "-01", "+1", "", "-", "--1", "1-", "none", "nones", "None", "1_0", "1.0", "x"], rfl, by decide +kernel, ?_⟩
 exact (mset_ev (mlst_ev (sized_ev (acons_ev rfl (acons_ev rfl (acons_ev rfl (acons_ev rfl (acons_ev rfl (acons_ev rfl (acons_ev rfl (acons_ev rfl (acons_ev rfl (acons_ev rfl (acons_ev rfl (acons_ev rfl (acons_ev rfl (acons_ev rfl (acons_ev rfl (acons_ev rfl anil_ev)))))))))))))))) (le_size (by decide))))).trans rfl
theorem mul_at (z : Str) (n : Int) (ρ : Ro) (h : mulSOk z n = true) : m2 mulSD (mc (.str z)) (mc (.int n)) ρ = some (.str (Txt.mul z n)) := by
 rw [m2_at (a := .str z) (b := .int n) rfl rfl]
 show (if mulSOk z n = true then some (D.str (Txt.mul z n)) else none) = _
 rw [if_pos h]
theorem odd2_ev (ρ : Ro) (os : List Str) (hr : bvar 7 ρ = some (os.map D.str)) (h16 : os.length = 16) (ho : ∀ w ∈ os, w.length <= 40) : ∃ qs : List Str, qs.length = 22 /\ (∀ w ∈ qs, w.length <= 40) /\ (mset 7 (mlst (mcat (bvar 7) (sized (acons (m2 mulSD (mc (.str "1")) (mc (.int 30))) (acons (m2 mulSD (mc (.str "1")) (mc (.int 31))) (acons (m2 addSD (mc (.str "-")) (m2 mulSD (mc (.str "9")) (mc (.int 30)))) (acons (m2 addSD (mc (.str "-")) (m2 mulSD (mc (.str "9")) (mc (.int 31)))) (acons (m2 mulSD (mc (.str "0")) (mc (.int 31))) (acons (m2 mulSD (mc (.str "-1")) (mc (.int 2))) anil)))))))))) ρ = some (.nx (ρ.set 7 (some (.sh (.lst (qs.map D.str)))))) := by
 have big := size_big
 have l1 : (Txt.mul "1" 30).length <= 40 := by decide +kernel
 have l2 : (Txt.mul "1" 31).length <= 40 := by decide +kernel
 have l3 : (("-" : Str) ++ Txt.mul "9" 30).length <= 40 := by decide +kernel
 have l4 : (("-" : Str) ++ Txt.mul "9" 31).length <= 40 := by decide +kernel
 have l5 : (Txt.mul "0" 31).length <= 40 := by decide +kernel
 have l6 : (Txt.mul "-1" 2).length <= 40 := by decide +kernel
 have l7 : ("-" : Str).length + (Txt.mul "9" 30).length <= 200000 := by rw [<- len_app]; omega
 have l8 : ("-" : Str).length + (Txt.mul "9" 31).length <= 200000 := by rw [<- len_app]; omega
 refine ⟨os ++ [Txt.mul "1" 30, Txt.mul "1" 31, "-" ++ Txt.mul "9" 30, "-" ++ Txt.mul "9" 31, Txt.mul "0" 31, Txt.mul "-1" 2], by simp [h16], ?_, ?_⟩
 ·intro w hw
  rcases List.mem_append.mp hw with h | h
  ·exact ho w h
  ·simp only [mem_cons, not_mem_nil, or_false] at h
   rcases h with h | h | h | h | h | h <;> subst h <;> assumption
 ·rw [mset_ev (mlst_ev (mcat_ev hr (sized_ev (acons_ev (mul_at "1" 30 ρ (by decide +kernel)) (acons_ev (mul_at "1" 31 ρ (by decide +kernel)) (acons_ev (addS_some (u := "-") rfl (mul_at "9" 30 ρ (by decide +kernel)) l7) (acons_ev (addS_some (u := "-") rfl (mul_at "9" 31 ρ (by decide +kernel)) l8) (acons_ev (mul_at "0" 31 ρ (by decide +kernel)) (acons_ev (mul_at "-1" 2 ρ (by decide +kernel)) anil_ev)))))) (le_size (by decide))) (by rw [length_map, h16]; simp; omega))), map_append]
  rfl
theorem popAt_ev {i : Nat} {x : ME} {ρ : Ro} {ds : List D} {k : Int} (h1 : ρ[i]? = some (some (.own ds))) (h2 : x ρ = some (.int k)) (h : 0 <= k /\ k < (ds.length : Int) /\ ds.length <= sizeLine) : mpopAt i x ρ = some (.nx (ρ.set i (some (.own (ds.eraseIdx k.toNat))))) := by
 unfold mpopAt; rw [h1, h2]; simp only; rw [if_pos h]
theorem ins_ev {i : Nat} {x y : ME} {ρ : Ro} {ds : List D} {k : Int} {d : D} (h1 : ρ[i]? = some (some (.own ds))) (h2 : x ρ = some (.int k)) (h3 : y ρ = some d) (h : 0 <= k /\ k < (ds.length : Int) /\ ds.length < sizeLine) : mins i x y ρ = some (.nx (ρ.set i (some (.own (ds.take k.toNat ++ d :: ds.drop k.toNat))))) := by
 unfold mins; rw [h1, h2, h3]; simp only; rw [if_pos h]
theorem setix_ev {i : Nat} {x y : ME} {ρ : Ro} {ds : List D} {k : Int} {d : D} (h1 : ρ[i]? = some (some (.own ds))) (h2 : x ρ = some (.int k)) (h3 : y ρ = some d) (h : 0 <= k /\ k < (ds.length : Int)) : msetix i x y ρ = some (.nx (ρ.set i (some (.own (ds.set k.toNat d))))) := by
 unfold msetix; rw [h3, h1]; simp only [Option.bind_some]; rw [h2]; simp only [Option.bind_some]; rw [ixN_in h.1 h.2]; rfl
end
section
theorem mlen_ev {m : ML} {ρ : Ro} {ds : List D} (h : m ρ = some ds) : mlen m ρ = some (.int ds.length) := by unfold mlen; rw [h]; rfl
theorem map_erase : ∀ (ws : List Str) (i : Nat), (ws.eraseIdx i).map D.str = (ws.map D.str).eraseIdx i
 | [], _ => rfl
 | _ :: _, 0 => rfl
 | w :: ws, i + 1 => by simp [map_erase ws i]
theorem join_end (c k : Int) (t : Str) (o3 o4 o6 o7 o8 : Option S) (ws : List Str) (hs : sumL ws <= 100000) (hn : ws.length <= 100000) : mfreeze 5 (mret (mmeth joinF (mc (.str " ")) (acons (mvar 5) anil))) (eS c k t o3 o4 (some (.own (ws.map D.str))) o6 o7 o8) = some (.rt (.str (Str.join " " ws))) := by
 unfold mfreeze
 show mret (mmeth joinF (mc (.str " ")) (acons (mvar 5) anil)) (eS c k t o3 o4 (some (.sh (.lst (ws.map D.str)))) o6 o7 o8) = _
 refine mret_ev ?_
 rw [mmeth_ev (z := " ") rfl (acons_ev (d := .lst (ws.map D.str)) rfl anil_ev)]
 exact join_ev ws hs hn
theorem tail_ev (c k : Int) (hk : 0 <= k) (t : Str) (hl : t.length <= 40000) (a kind one : Int) (w : Str) (hw : w.length <= 40) (o7 : Option S) (hkind : 0 <= kind /\ kind < 6) (h1 : 0 <= one /\ one < ((Txt.split t " ").length : Int)) : ∃ t' : Str, t'.length <= 2 * t.length + 100 /\ (mseq (mif (mtest (m2 eqSD (mvar 4) (mc (.int 0)))) (mret (m2 addSD (mcutS (mvar 2) onone (osome (mvar 3))) (mcutS (mvar 2) (osome (m2 addD (mvar 3) (mc (.int 1)))) onone))) mnext) (mseq (mif (mtest (m2 ltD (mvar 4) (mc (.int 3)))) (mret (m2 addSD (m2 addSD (mcutS (mvar 2) onone (osome (mvar 3))) (mcall m_Z14 (acons (mvar 0) (acons (m2 addD (mvar 1) (mc (.int 4))) anil)))) (mcutS (mvar 2) (osome (m2 subD (m2 addD (mvar 3) (mvar 4)) (mc (.int 1)))) onone))) mnext) (mseq (mif (mtest (m2 eqSD (mvar 4) (mc (.int 3)))) (mpopAt 5 (mvar 6)) (mif (mtest (m2 eqSD (mvar 4) (mc (.int 4)))) (msetix 5 (mvar 6) (mvar 8)) (mins 5 (mvar 6) (mvar 8)))) (mfreeze 5 (mret (mmeth joinF (mc (.str " ")) (acons (mvar 5) anil))))))) (eS c k t (some (.sh (.int a))) (some (.sh (.int kind))) (some (.own ((Txt.split t " ").map D.str))) (some (.sh (.int one))) o7 (some (.sh (.str w)))) = some (.rt (.str t')) := by
 have big := size_big
 have hsum := split_sum t
 generalize hρ : eS c k t (some (.sh (.int a))) (some (.sh (.int kind))) (some (.own ((Txt.split t " ").map D.str))) (some (.sh (.int one))) o7 (some (.sh (.str w))) = ρ
 have v2 : mvar 2 ρ = some (.str t) := by rw [<- hρ]; rfl
 have v3 : mvar 3 ρ = some (.int a) := by rw [<- hρ]; rfl
 have v4 : mvar 4 ρ = some (.int kind) := by rw [<- hρ]; rfl
 have v6 : mvar 6 ρ = some (.int one) := by rw [<- hρ]; rfl
 have v8 : mvar 8 ρ = some (.str w) := by rw [<- hρ]; rfl
 have r5 : ρ[5]? = some (some (.own ((Txt.split t " ").map D.str))) := by rw [<- hρ]; rfl
 have os : ∀ {x : ME} {i : Int}, x ρ = some (.int i) -> osome x ρ = some (some i) := fun h => by unfold osome; rw [h]; rfl
 have a1 : m2 addD (mvar 3) (mc (.int 1)) ρ = some (.int (a + 1)) := (m2_at v3 (b := .int 1) rfl).trans rfl
 have lw : ((Txt.split t " ").map D.str).length = (Txt.split t " ").length := length_map ..
 by_cases k0 : kind = 0
 ·obtain ⟨x, lx, ex⟩ := cutS_some (lo := onone) (hi := osome (mvar 3)) v2 rfl (os v3) (by omega)
  obtain ⟨y, ly, ey⟩ := cutS_some (lo := osome (m2 addD (mvar 3) (mc (.int 1)))) (hi := onone) v2 (os a1) rfl (by omega)
  refine ⟨x ++ y, by rw [len_app]; omega, ?_⟩
  unfold mseq
  rw [mif_ev (tI_ev v4), k0]
  show (match mret _ ρ with | some (.nx ρ') => _ | o => o) = _
  rw [mret_ev (addS_some ex ey (by omega))]
 have n0 : mif (mtest (m2 eqSD (mvar 4) (mc (.int 0)))) (mret (m2 addSD (mcutS (mvar 2) onone (osome (mvar 3))) (mcutS (mvar 2) (osome (m2 addD (mvar 3) (mc (.int 1)))) onone))) mnext ρ = some (.nx ρ) := by
  rw [mif_ev (tI_ev v4), beq_eq_false_iff_ne.mpr k0]; rfl
 by_cases k3 : kind < 3
 ·obtain ⟨x, lx, ex⟩ := cutS_some (lo := onone) (hi := osome (mvar 3)) v2 rfl (os v3) (by omega)
  have a2 : m2 subD (m2 addD (mvar 3) (mvar 4)) (mc (.int 1)) ρ = some (.int (a + kind - 1)) := (m2_at ((m2_at v3 v4).trans rfl) (b := .int 1) rfl).trans rfl
  obtain ⟨y, ly, ey⟩ := cutS_some (lo := osome (m2 subD (m2 addD (mvar 3) (mvar 4)) (mc (.int 1)))) (hi := onone) v2 (os a2) rfl (by omega)
  obtain ⟨z, lz, ez⟩ := sign_eq c (k + 4) (by omega)
  have es : mcall m_Z14 (acons (mvar 0) (acons (m2 addD (mvar 1) (mc (.int 4))) anil)) ρ = some (.str z) := by
   refine mcall_sh (acons_ev (d := .int c) (by rw [<- hρ]; rfl) (acons_ev (d := .int (k + 4)) ((m2_at (a := .int k) (b := .int 4) (by rw [<- hρ]; rfl) rfl).trans rfl) anil_ev)) ez
  refine ⟨x ++ z ++ y, by rw [len_app, len_app]; omega, seqI n0 ?_⟩
  unfold mseq
  rw [mif_ev (tLt_ev v4 (k := 3) rfl), decide_eq_true k3]
  show (match mret _ ρ with | some (.nx ρ') => _ | o => o) = _
  rw [mret_ev (addS_some (addS_some ex es (by omega)) ey (by rw [len_app]; omega))]
 refine ?_
 have n1 : ∀ m : MS, mif (mtest (m2 ltD (mvar 4) (mc (.int 3)))) m mnext ρ = some (.nx ρ) := fun m => by
  rw [mif_ev (tLt_ev v4 (k := 3) rfl), decide_eq_false k3]; rfl
 by_cases k3' : kind = 3
 ·have := sum_erase (Txt.split t " ") one.toNat
  have hj := join_len ((Txt.split t " ").eraseIdx one.toNat)
  refine ⟨Str.join " " ((Txt.split t " ").eraseIdx one.toNat), by omega, seqI n0 (seqI (n1 _) (seqI (ρ' := eS c k t (some (.sh (.int a))) (some (.sh (.int kind))) (some (.own (((Txt.split t " ").eraseIdx one.toNat).map D.str))) (some (.sh (.int one))) o7 (some (.sh (.str w)))) ?_ (join_end _ _ _ _ _ _ _ _ _ (by omega) (by omega))))⟩
  rw [mif_ev (tI_ev v4), show (kind == 3) = true from beq_iff_eq.mpr k3']
  show mpopAt 5 (mvar 6) ρ = _
  rw [popAt_ev r5 v6 ⟨h1.1, by rw [lw]; exact h1.2, by rw [lw]; omega⟩, <- map_erase, <- hρ]
  rfl
 have nk : ∀ x y : MS, mif (mtest (m2 eqSD (mvar 4) (mc (.int 3)))) x y ρ = y ρ := fun x y => by rw [mif_ev (tI_ev v4), beq_eq_false_iff_ne.mpr k3']; rfl
 by_cases k4 : kind = 4
 ·have := sum_set w (Txt.split t " ") one.toNat
  have hj := join_len ((Txt.split t " ").set one.toNat w)
  have hsl : ((Txt.split t " ").set one.toNat w).length = (Txt.split t " ").length := length_set ..
  refine ⟨Str.join " " ((Txt.split t " ").set one.toNat w), by omega, seqI n0 (seqI (n1 _) (seqI (ρ' := eS c k t (some (.sh (.int a))) (some (.sh (.int kind))) (some (.own (((Txt.split t " ").set one.toNat w).map D.str))) (some (.sh (.int one))) o7 (some (.sh (.str w)))) ?_ (join_end _ _ _ _ _ _ _ _ _ (by omega) (by omega))))⟩
  rw [nk, mif_ev (tI_ev v4), show (kind == 4) = true from beq_iff_eq.mpr k4]
  show msetix 5 (mvar 6) (mvar 8) ρ = _
  rw [setix_ev r5 v6 v8 ⟨h1.1, by rw [lw]; exact h1.2⟩, map_set, <- hρ]
  rfl
 ·have := sum_ins w (Txt.split t " ") one.toNat
  have hj := join_len ((Txt.split t " ").take one.toNat ++ w :: (Txt.split t " ").drop one.toNat)
  have hsl : ((Txt.split t " ").take one.toNat ++ w :: (Txt.split t " ").drop one.toNat).length = (Txt.split t " ").length + 1 := by
   rw [length_append, length_cons, length_take, length_drop]; omega
  refine ⟨Str.join " " ((Txt.split t " ").take one.toNat ++ w :: (Txt.split t " ").drop one.toNat), by omega, seqI n0 (seqI (n1 _) (seqI (ρ' := eS c k t (some (.sh (.int a))) (some (.sh (.int kind))) (some (.own (((Txt.split t " ").take one.toNat ++ w :: (Txt.split t " ").drop one.toNat).map D.str))) (some (.sh (.int one))) o7 (some (.sh (.str w)))) ?_ (join_end _ _ _ _ _ _ _ _ _ (by omega) (by omega))))⟩
  rw [nk, mif_ev (tI_ev v4), beq_eq_false_iff_ne.mpr k4]
  show mins 5 (mvar 6) (mvar 8) ρ = _
  rw [ins_ev r5 v6 v8 ⟨h1.1, by rw [lw]; exact h1.2, by rw [lw]; omega⟩, map_append, map_cons, map_take, map_drop, <- hρ]
  rfl
theorem spoilt_eq (c k : Int) (hk : 0 <= k) (t : Str) (hl : t.length <= 40000) : ∃ t' : Str, t'.length <= 2 * t.length + 100 /\ m_Z5 [.int c, .int k, .str t] = some (.sh (.str t')) := by
 have big := size_big
 have s0 := stir_eq c k hk
 have s1 := stir_eq c (k + 1) (by omega)
 have s2 := stir_eq c (k + 2) (by omega)
 have s3 := stir_eq c (k + 3) (by omega)
 have hne := split_ne t
 have hpos : 0 < (Txt.split t " ").length := List.length_pos_iff.mpr hne
 obtain ⟨os, o1, o2, o3⟩ := odd1_ev (eS c k t (some (.sh (.int (stir c k % ((t.length : Int) + 1))))) (some (.sh (.int (stir c (k + 1) % 6)))) (some (.own ((Txt.split t " ").map D.str))) (some (.sh (.int (stir c (k + 2) % ((Txt.split t " ").length : Int))))) none none)
 obtain ⟨qs, q1, q2, q3⟩ := odd2_ev (eS c k t (some (.sh (.int (stir c k % ((t.length : Int) + 1))))) (some (.sh (.int (stir c (k + 1) % 6)))) (some (.own ((Txt.split t " ").map D.str))) (some (.sh (.int (stir c (k + 2) % ((Txt.split t " ").length : Int))))) (some (.sh (.lst (os.map D.str)))) none) os rfl o1 o2
 have m22 := mod_cases (x := stir c (k + 3)) (show (0 : Int) < 22 by decide)
 obtain ⟨w, hw, ew⟩ := at_str qs (stir c (k + 3) % 22) m22.1 (by omega)
 obtain ⟨t', ht', et'⟩ := tail_ev c k hk t hl (stir c k % ((t.length : Int) + 1)) (stir c (k + 1) % 6) (stir c (k + 2) % ((Txt.split t " ").length : Int)) w (q2 w hw) (some (.sh (.lst (qs.map D.str)))) (mod_cases (by decide)) (mod_cases (by omega))
 have st : ∀ (ρ : Ro) (n m : Int), mvar 0 ρ = some (.int c) -> mvar 1 ρ = some (.int k) -> m_Z12 [.int c, .int (k + n)] = some (.sh (.int m)) -> mcall m_Z12 (acons (mvar 0) (acons (m2 addD (mvar 1) (mc (.int n))) anil)) ρ = some (.int m) := fun ρ n m h0 h1 h2 => mcall_sh (acons_ev h0 (acons_ev ((m2_at h1 (b := .int n) rfl).trans rfl) anil_ev)) h2
 refine ⟨t', ht', ?_⟩
 unfold m_Z5 b_Z5
 refine runB_rt ?_
 refine seqI (ρ' := eS c k t (some (.sh (.int (stir c k % ((t.length : Int) + 1))))) none none none none none) ((mset_ev (mod_at (mcall_sh (acons_ev (d := .int c) rfl (acons_ev (d := .int k) rfl anil_ev)) s0) (n := (t.length : Int) + 1) ?_ (by omega))).trans rfl) ?_
 ·rw [m2_at (a := .int t.length) ((call1_ev (acons_ev (d := .str t) rfl anil_ev)).trans (show (if t.length <= sizeLine then some (D.int t.length) else none) = _ from if_pos (by omega))) (b := .int 1) rfl]
  rfl
 refine seqI (ρ' := eS c k t (some (.sh (.int (stir c k % ((t.length : Int) + 1))))) (some (.sh (.int (stir c (k + 1) % 6)))) none none none none) ((mset_ev (mod_at (st _ 1 _ rfl rfl s1) (n := 6) rfl (by decide))).trans rfl) ?_
 refine seqI (ρ' := eS c k t (some (.sh (.int (stir c k % ((t.length : Int) + 1))))) (some (.sh (.int (stir c (k + 1) % 6)))) (some (.own ((Txt.split t " ").map D.str))) none none none) (by unfold msetF; rw [splF_ev (t := t) rfl rfl (by omega)]; rfl) ?_
 refine seqI (ρ' := eS c k t (some (.sh (.int (stir c k % ((t.length : Int) + 1))))) (some (.sh (.int (stir c (k + 1) % 6)))) (some (.own ((Txt.split t " ").map D.str))) (some (.sh (.int (stir c (k + 2) % ((Txt.split t " ").length : Int))))) none none) ((mset_ev (mod_at (st _ 2 _ rfl rfl s2) (n := ((Txt.split t " ").length : Int)) (by rw [mlen_ev (show bvar 5 _ = some ((Txt.split t " ").map D.str) from rfl), length_map]) (by omega))).trans rfl) ?_
 refine seqI (o3.trans rfl) (seqI (q3.trans rfl) ?_)
 refine seqI (ρ' := eS c k t (some (.sh (.int (stir c k % ((t.length : Int) + 1))))) (some (.sh (.int (stir c (k + 1) % 6)))) (some (.own ((Txt.split t " ").map D.str))) (some (.sh (.int (stir c (k + 2) % ((Txt.split t " ").length : Int))))) (some (.sh (.lst (qs.map D.str)))) (some (.sh (.str w)))) ((mset_ev (mix_ev (ds := qs.map D.str) rfl (mod_at (st _ 3 _ rfl rfl s3) (n := 22) (by rw [mlen_ev (show bvar 7 _ = some (qs.map D.str) from rfl), length_map, q1]; rfl) (by decide)) ew)).trans rfl) ?_
 exact et'
end
section
theorem txt_len40 {ns : List Int} (h : ∀ n ∈ ns, fine n) (hl : ns.length <= 40) : (txt ns).length <= 1300 := by
 cases ns with
 | nil => rw [txt_nil]; decide +kernel
 | cons n ns =>
  have h1 := led_len h
  rw [led_join] at h1
  rw [txt_cons, <- cl_len]
  simp only [length_cons] at h1 hl ⊢
  omega
noncomputable def eW (scr : D) (c : Int) (o2 o3 o4 o5 : Option S) : Ro := [some (.sh scr), some (.sh (.int c)), o2, o3, o4, o5]
theorem turn_ok (scr : D) (c : Int) (t : Str) (ht : t.length <= 1300) (j : Nat) (o4 o5 : Option S) : ∃ p4, b_Z15_f0 (eW scr c (some (.sh (.str t))) (some (.sh (.int (j : Int)))) o4 o5) = some (.nx (eW scr c (some (.sh (.str t))) (some (.sh (.int (j : Int)))) p4 o5)) := by
 have mo : mulOk 20 (j : Int) = true := mulOk_l _ _ (by decide) (by decide)
 have kk : ∀ (n : Int) (ρ : Ro), mvar 3 ρ = some (.int (j : Int)) -> m2 addD (mc (.int n)) (m2 mulD (mc (.int 20)) (mvar 3)) ρ = some (.int (n + 20 * (j : Int))) := fun n ρ h => by
  have e : m2 mulD (mc (.int 20)) (mvar 3) ρ = some (.int (20 * (j : Int))) := by
   rw [m2_at (a := .int 20) rfl h]
   show (if mulOk 20 (j : Int) = true then some (D.int (20 * (j : Int))) else none) = _
   rw [if_pos mo]
  exact (m2_at (a := .int n) rfl e).trans rfl
 obtain ⟨t1, h1, e1⟩ := spoilt_eq c (400 + 20 * (j : Int)) (by omega) t (by omega)
 obtain ⟨t2, h2, e2⟩ := spoilt_eq c (410 + 20 * (j : Int)) (by omega) t1 (by omega)
 refine ⟨some (.sh (.str t1)), ?_⟩
 unfold b_Z15_f0
 refine seqI (ρ' := eW scr c (some (.sh (.str t))) (some (.sh (.int (j : Int)))) (some (.sh (.str t1))) o5) ((mset_ev (mcall_sh (acons_ev (d := .int c) rfl (acons_ev (kk 400 _ rfl) (acons_ev (d := .str t) rfl anil_ev))) e1)).trans rfl) ?_
 have r1 : cnot (mtru (mcall m_Z8 (acons (mvar 4) anil))) (eW scr c (some (.sh (.str t))) (some (.sh (.int (j : Int)))) (some (.sh (.str t1))) o5) = some false := (cnot_ev (mtru_ev (mcall_sh (acons_ev (d := .str t1) rfl anil_ev) (right_eq t1 (by omega))))).trans rfl
 have r2 : cnot (mtru (mcall m_Z8 (acons (mcall m_Z5 (acons (mvar 1) (acons (m2 addD (mc (.int 410)) (m2 mulD (mc (.int 20)) (mvar 3))) (acons (mvar 4) anil)))) anil))) (eW scr c (some (.sh (.str t))) (some (.sh (.int (j : Int)))) (some (.sh (.str t1))) o5) = some false := (cnot_ev (mtru_ev (mcall_sh (acons_ev (mcall_sh (acons_ev (d := .int c) rfl (acons_ev (kk 410 _ rfl) (acons_ev (d := .str t1) rfl anil_ev))) e2) anil_ev) (right_eq t2 (by omega))))).trans rfl
 rw [mif_ev (cor_ev r1 r2)]
 rfl
theorem cell_ok (scr : D) (c : Int) (o2 o3 o4 o5 : Option S) : ∃ p2 p3 p4, b_Z15_f1 (eW scr c o2 o3 o4 o5) = some (.nx (eW scr c p2 p3 p4 o5)) := by
 obtain ⟨f, hf, hfine, en⟩ := numbers_eq c 40 (by decide) (by decide)
 have ht := txt_len40 hfine hf
 have et := law_text_eq f hfine (by omega)
 obtain ⟨o, e, p3, p4, rfl⟩ := forD_post (g := .nm 3) (body := b_Z15_f0) (f := fun (j : Nat) => D.int (j : Int)) (fun _ ρ => ∃ p3 p4, ρ = eW scr c (some (.sh (.str (txt f)))) p3 p4 o5) (fun o => ∃ p3 p4, o = .nx (eW scr c (some (.sh (.str (txt f)))) p3 p4 o5))
  (by
   rintro j js ρ ⟨p3, p4, rfl⟩
   obtain ⟨q4, e⟩ := turn_ok scr c (txt f) ht j p4 o5
   exact ⟨_, _, rfl, e, _, _, rfl⟩) (fun ρ h => by obtain ⟨p3, p4, rfl⟩ := h; exact ⟨_, _, rfl⟩) [0, 1, 2, 3, 4] _ ⟨o3, o4, rfl⟩
 refine ⟨some (.sh (.str (txt f))), p3, p4, ?_⟩
 unfold b_Z15_f1
 refine seqI (ρ' := eW scr c (some (.sh (.str (txt f)))) o3 o4 o5) ((mset_ev (mcall_sh (acons_ev (mcall_fr (acons_ev (d := .int c) rfl (acons_ev (d := .int 40) rfl anil_ev)) en) anil_ev) et)).trans rfl) ?_
 unfold mfor mlist
 rw [acons_ev (d := .int 5) rfl anil_ev, Option.bind_some, rng1_ok (okR_of (by decide) (by decide)), Option.bind_some, <- e]
 rfl
theorem all_right (ρ : Ro) (ws : List Str) (h : aslst (mvar 5) ρ = some (ws.map D.str)) (hl : ∀ w ∈ ws, w.length <= 50000) (hn : ws.length <= 1000) : mret (meqB false (mcomp [none] (aslst (mvar 5)) (.nm 0) (cnot (mtru (mcall m_Z8 (acons (mvar 0) anil)))) (mvar 0)) (sized anil)) ρ = some (.rt (.bl true)) := by
 have big := size_big
 have e : mcomp [none] (aslst (mvar 5)) (.nm 0) (cnot (mtru (mcall m_Z8 (acons (mvar 0) anil)))) (mvar 0) ρ = some [] := by
  unfold mcomp
  rw [h, Option.bind_some]
  refine (compD_filter (f := D.str) (p := fun _ => false) (G := D.str) (fun ys ρ => (∀ x ∈ ys, x.length <= 50000) /\ ∃ a, ρ = [a]) ?_ ws _ [] ⟨hl, none, rfl⟩ (by simp; omega)).trans (by simp)
  rintro x ds ρ ⟨hx, a, rfl⟩
  exact ⟨[some (.sh (.str x))], rfl, (cnot_ev (mtru_ev (mcall_sh (acons_ev (d := .str x) rfl anil_ev) (right_eq x (hx x (by simp)))))).trans rfl, fun z => (by cases z), fun y hy => hx y (by simp [hy]), _, rfl⟩
 refine mret_ev ?_
 unfold meqB
 rw [e, sized_ev anil_ev (Nat.zero_le _)]
 rfl
theorem rest_ok (ρ : Ro) (h5 : 5 < ρ.length) : b_Z15_r2 ρ = some (.rt (.bl true)) := by
 have big := size_big
 have g : ∀ (ρ : Ro) (d : D), 5 < ρ.length -> mvar 5 (ρ.set 5 (some (.sh d))) = some d := fun ρ d h => by
  unfold mvar
  rw [getElem?_set_self h]
 have l1 : (Txt.mul "1" 30).length <= 40 := by decide +kernel
 have l2 : (Txt.mul "1" 31).length <= 40 := by decide +kernel
 have l3 : (Txt.mul "0" 30).length <= 40 := by decide +kernel
 have l4 : (("-" : Str) ++ Txt.mul "1" 31).length <= 40 := by decide +kernel
 have l8 : ("-" : Str).length + (Txt.mul "1" 31).length <= 200000 := by rw [<- len_app]; omega
 have la : ∀ w ∈ (["", " ", "0", "-0", "00", "none", "none ", " none", "none 1", "1 none", "None", "1 ", " 1", "1  2", "1\n"] : List Str), w.length <= 40 := by decide +kernel
 have lb : ∀ w ∈ (["1\n2", "-", "--1", "+1", "1-", "1,2", "1 -2"] : List Str), w.length <= 40 := by decide +kernel
 unfold b_Z15_r2
 refine seqI (ρ' := ρ.set 5 (some (.sh (.lst ((["", " ", "0", "-0", "00", "none", "none ", " none", "none 1", "1 none", "None", "1 ", " 1", "1  2", "1\n"] : List Str).map D.str))))) ((mset_ev (mlst_ev (sized_ev (acons_ev rfl (acons_ev rfl (acons_ev rfl (acons_ev rfl (acons_ev rfl (acons_ev rfl (acons_ev rfl (acons_ev rfl (acons_ev rfl (acons_ev rfl (acons_ev rfl (acons_ev rfl (acons_ev rfl (acons_ev rfl (acons_ev rfl anil_ev))))))))))))))) (le_size (by decide))))).trans rfl) ?_
 generalize hA : (["", " ", "0", "-0", "00", "none", "none ", " none", "none 1", "1 none", "None", "1 ", " 1", "1  2", "1\n"] : List Str) = A at la
 have nA : A.length = 15 := by rw [<- hA]; rfl
 generalize hρ : ρ.set 5 (some (.sh (.lst (A.map D.str)))) = ρ1
 have l5 : 5 < ρ1.length := by rw [<- hρ, length_set]; exact h5
 have b5 : bvar 5 ρ1 = some (A.map D.str) := by
  have := g ρ (.lst (A.map D.str)) h5
  rw [hρ] at this
  rw [<- hρ]
  unfold bvar
  rw [getElem?_set_self h5]
 refine seqI (ρ' := ρ1.set 5 (some (.sh (.lst ((A ++ ((["1\n2", "-", "--1", "+1", "1-", "1,2", "1 -2"] : List Str) ++ [Txt.mul "1" 30, Txt.mul "1" 31, Txt.mul "0" 30, "-" ++ Txt.mul "1" 31])).map D.str))))) ?_ ?_
 ·rw [mset_ev (mlst_ev (mcat_ev b5 (sized_ev (acons_ev rfl (acons_ev rfl (acons_ev rfl (acons_ev rfl (acons_ev rfl (acons_ev rfl (acons_ev rfl (acons_ev (mul_at "1" 30 ρ1 (by decide +kernel)) (acons_ev (mul_at "1" 31 ρ1 (by decide +kernel)) (acons_ev (mul_at "0" 30 ρ1 (by decide +kernel)) (acons_ev (addS_some (u := "-") rfl (mul_at "1" 31 ρ1 (by decide +kernel)) l8) anil_ev))))))))))) (le_size (by decide))) (by rw [length_map, nA]; simp; omega))), map_append]
  rfl
 ·refine all_right _ (A ++ ((["1\n2", "-", "--1", "+1", "1-", "1,2", "1 -2"] : List Str) ++ [Txt.mul "1" 30, Txt.mul "1" 31, Txt.mul "0" 30, "-" ++ Txt.mul "1" 31])) ?_ ?_ ?_
  ·unfold aslst
   rw [g _ _ l5]
  ·intro w hw
   rcases List.mem_append.mp hw with h | h
   ·have := la w h; omega
   ·rcases List.mem_append.mp h with h | h
    ·have := lb w h; omega
    ·simp only [mem_cons, not_mem_nil, or_false] at h
     rcases h with h | h | h | h <;> subst h <;> omega
  ·simp [nA]
theorem law_true (ns : List Int) (hn : ns.length <= 63) : m_Z15 [.lst (ns.map .int)] = some (.sh (.bl true)) := by
 obtain ⟨cs, ec⟩ := cells_eq ns 6 hn
 have ec : m_Z6 [.lst (ns.map .int), .int 6] = some (.fr (cs.map .int)) := ec
 obtain ⟨o, e, p1, p2, p3, p4, p5, rfl⟩ := forD_post (g := .nm 1) (body := b_Z15_f1) (f := D.int) (fun _ ρ => ∃ p1 p2 p3 p4 p5, ρ = [some (.sh (.lst (ns.map .int))), p1, p2, p3, p4, p5]) (fun o => ∃ p1 p2 p3 p4 p5, o = .nx [some (.sh (.lst (ns.map .int))), p1, p2, p3, p4, p5])
  (by
   rintro c cs ρ ⟨p1, p2, p3, p4, p5, rfl⟩
   obtain ⟨q2, q3, q4, e⟩ := cell_ok (.lst (ns.map .int)) c p2 p3 p4 p5
   exact ⟨_, _, rfl, e, _, _, _, _, _, rfl⟩) (fun ρ h => by obtain ⟨p1, p2, p3, p4, p5, rfl⟩ := h; exact ⟨_, _, _, _, _, rfl⟩) cs (startS 6 [.lst (ns.map .int)]) ⟨none, none, none, none, none, rfl⟩
 unfold m_Z15 b_Z15
 refine runB_rt (seqI (ρ' := [some (.sh (.lst (ns.map .int))), p1, p2, p3, p4, p5]) ?_ (rest_ok _ (by show 5 < 6; decide)))
 unfold mfor
 rw [aslst_ev (mcall_fr (acons_ev (d := .lst (ns.map .int)) rfl (acons_ev (d := .int 6) rfl anil_ev)) ec), Option.bind_some]
 exact e
end
end Lw
namespace Lw
open List
open PySem L2
open PyProof.Rows
section
noncomputable def top (i : Nat) : Stmt := PySem.Challenge.pw_wavyrow_k38_texts_of_no_row.main.body.getD i (.Pass ⟨0, 0, 0, 0⟩)
noncomputable abbrev s_Z1 : Stmt := top 12
noncomputable abbrev N_Z1 : List Str := ["word", "most"]
theorem sc_Z1 : FnScope N_Z1 ["word", "most"] (defScope s_Z1) := ⟨rfl, rfl, rfl, by decide +kernel, rfl, by decide +kernel, by decide +kernel⟩
theorem ok_Z1 {P : Program} {w : World} {K : W.Frag} {mg : Str -> Option Value} {base : Heap} {f : Addr} {fd : FuncData} (Fn : Fun K "are_figures" "are_figures" s_Z1 f fd) (z_len : mg "len" = none) : FnOk P w K mg base CX0 1 f fd ["word", "most"] (spR K 2 m_Z1) :=
 Fn.okD (k := 0) (m := b_Z1) sc_Z1 fun cdv A outer s H E hr => (pssd_cons (psd_if (pc_w (pcw_or (pc_not (pc_tru (pd_meth0 (r := rTst Txt.isascii) (pe_bm0 PySem.F.plainAttrs_str PySem.F.slot_str_isascii PySem.F.type_str_isascii mt_isascii (pd_var 0 (pv 0))) (dTst Txt.isascii)))) (pcw_or (pc_not (pc_tru (pd_meth0 (r := rTst Txt.isdigit) (pe_bm0 PySem.F.plainAttrs_str PySem.F.slot_str_isdigit PySem.F.type_str_isdigit mt_isdigit (pd_var 0 (pv 0))) (dTst Txt.isdigit)))) (pw1_or (pc_cmp op_gt opd_gt (pd_lenS rfl z_len (pas_cons (pd_var 0 (pv 0)) pas_nil)) (pd_var 1 (pv 1)) (nomark _)))))) (pssd_one (psd_ret pd_bl)) pssd_nil) (pssd_one (psd_ret (pd_or (pd_cmp op_eq opd_eqS (pd_var 0 (pv 0)) pd_str (nomark _)) (pd_one (pd_not (pd_meth (id := "str.startswith") (fun t ha => pe_bm PySem.F.plainAttrs_str PySem.F.slot_str_startswith PySem.F.type_str_startswith mt_starts (pd_var 0 (pv 0)) ha) dStarts (pas_cons pd_str pas_nil))))))))
noncomputable abbrev s_Z9 : Stmt := top 13
noncomputable abbrev N_Z9 : List Str := ["word"]
theorem sc_Z9 : FnScope N_Z9 ["word"] (defScope s_Z9) := ⟨rfl, rfl, rfl, by decide +kernel, rfl, by decide +kernel, by decide +kernel⟩
theorem ok_Z9 {P : Program} {w : World} {K : W.Frag} {mg : Str -> Option Value} {base : Heap} {f : Addr} {fd : FuncData} {x_Z1 : Addr} {d_Z1 : FuncData} {t_MOST_FIGURES : Tok} (Fn : Fun K "is_number" "is_number" s_Z9 f fd) (G_Z1 : FnOk P w K mg base CX0 1 x_Z1 d_Z1 ["word", "most"] (spR K 2 m_Z1)) (b_Z1 : Binds K d_Z1 ["word", "most"] []) (k_Z1 : W.keepIn K (.ref x_Z1) = true) (a_Z1 : mg "are_figures" = some (.ref x_Z1)) (c_MOST_FIGURES : mg "MOST_FIGURES" = some (.int (30) t_MOST_FIGURES)) : FnOk P w K mg base CX0 2 f fd ["word"] (spR K 1 m_Z9) :=
 Fn.okD (k := 1) (m := b_Z9) sc_Z9 fun cdv A outer s H E hr => (pssd_one (psd_ret (pd_and (pd_cmp op_ne opd_neS (pd_var 0 (pv 0)) pd_str (nomark _)) (pd_one (pd_call (fun t ha => pe_call (G_Z1.mono (by decide)) hr rfl a_Z1 k_Z1 b_Z1 .nil pass0 ha) rfl (pas_cons (pd_meth (id := "str.removeprefix") (fun t ha => pe_bm PySem.F.plainAttrs_str PySem.F.slot_str_removeprefix PySem.F.type_str_removeprefix mt_remP (pd_var 0 (pv 0)) ha) dRemP (pas_cons pd_str pas_nil)) (pas_cons (pd_globI rfl c_MOST_FIGURES) pas_nil)) (acons_len (acons_len anil_len)))))))
noncomputable abbrev s_Z13 : Stmt := top 14
noncomputable abbrev N_Z13 : List Str := ["text", "words", "word"]
theorem sc_Z13 : FnScope N_Z13 ["text"] (defScope s_Z13) := ⟨rfl, rfl, rfl, by decide +kernel, rfl, by decide +kernel, by decide +kernel⟩
theorem nd_read_row_0 : List.Nodup (["word"] : List Str) := by decide +kernel
theorem ok_Z13 {P : Program} {w : World} {K : W.Frag} {mg : Str -> Option Value} {base : Heap} {f : Addr} {fd : FuncData} {x_Z9 : Addr} {d_Z9 : FuncData} {t_NO_NUMBERS : Tok} (Fn : Fun K "read_row" "read_row" s_Z13 f fd) (G_Z9 : FnOk P w K mg base CX0 2 x_Z9 d_Z9 ["word"] (spR K 1 m_Z9)) (b_Z9 : Binds K d_Z9 ["word"] []) (k_Z9 : W.keepIn K (.ref x_Z9) = true) (a_Z9 : mg "is_number" = some (.ref x_Z9)) {y_NoText : Addr} (a_NoText : mg "NoText" = some (.ref y_NoText)) (xc_NoText : XC K "NoText" y_NoText) (q_NoText : W.excIn K y_NoText bmV "ValueError.__new__" = true) (c_NO_NUMBERS : mg "NO_NUMBERS" = some (.str "none" t_NO_NUMBERS)) (z_int : mg "int" = none) : FnOk P w K mg base CX0 3 f fd ["text"] (spR K 1 m_Z13) :=
 Fn.okD (k := 2) (m := b_Z13) sc_Z13 fun cdv A outer s H E hr => (pssd_cons (psd_if (pc_cmp op_eq opd_eqS (pd_var 0 (pv 0)) (pd_globS rfl c_NO_NUMBERS) (nomark _)) (pssd_one (psd_retF (pf_lst pas_nil))) pssd_nil) (pssd_cons (psd_set (i := 1) sc_Z13.nd rfl (by first | exact Or.inl rfl | exact Or.inr rfl) (pd_meth (id := "str.split") (fun t ha => pe_bm PySem.F.plainAttrs_str PySem.F.slot_str_split PySem.F.type_str_split mt_split (pd_var 0 (pv 0)) ha) dSplit (pas_cons pd_str pas_nil))) (pssd_cons (psd_for PassesOwn.never rfl (pid_seq (pd_var 1 (pv 1))) (pgd_name (i := 2) (pg_name sc_Z13.nd rfl (by first | exact Or.inl rfl | exact Or.inr rfl))) (pssd_one (psd_if (pc_not (pc_tru (pd_call (fun t ha => pe_call (G_Z9.mono (by decide)) hr rfl a_Z9 k_Z9 b_Z9 .nil pass0 ha) rfl (pas_cons (pd_var 2 (pv 2)) pas_nil) (acons_len anil_len)))) (pssd_one psd_never) pssd_nil))) (pssd_one (psd_retF (pf_comp (blk_of (N := ["word"]) (src := [none]) (defScope s_Z13) N_Z13 rfl rfl (by decide +kernel)) rfl (pid_seq (pd_var 1 (pv 1))) (fun C fp s0 H0 => (pgd_name (i := 0) (pg_name nd_read_row_0 rfl (by first | exact Or.inl rfl | exact Or.inr rfl)))) (fun C fp s0 H0 => ptsd_nil) (fun C fp s0 H0 => (pd_intT rfl z_int (pas_cons (pd_var 0 (pv 0)) pas_nil) PyProof.Rows.boot_int))))))))
theorem okx_Z13 {P : Program} {w : World} {K : W.Frag} {mg : Str -> Option Value} {base : Heap} {f : Addr} {fd : FuncData} {x_Z9 : Addr} {d_Z9 : FuncData} {t_NO_NUMBERS : Tok} (Fn : Fun K "read_row" "read_row" s_Z13 f fd) (G_Z9 : FnOk P w K mg base CX0 2 x_Z9 d_Z9 ["word"] (spR K 1 m_Z9)) (b_Z9 : Binds K d_Z9 ["word"] []) (k_Z9 : W.keepIn K (.ref x_Z9) = true) (a_Z9 : mg "is_number" = some (.ref x_Z9)) {y_NoText : Addr} (a_NoText : mg "NoText" = some (.ref y_NoText)) (xc_NoText : XC K "NoText" y_NoText) (q_NoText : W.excIn K y_NoText bmV "ValueError.__new__" = true) (c_NO_NUMBERS : mg "NO_NUMBERS" = some (.str "none" t_NO_NUMBERS)) (z_int : mg "int" = none) : FnOk P w K mg base (CXx P w) 3 f fd ["text"] (spX K 1 xm_Z13) :=
 Fn.okX (k := 2) (m := bx_Z13) sc_Z13 fun cdv A outer s H E hr => (pssx_cons rfl (psd_if (pc_cmp op_eq opd_eqS (pd_var 0 (pv 0)) (pd_globS rfl c_NO_NUMBERS) (nomark _)) (pssd_one (psd_retF (pf_lst pas_nil))) pssd_nil) psx_none (pssx_cons rfl (psd_set (i := 1) sc_Z13.nd rfl (by first | exact Or.inl rfl | exact Or.inr rfl) (pd_meth (id := "str.split") (fun t ha => pe_bm PySem.F.plainAttrs_str PySem.F.slot_str_split PySem.F.type_str_split mt_split (pd_var 0 (pv 0)) ha) dSplit (pas_cons pd_str pas_nil))) psx_none (pssx_head (psx_for rfl rfl (pid_seq (pd_var 1 (pv 1))) (pgd_name (i := 2) (pg_name sc_Z13.nd rfl (by first | exact Or.inl rfl | exact Or.inr rfl))) (pssd_one (psd_if (pc_not (pc_tru (pd_call (fun t ha => pe_call (G_Z9.mono (by decide)) hr rfl a_Z9 k_Z9 b_Z9 .nil pass0 ha) rfl (pas_cons (pd_var 2 (pv 2)) pas_nil) (acons_len anil_len)))) (pssd_one psd_never) pssd_nil)) (pssx_one (psx_if rfl (pc_not (pc_tru (pd_call (fun t ha => pe_call (G_Z9.mono (by decide)) hr rfl a_Z9 k_Z9 b_Z9 .nil pass0 ha) rfl (pas_cons (pd_var 2 (pv 2)) pas_nil) (acons_len anil_len)))) (pssx_one (psx_raise rfl ⟨rfl, rfl, rfl⟩ rfl rfl a_NoText xc_NoText q_NoText (pas_cons pd_str pas_nil) (acons_len anil_len) (by decide))) pssx_none))))))
noncomputable abbrev s_Z12 : Stmt := top 16
noncomputable abbrev N_Z12 : List Str := ["cell", "k", "number"]
theorem sc_Z12 : FnScope N_Z12 ["cell", "k"] (defScope s_Z12) := ⟨rfl, rfl, rfl, by decide +kernel, rfl, by decide +kernel, by decide +kernel⟩
theorem ok_Z12 {P : Program} {w : World} {K : W.Frag} {mg : Str -> Option Value} {base : Heap} {f : Addr} {fd : FuncData} (Fn : Fun K "_law_stir" "_law_stir" s_Z12 f fd) : FnOk P w K mg base CX0 1 f fd ["cell", "k"] (spR K 2 m_Z12) :=
 Fn.okD (k := 0) (m := b_Z12) sc_Z12 fun cdv A outer s H E hr => (pssd_cons (psd_if (pc_cmp op_ge opd_ge (pd_var 0 (pv 0)) (pd_pow pd_int pd_int) (nomark _)) (pssd_one (psd_ret (pd_mod (pd_shr (pd_sub (pd_var 0 (pv 0)) (pd_pow pd_int pd_int)) (pd_mul pd_int (pd_var 1 (pv 1)))) (pd_pow pd_int pd_int)))) pssd_nil) (pssd_cons (psd_set (i := 2) sc_Z12.nd rfl (by first | exact Or.inl rfl | exact Or.inr rfl) (pd_mod (pd_mul (pd_add (pd_add (pd_var 0 (pv 0)) (pd_mul pd_int (pd_var 1 (pv 1)))) pd_int) pd_int) pd_int)) (pssd_cons (psd_set (i := 2) sc_Z12.nd rfl (by first | exact Or.inl rfl | exact Or.inr rfl) (pd_mod (pd_mul (pd_var 2 (pv 2)) (pd_var 2 (pv 2))) pd_int)) (pssd_one (psd_ret (pd_fdiv (pd_mod (pd_mul (pd_var 2 (pv 2)) pd_int) pd_int) pd_int))))))
noncomputable abbrev s_Z6 : Stmt := top 17
noncomputable abbrev N_Z6 : List Str := ["script", "many"]
theorem sc_Z6 : FnScope N_Z6 ["script", "many"] (defScope s_Z6) := ⟨rfl, rfl, rfl, by decide +kernel, rfl, by decide +kernel, by decide +kernel⟩
theorem ok_Z6 {P : Program} {w : World} {K : W.Frag} {mg : Str -> Option Value} {base : Heap} {f : Addr} {fd : FuncData} (Fn : Fun K "_law_cells" "_law_cells" s_Z6 f fd) (z_len : mg "len" = none) (z_max : mg "max" = none) (z_min : mg "min" = none) : FnOk P w K mg base CX0 1 f fd ["script", "many"] (spR K 2 m_Z6) :=
 Fn.okD (k := 0) (m := b_Z6) sc_Z6 fun cdv A outer s H E hr => (pssd_one (psd_retF (pf_sl (pf_pb (pf_cat (pf_pb (pf_sl (pb_var 0 (pv 0)) pos_none (pos_some (pd_var 1 (pv 1))))) (pf_pb (pf_lst (pas_cons pd_int pas_nil))))) pos_none (pos_some (pd_max2 rfl rfl z_max (pas_cons pd_int (pas_cons (pd_min2 rfl rfl z_min (pas_cons (pd_var 1 (pv 1)) (pas_cons (pd_lenB rfl z_len (pb_var 0 (pv 0))) pas_nil))) pas_nil)))))))
noncomputable abbrev s_law_same : Stmt := top 18
noncomputable abbrev s_Z0 : Stmt := top 18
noncomputable abbrev N_Z0 : List Str := ["found", "due"]
theorem sc_Z0 : FnScope N_Z0 ["found", "due"] (defScope s_Z0) := ⟨rfl, rfl, rfl, by decide +kernel, rfl, by decide +kernel, by decide +kernel⟩
theorem ok_Z0 {P : Program} {w : World} {K : W.Frag} {mg : Str -> Option Value} {base : Heap} {f : Addr} {fd : FuncData} (Fn : Fun K "_law_same" "_law_same" s_Z0 f fd) (z_bool : mg "bool" = none) (z_int : mg "int" = none) (z_isinstance : mg "isinstance" = none) (z_len : mg "len" = none) (z_list : mg "list" = none) (z_str : mg "str" = none) (z_tuple : mg "tuple" = none) : FnOk P w K mg base CX0 1 f fd ["found", "due"] (spR K 2 m_Z0) :=
 Fn.okD (k := 0) (m := b_Z0) sc_Z0 fun cdv A outer s H E hr => (pssd_cons (psd_if (pc_tru (pd_isi (C := "str") rfl z_isinstance rfl z_str PyProof.Rows.boot_str (pd_var 1 (pv 1)))) (pssd_one (psd_ret (pd_and (pd_isi (C := "str") rfl z_isinstance rfl z_str PyProof.Rows.boot_str (pd_var 0 (pv 0))) (pd_one (pd_cmp op_eq opd_eqS (pd_var 0 (pv 0)) (pd_var 1 (pv 1)) (nomark _)))))) pssd_nil) (pssd_cons (psd_if (pc_tru (pd_isi2 (C1 := "list") (C2 := "tuple") rfl z_isinstance rfl z_list PyProof.Rows.boot_list rfl z_tuple PyProof.Rows.boot_tuple (pd_var 1 (pv 1)))) (pssd_cons (psd_if (pc_w (pcw_or (pc_cmp op_ne opd_neS (pd_isi (C := "list") rfl z_isinstance rfl z_list PyProof.Rows.boot_list (pd_var 0 (pv 0))) (pd_isi (C := "list") rfl z_isinstance rfl z_list PyProof.Rows.boot_list (pd_var 1 (pv 1))) (nomark _)) (pw1_or (pc_not (pc_tru (pd_isi2 (C1 := "list") (C2 := "tuple") rfl z_isinstance rfl z_list PyProof.Rows.boot_list rfl z_tuple PyProof.Rows.boot_tuple (pd_var 0 (pv 0)))))))) (pssd_one (psd_ret pd_bl)) pssd_nil) (pssd_cons (psd_if (pc_cmp op_ne opd_neS (pd_len rfl z_len (pas_cons (pd_var 0 (pv 0)) pas_nil)) (pd_len rfl z_len (pas_cons (pd_var 1 (pv 1)) pas_nil)) (nomark _)) (pssd_one (psd_ret pd_bl)) pssd_nil) (pssd_one psd_never))) pssd_nil) (pssd_one (psd_ret (pd_and (pd_isi (C := "int") rfl z_isinstance rfl z_int PyProof.Rows.boot_int (pd_var 0 (pv 0))) (pd_and (pd_not (pd_isi (C := "bool") rfl z_isinstance rfl z_bool PyProof.Rows.boot_bool (pd_var 0 (pv 0)))) (pd_one (pd_cmp op_eq opd_eqS (pd_var 0 (pv 0)) (pd_var 1 (pv 1)) (nomark _)))))))))
noncomputable abbrev s_Z3 : Stmt := top 18
noncomputable abbrev N_Z3 : List Str := ["found", "due"]
theorem sc_Z3 : FnScope N_Z3 ["found", "due"] (defScope s_Z3) := ⟨rfl, rfl, rfl, by decide +kernel, rfl, by decide +kernel, by decide +kernel⟩
theorem nd_law_same_v1_0 : List.Nodup (["one", "other"] : List Str) := by decide +kernel
theorem ok_Z3 {P : Program} {w : World} {K : W.Frag} {mg : Str -> Option Value} {base : Heap} {f : Addr} {fd : FuncData} {x_Z0 : Addr} {d_Z0 : FuncData} (Fn : Fun K "_law_same" "_law_same" s_Z3 f fd) (G_Z0 : FnOk P w K mg base CX0 1 x_Z0 d_Z0 ["found", "due"] (spR K 2 m_Z0)) (b_Z0 : Binds K d_Z0 ["found", "due"] []) (k_Z0 : W.keepIn K (.ref x_Z0) = true) (a_Z0 : mg "_law_same" = some (.ref x_Z0)) (z_bool : mg "bool" = none) (z_int : mg "int" = none) (z_isinstance : mg "isinstance" = none) (z_len : mg "len" = none) (z_list : mg "list" = none) (z_str : mg "str" = none) (z_tuple : mg "tuple" = none) (z_zip : mg "zip" = none) : FnOk P w K mg base CX0 2 f fd ["found", "due"] (spR K 2 m_Z3) :=
 Fn.okD (k := 1) (m := b_Z3) sc_Z3 fun cdv A outer s H E hr => (pssd_cons (psd_if (pc_tru (pd_isi (C := "str") rfl z_isinstance rfl z_str PyProof.Rows.boot_str (pd_var 1 (pv 1)))) (pssd_one (psd_ret (pd_and (pd_isi (C := "str") rfl z_isinstance rfl z_str PyProof.Rows.boot_str (pd_var 0 (pv 0))) (pd_one (pd_cmp op_eq opd_eqS (pd_var 0 (pv 0)) (pd_var 1 (pv 1)) (nomark _)))))) pssd_nil) (pssd_cons (psd_if (pc_tru (pd_isi2 (C1 := "list") (C2 := "tuple") rfl z_isinstance rfl z_list PyProof.Rows.boot_list rfl z_tuple PyProof.Rows.boot_tuple (pd_var 1 (pv 1)))) (pssd_cons (psd_if (pc_w (pcw_or (pc_cmp op_ne opd_neS (pd_isi (C := "list") rfl z_isinstance rfl z_list PyProof.Rows.boot_list (pd_var 0 (pv 0))) (pd_isi (C := "list") rfl z_isinstance rfl z_list PyProof.Rows.boot_list (pd_var 1 (pv 1))) (nomark _)) (pw1_or (pc_not (pc_tru (pd_isi2 (C1 := "list") (C2 := "tuple") rfl z_isinstance rfl z_list PyProof.Rows.boot_list rfl z_tuple PyProof.Rows.boot_tuple (pd_var 0 (pv 0)))))))) (pssd_one (psd_ret pd_bl)) pssd_nil) (pssd_cons (psd_if (pc_cmp op_ne opd_neS (pd_len rfl z_len (pas_cons (pd_var 0 (pv 0)) pas_nil)) (pd_len rfl z_len (pas_cons (pd_var 1 (pv 1)) pas_nil)) (nomark _)) (pssd_one (psd_ret pd_bl)) pssd_nil) (pssd_one (psd_ret (pd_eqB (op_eqF hr.units) (pf_pb (pf_comp (blk_of (N := ["one", "other"]) (src := [none, none]) (defScope s_Z3) N_Z3 rfl rfl (by decide +kernel)) rfl (pid_zip2 rfl z_zip (pas_cons (pd_var 0 (pv 0)) (pas_cons (pd_var 1 (pv 1)) pas_nil))) (fun C fp s0 H0 => (pgd_tup (is := [0, 1]) (pg_tup rfl (pgs_cons (pg_name (i := 0) nd_law_same_v1_0 rfl (by first | exact Or.inl rfl | exact Or.inr rfl)) (pgs_cons (pg_name (i := 1) nd_law_same_v1_0 rfl (by first | exact Or.inl rfl | exact Or.inr rfl)) pgs_nil))))) (fun C fp s0 H0 => (ptsd_one (pc_not (pc_tru (pd_call (fun t ha => pe_call (G_Z0.mono (by decide)) hr rfl a_Z0 k_Z0 b_Z0 .nil pass0 ha) rfl (pas_cons (pd_var 0 (pv 0)) (pas_cons (pd_var 1 (pv 1)) pas_nil)) (acons_len (acons_len anil_len))))))) (fun C fp s0 H0 => pd_int))) (pf_pb (pf_lst pas_nil)) (nomark _)))))) pssd_nil) (pssd_one (psd_ret (pd_and (pd_isi (C := "int") rfl z_isinstance rfl z_int PyProof.Rows.boot_int (pd_var 0 (pv 0))) (pd_and (pd_not (pd_isi (C := "bool") rfl z_isinstance rfl z_bool PyProof.Rows.boot_bool (pd_var 0 (pv 0)))) (pd_one (pd_cmp op_eq opd_eqS (pd_var 0 (pv 0)) (pd_var 1 (pv 1)) (nomark _)))))))))
noncomputable abbrev s_Z7 : Stmt := top 19
noncomputable abbrev N_Z7 : List Str := ["e", "found"]
theorem sc_Z7 : FnScope N_Z7 ["e"] (defScope s_Z7) := ⟨rfl, rfl, rfl, by decide +kernel, rfl, by decide +kernel, by decide +kernel⟩
theorem ok_Z7 {P : Program} {w : World} {K : W.Frag} {mg : Str -> Option Value} {base : Heap} {f : Addr} {fd : FuncData} (Fn : Fun K "_law_flags" "_law_flags" s_Z7 f fd) {y_NoForm : Addr} (a_NoForm : mg "NoForm" = some (.ref y_NoForm)) {y_NoNumber : Addr} (a_NoNumber : mg "NoNumber" = some (.ref y_NoNumber)) {y_NoPlace : Addr} (a_NoPlace : mg "NoPlace" = some (.ref y_NoPlace)) {y_NoStep : Addr} (a_NoStep : mg "NoStep" = some (.ref y_NoStep)) {y_NoText : Addr} (a_NoText : mg "NoText" = some (.ref y_NoText)) {y_NoWeights : Addr} (a_NoWeights : mg "NoWeights" = some (.ref y_NoWeights)) {y_NoneYet : Addr} (a_NoneYet : mg "NoneYet" = some (.ref y_NoneYet)) (hi_NoForm : ∀ c k, ([("NoText", false)] : List (Str × Bool)).lookup c = some k -> ∀ C, XC K c C -> XCls K C /\ W.kitOne K (.ref C) (.ref y_NoForm) = some k) (hi_NoNumber : ∀ c k, ([("NoText", false)] : List (Str × Bool)).lookup c = some k -> ∀ C, XC K c C -> XCls K C /\ W.kitOne K (.ref C) (.ref y_NoNumber) = some k) (hi_NoPlace : ∀ c k, ([("NoText", false)] : List (Str × Bool)).lookup c = some k -> ∀ C, XC K c C -> XCls K C /\ W.kitOne K (.ref C) (.ref y_NoPlace) = some k) (hi_NoStep : ∀ c k, ([("NoText", false)] : List (Str × Bool)).lookup c = some k -> ∀ C, XC K c C -> XCls K C /\ W.kitOne K (.ref C) (.ref y_NoStep) = some k) (hi_NoText : ∀ c k, ([("NoText", true)] : List (Str × Bool)).lookup c = some k -> ∀ C, XC K c C -> XCls K C /\ W.kitOne K (.ref C) (.ref y_NoText) = some k) (hi_NoWeights : ∀ c k, ([("NoText", false)] : List (Str × Bool)).lookup c = some k -> ∀ C, XC K c C -> XCls K C /\ W.kitOne K (.ref C) (.ref y_NoWeights) = some k) (hi_NoneYet : ∀ c k, ([("NoText", false)] : List (Str × Bool)).lookup c = some k -> ∀ C, XC K c C -> XCls K C /\ W.kitOne K (.ref C) (.ref y_NoneYet) = some k) (hb_ValueError : ∀ c k, ([("NoText", true)] : List (Str × Bool)).lookup c = some k -> ∀ C, XC K c C -> XCls K C /\ W.kitOne K (.ref C) (.type "ValueError") = some k) (z_ValueError : mg "ValueError" = none) (z_isinstance : mg "isinstance" = none) : FnOkN P w K mg base CX0 1 f fd ["e"] (spR K 1 m_Z7) :=
 Fn.okN (k := 0) (m := b_Z7) sc_Z7 fun cdv A outer s H E hr => (pssd_cons (psd_set (i := 1) sc_Z7.nd rfl (by first | exact Or.inl rfl | exact Or.inr rfl) (pf_pd (pf_lst (pas_cons (pd_isX (tab := [("NoText", false)]) rfl z_isinstance rfl a_NoStep (pd_var 0 (pv 0)) hi_NoStep) (pas_cons (pd_isX (tab := [("NoText", false)]) rfl z_isinstance rfl a_NoPlace (pd_var 0 (pv 0)) hi_NoPlace) (pas_cons (pd_isX (tab := [("NoText", false)]) rfl z_isinstance rfl a_NoWeights (pd_var 0 (pv 0)) hi_NoWeights) (pas_cons (pd_isX (tab := [("NoText", false)]) rfl z_isinstance rfl a_NoNumber (pd_var 0 (pv 0)) hi_NoNumber) pas_nil))))))) (pssd_cons (psd_set (i := 1) sc_Z7.nd rfl (by first | exact Or.inl rfl | exact Or.inr rfl) (pf_pd (pf_cat (pb_var 1 (pv 1)) (pf_pb (pf_lst (pas_cons (pd_isX (tab := [("NoText", true)]) rfl z_isinstance rfl a_NoText (pd_var 0 (pv 0)) hi_NoText) (pas_cons (pd_isX (tab := [("NoText", false)]) rfl z_isinstance rfl a_NoForm (pd_var 0 (pv 0)) hi_NoForm) (pas_cons (pd_isX (tab := [("NoText", false)]) rfl z_isinstance rfl a_NoneYet (pd_var 0 (pv 0)) hi_NoneYet) pas_nil)))))))) (pssd_one (psd_retF (pf_cat (pb_var 1 (pv 1)) (pf_pb (pf_lst (pas_cons (pd_not (pd_isXB (T := "ValueError") (tab := [("NoText", true)]) rfl z_isinstance rfl z_ValueError (by rfl) (pd_var 0 (pv 0)) hb_ValueError)) pas_nil))))))))
noncomputable abbrev s_Z2 : Stmt := top 20
noncomputable abbrev N_Z2 : List Str := ["cell", "most", "size", "found", "k", "one", "some"]
theorem sc_Z2 : FnScope N_Z2 ["cell", "most"] (defScope s_Z2) := ⟨rfl, rfl, rfl, by decide +kernel, rfl, by decide +kernel, by decide +kernel⟩
theorem ok_Z2 {P : Program} {w : World} {K : W.Frag} {mg : Str -> Option Value} {base : Heap} {f : Addr} {fd : FuncData} {x_Z12 : Addr} {d_Z12 : FuncData} (Fn : Fun K "_law_numbers" "_law_numbers" s_Z2 f fd) (G_Z12 : FnOk P w K mg base CX0 1 x_Z12 d_Z12 ["cell", "k"] (spR K 2 m_Z12)) (b_Z12 : Binds K d_Z12 ["cell", "k"] []) (k_Z12 : W.keepIn K (.ref x_Z12) = true) (a_Z12 : mg "_law_stir" = some (.ref x_Z12)) (z_range : mg "range" = none) : FnOk P w K mg base CX0 2 f fd ["cell", "most"] (spR K 2 m_Z2) :=
 Fn.okD (k := 1) (m := b_Z2) sc_Z2 fun cdv A outer s H E hr => (pssd_cons (psd_set (i := 2) sc_Z2.nd rfl (by first | exact Or.inl rfl | exact Or.inr rfl) (pd_mod (pd_call (fun t ha => pe_call (G_Z12.mono (by decide)) hr rfl a_Z12 k_Z12 b_Z12 .nil pass0 ha) rfl (pas_cons (pd_var 0 (pv 0)) (pas_cons pd_int pas_nil)) (acons_len (acons_len anil_len))) (pd_ix (pf_pb (pf_lst (pas_cons pd_int (pas_cons pd_int (pas_cons (pd_add (pd_var 1 (pv 1)) pd_int) pas_nil))))) (pd_mod (pd_call (fun t ha => pe_call (G_Z12.mono (by decide)) hr rfl a_Z12 k_Z12 b_Z12 .nil pass0 ha) rfl (pas_cons (pd_var 0 (pv 0)) (pas_cons pd_int pas_nil)) (acons_len (acons_len anil_len))) pd_int)))) (pssd_cons (psd_setF (i := 3) sc_Z2.nd rfl (by first | exact Or.inl rfl | exact Or.inr rfl) (pf_lst pas_nil)) (pssd_cons (psd_for PassesOwn.never rfl (pid_range1 rfl z_range (pas_cons (pd_var 2 (pv 2)) pas_nil)) (pgd_name (i := 4) (pg_name sc_Z2.nd rfl (by first | exact Or.inl rfl | exact Or.inr rfl))) (pssd_cons (psd_set (i := 5) sc_Z2.nd rfl (by first | exact Or.inl rfl | exact Or.inr rfl) (pd_call (fun t ha => pe_call (G_Z12.mono (by decide)) hr rfl a_Z12 k_Z12 b_Z12 .nil pass0 ha) rfl (pas_cons (pd_var 0 (pv 0)) (pas_cons (pd_add pd_int (pd_var 4 (pv 4))) pas_nil)) (acons_len (acons_len anil_len)))) (pssd_cons (psd_set (i := 6) sc_Z2.nd rfl (by first | exact Or.inl rfl | exact Or.inr rfl) (pf_pd (pf_lst (pas_cons (pd_mod (pd_fdiv (pd_var 5 (pv 5)) pd_int) pd_int) (pas_cons (pd_mod (pd_fdiv (pd_var 5 (pv 5)) pd_int) pd_int) (pas_cons (pd_add (pd_mul (pd_var 5 (pv 5)) (pd_pow pd_int pd_int)) (pd_fdiv (pd_var 5 (pv 5)) pd_int)) (pas_cons (pd_sub (pd_sub (pd_pow pd_int pd_int) pd_int) (pd_mod (pd_fdiv (pd_var 5 (pv 5)) pd_int) pd_int)) pas_nil se_b) se_b) se_b) se_b)))) (pssd_one (psd_append (i := 3) (pv 3) (pd_mul (pd_ix (pb_var 6 (pv 6)) (pd_mod (pd_var 5 (pv 5)) pd_int)) (pd_ix (pf_pb (pf_lst (pas_cons pd_int (pas_cons (pd_neg pd_int) pas_nil)))) (pd_mod (pd_fdiv (pd_var 5 (pv 5)) pd_int) pd_int))) (fun t ha => pe_bm PySem.F.plainAttrs_list PySem.F.slot_list_append PySem.F.type_list_append mt_append (pv 3) ha) (pas_cons (pd_mul (pd_ix (pb_var 6 (pv 6)) (pd_mod (pd_var 5 (pv 5)) pd_int)) (pd_ix (pf_pb (pf_lst (pas_cons pd_int (pas_cons (pd_neg pd_int) pas_nil)))) (pd_mod (pd_fdiv (pd_var 5 (pv 5)) pd_int) pd_int))) pas_nil)))))) (pssd_one (psd_retO 3 (pv 3))))))
noncomputable abbrev s_Z10 : Stmt := top 21
noncomputable abbrev N_Z10 : List Str := ["row", "text", "number"]
theorem sc_Z10 : FnScope N_Z10 ["row"] (defScope s_Z10) := ⟨rfl, rfl, rfl, by decide +kernel, rfl, by decide +kernel, by decide +kernel⟩
theorem ok_Z10 {P : Program} {w : World} {K : W.Frag} {mg : Str -> Option Value} {base : Heap} {f : Addr} {fd : FuncData} (Fn : Fun K "_law_text" "_law_text" s_Z10 f fd) (z_int : mg "int" = none) (z_str : mg "str" = none) : FnOk P w K mg base CX0 1 f fd ["row"] (spR K 1 m_Z10) :=
 Fn.okD (k := 0) (m := b_Z10) sc_Z10 fun cdv A outer s H E hr => (pssd_cons (psd_set (i := 1) sc_Z10.nd rfl (by first | exact Or.inl rfl | exact Or.inr rfl) pd_str) (pssd_cons (psd_for PassesOwn.never rfl (pid_seq (pd_var 0 (pv 0))) (pgd_name (i := 2) (pg_name sc_Z10.nd rfl (by first | exact Or.inl rfl | exact Or.inr rfl))) (pssd_one (psd_set (i := 1) sc_Z10.nd rfl (by first | exact Or.inl rfl | exact Or.inr rfl) (pd_addS (pd_addS (pd_var 1 (pv 1)) pd_str) (pd_strc rfl z_str (pas_cons (pd_var 2 (pv 2)) pas_nil) PyProof.Rows.boot_str))))) (pssd_one (psd_ret (pd_ix (pf_pb (pf_lst (pas_cons (pd_slS (pd_var 1 (pv 1)) (pos_some pd_int) pos_none) (pas_cons pd_str pas_nil)))) (pd_intc rfl z_int (pas_cons (pd_eqB (op_eqF hr.units) (pb_var 0 (pv 0)) (pf_pb (pf_lst pas_nil)) (nomark _)) pas_nil) PyProof.Rows.boot_int))))))
noncomputable abbrev s_Z14 : Stmt := top 22
noncomputable abbrev N_Z14 : List Str := ["cell", "k", "wide", "menu"]
theorem sc_Z14 : FnScope N_Z14 ["cell", "k"] (defScope s_Z14) := ⟨rfl, rfl, rfl, by decide +kernel, rfl, by decide +kernel, by decide +kernel⟩
theorem ok_Z14 {P : Program} {w : World} {K : W.Frag} {mg : Str -> Option Value} {base : Heap} {f : Addr} {fd : FuncData} {x_Z12 : Addr} {d_Z12 : FuncData} (Fn : Fun K "_law_sign" "_law_sign" s_Z14 f fd) (G_Z12 : FnOk P w K mg base CX0 1 x_Z12 d_Z12 ["cell", "k"] (spR K 2 m_Z12)) (b_Z12 : Binds K d_Z12 ["cell", "k"] []) (k_Z12 : W.keepIn K (.ref x_Z12) = true) (a_Z12 : mg "_law_stir" = some (.ref x_Z12)) (z_len : mg "len" = none) : FnOk P w K mg base CX0 2 f fd ["cell", "k"] (spR K 2 m_Z14) :=
 Fn.okD (k := 1) (m := b_Z14) sc_Z14 fun cdv A outer s H E hr => (pssd_cons (psd_set (i := 2) sc_Z14.nd rfl (by first | exact Or.inl rfl | exact Or.inr rfl) pd_str) (pssd_cons (psd_set (i := 2) sc_Z14.nd rfl (by first | exact Or.inl rfl | exact Or.inr rfl) (pd_addS (pd_var 2 (pv 2)) pd_str)) (pssd_cons (psd_set (i := 3) sc_Z14.nd rfl (by first | exact Or.inl rfl | exact Or.inr rfl) (pd_ix (pf_pb (pf_lst (pas_cons pd_str (pas_cons (pd_var 2 (pv 2)) pas_nil)))) (pd_mod (pd_call (fun t ha => pe_call (G_Z12.mono (by decide)) hr rfl a_Z12 k_Z12 b_Z12 .nil pass0 ha) rfl (pas_cons (pd_var 0 (pv 0)) (pas_cons (pd_var 1 (pv 1)) pas_nil)) (acons_len (acons_len anil_len))) pd_int))) (pssd_one (psd_ret (pd_ixS (pd_var 3 (pv 3)) (pd_mod (pd_call (fun t ha => pe_call (G_Z12.mono (by decide)) hr rfl a_Z12 k_Z12 b_Z12 .nil pass0 ha) rfl (pas_cons (pd_var 0 (pv 0)) (pas_cons (pd_add (pd_var 1 (pv 1)) pd_int) pas_nil)) (acons_len (acons_len anil_len))) (pd_lenS rfl z_len (pas_cons (pd_var 3 (pv 3)) pas_nil)))))))))
noncomputable abbrev s_Z5 : Stmt := top 23
noncomputable abbrev N_Z5 : List Str := ["cell", "k", "text", "at", "kind", "words", "one", "odd", "word"]
theorem sc_Z5 : FnScope N_Z5 ["cell", "k", "text"] (defScope s_Z5) := ⟨rfl, rfl, rfl, by decide +kernel, rfl, by decide +kernel, by decide +kernel⟩
theorem ok_Z5 {P : Program} {w : World} {K : W.Frag} {mg : Str -> Option Value} {base : Heap} {f : Addr} {fd : FuncData} {x_Z14 : Addr} {d_Z14 : FuncData} {x_Z12 : Addr} {d_Z12 : FuncData} (Fn : Fun K "_law_spoilt" "_law_spoilt" s_Z5 f fd) (G_Z14 : FnOk P w K mg base CX0 2 x_Z14 d_Z14 ["cell", "k"] (spR K 2 m_Z14)) (b_Z14 : Binds K d_Z14 ["cell", "k"] []) (k_Z14 : W.keepIn K (.ref x_Z14) = true) (a_Z14 : mg "_law_sign" = some (.ref x_Z14)) (G_Z12 : FnOk P w K mg base CX0 1 x_Z12 d_Z12 ["cell", "k"] (spR K 2 m_Z12)) (b_Z12 : Binds K d_Z12 ["cell", "k"] []) (k_Z12 : W.keepIn K (.ref x_Z12) = true) (a_Z12 : mg "_law_stir" = some (.ref x_Z12)) (z_len : mg "len" = none) : FnOk P w K mg base CX0 3 f fd ["cell", "k", "text"] (spR K 3 m_Z5) :=
 Fn.okD (k := 2) (m := b_Z5) sc_Z5 fun cdv A outer s H E hr => (@pssd_cons _ _ _ _ _ (@psd_set _ _ _ _ (3) _ _ sc_Z5.nd (by rfl) (by first | exact Or.inl rfl | exact Or.inr rfl) (@pd_mod _ _ _ _ _ _ (@pd_call _ _ _ _ _ _ _ (fun t ha => @pe_call _ _ _ _ _ _ _ _ _ _ _ _ _ _ _ _ (G_Z12.mono (by decide)) hr (by rfl) a_Z12 k_Z12 b_Z12 .nil pass0 ha (by first | rfl | decide | exact Or.inl rfl | exact Or.inr rfl | exact fun _ _ => rfl | (intro _; rfl) | assumption) (by first | rfl | decide | exact Or.inl rfl | exact Or.inr rfl | exact fun _ _ => rfl | (intro _; rfl) | assumption) (by first | rfl | decide | exact Or.inl rfl | exact Or.inr rfl | exact fun _ _ => rfl | (intro _; rfl) | assumption)) (by rfl) (@pas_cons _ _ _ _ _ (@pd_var _ 0 _ _ (pv 0)) (@pas_cons _ _ _ _ _ (@pd_var _ 1 _ _ (pv 1)) (@pas_nil _) (by first | rfl | decide | exact Or.inl rfl | exact Or.inr rfl | exact fun _ _ => rfl | (intro _; rfl) | assumption)) (by first | rfl | decide | exact Or.inl rfl | exact Or.inr rfl | exact fun _ _ => rfl | (intro _; rfl) | assumption)) (acons_len (acons_len anil_len))) (@pd_add _ _ _ _ _ _ (@pd_lenS _ _ _ _ _ (by rfl) z_len (@pas_cons _ _ _ _ _ (@pd_var _ 2 _ _ (pv 2)) (@pas_nil _) (by first | rfl | decide | exact Or.inl rfl | exact Or.inr rfl | exact fun _ _ => rfl | (intro _; rfl) | assumption)) (by first | rfl | decide | exact Or.inl rfl | exact Or.inr rfl | exact fun _ _ => rfl | (intro _; rfl) | assumption) (by first | rfl | decide | exact Or.inl rfl | exact Or.inr rfl | exact fun _ _ => rfl | (intro _; rfl) | assumption)) (@pd_int _ _ _ _))) (by first | rfl | decide | exact Or.inl rfl | exact Or.inr rfl | exact fun _ _ => rfl | (intro _; rfl) | assumption) (by first | rfl | decide | exact Or.inl rfl | exact Or.inr rfl | exact fun _ _ => rfl | (intro _; rfl) | assumption)) (@pssd_cons _ _ _ _ _ (@psd_set _ _ _ _ (4) _ _ sc_Z5.nd (by rfl) (by first | exact Or.inl rfl | exact Or.inr rfl) (@pd_mod _ _ _ _ _ _ (@pd_call _ _ _ _ _ _ _ (fun t ha => @pe_call _ _ _ _ _ _ _ _ _ _ _ _ _ _ _ _ (G_Z12.mono (by decide)) hr (by rfl) a_Z12 k_Z12 b_Z12 .nil pass0 ha (by first | rfl | decide | exact Or.inl rfl | exact Or.inr rfl | exact fun _ _ => rfl | (intro _; rfl) | assumption) (by first | rfl | decide | exact Or.inl rfl | exact Or.inr rfl | exact fun _ _ => rfl | (intro _; rfl) | assumption) (by first | rfl | decide | exact Or.inl rfl | exact Or.inr rfl | exact fun _ _ => rfl | (intro _; rfl) | assumption)) (by rfl) (@pas_cons _ _ _ _ _ (@pd_var _ 0 _ _ (pv 0)) (@pas_cons _ _ _ _ _ (@pd_add _ _ _ _ _ _ (@pd_var _ 1 _ _ (pv 1)) (@pd_int _ _ _ _)) (@pas_nil _) (by first | rfl | decide | exact Or.inl rfl | exact Or.inr rfl | exact fun _ _ => rfl | (intro _; rfl) | assumption)) (by first | rfl | decide | exact Or.inl rfl | exact Or.inr rfl | exact fun _ _ => rfl | (intro _; rfl) | assumption)) (acons_len (acons_len anil_len))) (@pd_int _ _ _ _)) (by first | rfl | decide | exact Or.inl rfl | exact Or.inr rfl | exact fun _ _ => rfl | (intro _; rfl) | assumption) (by first | rfl | decide | exact Or.inl rfl | exact Or.inr rfl | exact fun _ _ => rfl | (intro _; rfl) | assumption)) (@pssd_cons _ _ _ _ _ (@psd_setF _ _ _ (5) _ _ _ sc_Z5.nd (by rfl) (by first | exact Or.inl rfl | exact Or.inr rfl) (@pf_split _ _ _ _ _ _ _ _ (fun t ha => @pe_bm _ _ _ _ _ _ _ _ _ _ _ _ PySem.F.plainAttrs_str PySem.F.slot_str_split PySem.F.type_str_split mt_split (@pd_var _ 2 _ _ (pv 2)) ha (by first | rfl | decide | exact Or.inl rfl | exact Or.inr rfl | exact fun _ _ => rfl | (intro _; rfl) | assumption) (by first | rfl | decide | exact Or.inl rfl | exact Or.inr rfl | exact fun _ _ => rfl | (intro _; rfl) | assumption) (by first | rfl | decide | exact Or.inl rfl | exact Or.inr rfl | exact fun _ _ => rfl | (intro _; rfl) | assumption) (by first | rfl | decide | exact Or.inl rfl | exact Or.inr rfl | exact fun _ _ => rfl | (intro _; rfl) | assumption) (by first | rfl | decide | exact Or.inl rfl | exact Or.inr rfl | exact fun _ _ => rfl | (intro _; rfl) | assumption)) (@pas_cons _ _ _ _ _ (@pd_str _ _ _ _) (@pas_nil _) (by first | rfl | decide | exact Or.inl rfl | exact Or.inr rfl | exact fun _ _ => rfl | (intro _; rfl) | assumption))) (by first | rfl | decide | exact Or.inl rfl | exact Or.inr rfl | exact fun _ _ => rfl | (intro _; rfl) | assumption) (by first | rfl | decide | exact Or.inl rfl | exact Or.inr rfl | exact fun _ _ => rfl | (intro _; rfl) | assumption)) (@pssd_cons _ _ _ _ _ (@psd_set _ _ _ _ (6) _ _ sc_Z5.nd (by rfl) (by first | exact Or.inl rfl | exact Or.inr rfl) (@pd_mod _ _ _ _ _ _ (@pd_call _ _ _ _ _ _ _ (fun t ha => @pe_call _ _ _ _ _ _ _ _ _ _ _ _ _ _ _ _ (G_Z12.mono (by decide)) hr (by rfl) a_Z12 k_Z12 b_Z12 .nil pass0 ha (by first | rfl | decide | exact Or.inl rfl | exact Or.inr rfl | exact fun _ _ => rfl | (intro _; rfl) | assumption) (by first | rfl | decide | exact Or.inl rfl | exact Or.inr rfl | exact fun _ _ => rfl | (intro _; rfl) | assumption) (by first | rfl | decide | exact Or.inl rfl | exact Or.inr rfl | exact fun _ _ => rfl | (intro _; rfl) | assumption)) (by rfl) (@pas_cons _ _ _ _ _ (@pd_var _ 0 _ _ (pv 0)) (@pas_cons _ _ _ _ _ (@pd_add _ _ _ _ _ _ (@pd_var _ 1 _ _ (pv 1)) (@pd_int _ _ _ _)) (@pas_nil _) (by first | rfl | decide | exact Or.inl rfl | exact Or.inr rfl | exact fun _ _ => rfl | (intro _; rfl) | assumption)) (by first | rfl | decide | exact Or.inl rfl | exact Or.inr rfl | exact fun _ _ => rfl | (intro _; rfl) | assumption)) (acons_len (acons_len anil_len))) (@pd_lenB _ _ _ _ _ (by rfl) z_len (@pb_var _ 5 _ _ (pv 5)) (by first | rfl | decide | exact Or.inl rfl | exact Or.inr rfl | exact fun _ _ => rfl | (intro _; rfl) | assumption) (by first | rfl | decide | exact Or.inl rfl | exact Or.inr rfl | exact fun _ _ => rfl | (intro _; rfl) | assumption) (by first | rfl | decide | exact Or.inl rfl | exact Or.inr rfl | exact fun _ _ => rfl | (intro _; rfl) | assumption))) (by first | rfl | decide | exact Or.inl rfl | exact Or.inr rfl | exact fun _ _ => rfl | (intro _; rfl) | assumption) (by first | rfl | decide | exact Or.inl rfl | exact Or.inr rfl | exact fun _ _ => rfl | (intro _; rfl) | assumption)) (@pssd_cons _ _ _ _ _ (@psd_set _ _ _ _ (7) _ _ sc_Z5.nd (by rfl) (by first | exact Or.inl rfl | exact Or.inr rfl) (@pf_pd _ _ _ (@pf_lst _ _ _ _ (@pas_cons _ _ _ _ _ (@pd_str _ _ _ _) (@pas_cons _ _ _ _ _ (@pd_str _ _ _ _) (@pas_cons _ _ _ _ _ (@pd_str _ _ _ _) (@pas_cons _ _ _ _ _ (@pd_str _ _ _ _) (@pas_cons _ _ _ _ _ (@pd_str _ _ _ _) (@pas_cons _ _ _ _ _ (@pd_str _ _ _ _) (@pas_cons _ _ _ _ _ (@pd_str _ _ _ _) (@pas_cons _ _ _ _ _ (@pd_str _ _ _ _) (@pas_cons _ _ _ _ _ (@pd_str _ _ _ _) (@pas_cons _ _ _ _ _ (@pd_str _ _ _ _) (@pas_cons _ _ _ _ _ (@pd_str _ _ _ _) (@pas_cons _ _ _ _ _ (@pd_str _ _ _ _) (@pas_cons _ _ _ _ _ (@pd_str _ _ _ _) (@pas_cons _ _ _ _ _ (@pd_str _ _ _ _) (@pas_cons _ _ _ _ _ (@pd_str _ _ _ _) (@pas_cons _ _ _ _ _ (@pd_str _ _ _ _) (@pas_nil _) se_c) se_c) se_c) se_c) se_c) se_c) se_c) se_c) se_c) se_c) se_c) se_c) se_c) se_c) se_c) se_c))) (by first | rfl | decide | exact Or.inl rfl | exact Or.inr rfl | exact fun _ _ => rfl | (intro _; rfl) | assumption) (by first | rfl | decide | exact Or.inl rfl | exact Or.inr rfl | exact fun _ _ => rfl | (intro _; rfl) | assumption)) (@pssd_cons _ _ _ _ _ (@psd_set _ _ _ _ (7) _ _ sc_Z5.nd (by rfl) (by first | exact Or.inl rfl | exact Or.inr rfl) (@pf_pd _ _ _ (@pf_cat _ _ _ _ _ _ (@pb_var _ 7 _ _ (pv 7)) (@pf_pb _ _ _ (@pf_lst _ _ _ _ (@pas_cons _ _ _ _ _ (@pd_mulS _ _ _ _ _ _ (@pd_str _ _ _ _) (@pd_int _ _ _ _)) (@pas_cons _ _ _ _ _ (@pd_mulS _ _ _ _ _ _ (@pd_str _ _ _ _) (@pd_int _ _ _ _)) (@pas_cons _ _ _ _ _ (@pd_addS _ _ _ _ _ _ (@pd_str _ _ _ _) (@pd_mulS _ _ _ _ _ _ (@pd_str _ _ _ _) (@pd_int _ _ _ _))) (@pas_cons _ _ _ _ _ (@pd_addS _ _ _ _ _ _ (@pd_str _ _ _ _) (@pd_mulS _ _ _ _ _ _ (@pd_str _ _ _ _) (@pd_int _ _ _ _))) (@pas_cons _ _ _ _ _ (@pd_mulS _ _ _ _ _ _ (@pd_str _ _ _ _) (@pd_int _ _ _ _)) (@pas_cons _ _ _ _ _ (@pd_mulS _ _ _ _ _ _ (@pd_str _ _ _ _) (@pd_int _ _ _ _)) (@pas_nil _) se_b) se_b) se_b) se_b) se_b) se_b))))) (by first | rfl | decide | exact Or.inl rfl | exact Or.inr rfl | exact fun _ _ => rfl | (intro _; rfl) | assumption) (by first | rfl | decide | exact Or.inl rfl | exact Or.inr rfl | exact fun _ _ => rfl | (intro _; rfl) | assumption)) (@pssd_cons _ _ _ _ _ (@psd_set _ _ _ _ (8) _ _ sc_Z5.nd (by rfl) (by first | exact Or.inl rfl | exact Or.inr rfl) (@pd_ix _ _ _ _ _ _ (@pb_var _ 7 _ _ (pv 7)) (@pd_mod _ _ _ _ _ _ (@pd_call _ _ _ _ _ _ _ (fun t ha => @pe_call _ _ _ _ _ _ _ _ _ _ _ _ _ _ _ _ (G_Z12.mono (by decide)) hr (by rfl) a_Z12 k_Z12 b_Z12 .nil pass0 ha (by first | rfl | decide | exact Or.inl rfl | exact Or.inr rfl | exact fun _ _ => rfl | (intro _; rfl) | assumption) (by first | rfl | decide | exact Or.inl rfl | exact Or.inr rfl | exact fun _ _ => rfl | (intro _; rfl) | assumption) (by first | rfl | decide | exact Or.inl rfl | exact Or.inr rfl | exact fun _ _ => rfl | (intro _; rfl) | assumption)) (by rfl) (@pas_cons _ _ _ _ _ (@pd_var _ 0 _ _ (pv 0)) (@pas_cons _ _ _ _ _ (@pd_add _ _ _ _ _ _ (@pd_var _ 1 _ _ (pv 1)) (@pd_int _ _ _ _)) (@pas_nil _) (by first | rfl | decide | exact Or.inl rfl | exact Or.inr rfl | exact fun _ _ => rfl | (intro _; rfl) | assumption)) (by first | rfl | decide | exact Or.inl rfl | exact Or.inr rfl | exact fun _ _ => rfl | (intro _; rfl) | assumption)) (acons_len (acons_len anil_len))) (@pd_lenB _ _ _ _ _ (by rfl) z_len (@pb_var _ 7 _ _ (pv 7)) (by first | rfl | decide | exact Or.inl rfl | exact Or.inr rfl | exact fun _ _ => rfl | (intro _; rfl) | assumption) (by first | rfl | decide | exact Or.inl rfl | exact Or.inr rfl | exact fun _ _ => rfl | (intro _; rfl) | assumption) (by first | rfl | decide | exact Or.inl rfl | exact Or.inr rfl | exact fun _ _ => rfl | (intro _; rfl) | assumption))) (by first | rfl | decide | exact Or.inl rfl | exact Or.inr rfl | exact fun _ _ => rfl | (intro _; rfl) | assumption)) (by first | rfl | decide | exact Or.inl rfl | exact Or.inr rfl | exact fun _ _ => rfl | (intro _; rfl) | assumption) (by first | rfl | decide | exact Or.inl rfl | exact Or.inr rfl | exact fun _ _ => rfl | (intro _; rfl) | assumption)) (@pssd_cons _ _ _ _ _ (@psd_if _ _ _ _ _ _ _ _ (@pc_cmp _ _ _ _ _ _ _ _ _ op_eq opd_eqS (@pd_var _ 4 _ _ (pv 4)) (@pd_int _ _ _ _) (nomark _)) (@pssd_one _ _ _ (@psd_ret _ _ _ _ (@pd_addS _ _ _ _ _ _ (@pd_slS _ _ _ _ _ _ _ _ _ (@pd_var _ 2 _ _ (pv 2)) (@pos_none _) (@pos_some _ _ _ (@pd_var _ 3 _ _ (pv 3)))) (@pd_slS _ _ _ _ _ _ _ _ _ (@pd_var _ 2 _ _ (pv 2)) (@pos_some _ _ _ (@pd_add _ _ _ _ _ _ (@pd_var _ 3 _ _ (pv 3)) (@pd_int _ _ _ _))) (@pos_none _))))) (@pssd_nil _)) (@pssd_cons _ _ _ _ _ (@psd_if _ _ _ _ _ _ _ _ (@pc_cmp _ _ _ _ _ _ _ _ _ op_lt opd_lt (@pd_var _ 4 _ _ (pv 4)) (@pd_int _ _ _ _) (nomark _)) (@pssd_one _ _ _ (@psd_ret _ _ _ _ (@pd_addS _ _ _ _ _ _ (@pd_addS _ _ _ _ _ _ (@pd_slS _ _ _ _ _ _ _ _ _ (@pd_var _ 2 _ _ (pv 2)) (@pos_none _) (@pos_some _ _ _ (@pd_var _ 3 _ _ (pv 3)))) (@pd_call _ _ _ _ _ _ _ (fun t ha => @pe_call _ _ _ _ _ _ _ _ _ _ _ _ _ _ _ _ (G_Z14.mono (by decide)) hr (by rfl) a_Z14 k_Z14 b_Z14 .nil pass0 ha (by first | rfl | decide | exact Or.inl rfl | exact Or.inr rfl | exact fun _ _ => rfl | (intro _; rfl) | assumption) (by first | rfl | decide | exact Or.inl rfl | exact Or.inr rfl | exact fun _ _ => rfl | (intro _; rfl) | assumption) (by first | rfl | decide | exact Or.inl rfl | exact Or.inr rfl | exact fun _ _ => rfl | (intro _; rfl) | assumption)) (by rfl) (@pas_cons _ _ _ _ _ (@pd_var _ 0 _ _ (pv 0)) (@pas_cons _ _ _ _ _ (@pd_add _ _ _ _ _ _ (@pd_var _ 1 _ _ (pv 1)) (@pd_int _ _ _ _)) (@pas_nil _) (by first | rfl | decide | exact Or.inl rfl | exact Or.inr rfl | exact fun _ _ => rfl | (intro _; rfl) | assumption)) (by first | rfl | decide | exact Or.inl rfl | exact Or.inr rfl | exact fun _ _ => rfl | (intro _; rfl) | assumption)) (acons_len (acons_len anil_len)))) (@pd_slS _ _ _ _ _ _ _ _ _ (@pd_var _ 2 _ _ (pv 2)) (@pos_some _ _ _ (@pd_sub _ _ _ _ _ _ (@pd_add _ _ _ _ _ _ (@pd_var _ 3 _ _ (pv 3)) (@pd_var _ 4 _ _ (pv 4))) (@pd_int _ _ _ _))) (@pos_none _))))) (@pssd_nil _)) (@pssd_cons _ _ _ _ _ (@psd_if _ _ _ _ _ _ _ _ (@pc_cmp _ _ _ _ _ _ _ _ _ op_eq opd_eqS (@pd_var _ 4 _ _ (pv 4)) (@pd_int _ _ _ _) (nomark _)) (@pssd_one _ _ _ (@psd_popAt _ _ _ _ (5) _ _ _ _ (fun t ha => @pe_bm _ _ _ _ _ _ _ _ _ _ _ _ PySem.F.plainAttrs_list PySem.F.slot_list_pop PySem.F.type_list_pop mt_popAt (pv 5) ha (by first | rfl | decide | exact Or.inl rfl | exact Or.inr rfl | exact fun _ _ => rfl | (intro _; rfl) | assumption) (by first | rfl | decide | exact Or.inl rfl | exact Or.inr rfl | exact fun _ _ => rfl | (intro _; rfl) | assumption) (by first | rfl | decide | exact Or.inl rfl | exact Or.inr rfl | exact fun _ _ => rfl | (intro _; rfl) | assumption) (by first | rfl | decide | exact Or.inl rfl | exact Or.inr rfl | exact fun _ _ => rfl | (intro _; rfl) | assumption) (by first | rfl | decide | exact Or.inl rfl | exact Or.inr rfl | exact fun _ _ => rfl | (intro _; rfl) | assumption)) (@pas_cons _ _ _ _ _ (@pd_var _ 6 _ _ (pv 6)) (@pas_nil _) (by first | rfl | decide | exact Or.inl rfl | exact Or.inr rfl | exact fun _ _ => rfl | (intro _; rfl) | assumption)) (by first | rfl | decide | exact Or.inl rfl | exact Or.inr rfl | exact fun _ _ => rfl | (intro _; rfl) | assumption))) (@pssd_one _ _ _ (@psd_if _ _ _ _ _ _ _ _ (@pc_cmp _ _ _ _ _ _ _ _ _ op_eq opd_eqS (@pd_var _ 4 _ _ (pv 4)) (@pd_int _ _ _ _) (nomark _)) (@pssd_one _ _ _ (@psd_setix _ _ _ _ (5) (@ps_asg _ _ _ _ _ _ (@pd_var _ 8 _ _ (pv 8)) (@pg_sub _ _ _ _ _ _ _ (pv 5) (@pd_var _ 6 _ _ (pv 6)) set_list (by first | rfl | decide | exact Or.inl rfl | exact Or.inr rfl | exact fun _ _ => rfl | (intro _; rfl) | assumption)) (by first | rfl | decide | exact Or.inl rfl | exact Or.inr rfl | exact fun _ _ => rfl | (intro _; rfl) | assumption) (by first | rfl | decide | exact Or.inl rfl | exact Or.inr rfl | exact fun _ _ => rfl | (intro _; rfl) | assumption) (by first | rfl | decide | exact Or.inl rfl | exact Or.inr rfl | exact fun _ _ => rfl | (intro _; rfl) | assumption)))) (@pssd_one _ _ _ (@psd_ins _ _ _ _ _ (5) _ _ _ _ _ (fun t ha => @pe_bm _ _ _ _ _ _ _ _ _ _ _ _ PySem.F.plainAttrs_list PySem.F.slot_list_insert PySem.F.type_list_insert mt_insert (pv 5) ha (by first | rfl | decide | exact Or.inl rfl | exact Or.inr rfl | exact fun _ _ => rfl | (intro _; rfl) | assumption) (by first | rfl | decide | exact Or.inl rfl | exact Or.inr rfl | exact fun _ _ => rfl | (intro _; rfl) | assumption) (by first | rfl | decide | exact Or.inl rfl | exact Or.inr rfl | exact fun _ _ => rfl | (intro _; rfl) | assumption) (by first | rfl | decide | exact Or.inl rfl | exact Or.inr rfl | exact fun _ _ => rfl | (intro _; rfl) | assumption) (by first | rfl | decide | exact Or.inl rfl | exact Or.inr rfl | exact fun _ _ => rfl | (intro _; rfl) | assumption)) (@pas_cons _ _ _ _ _ (@pd_var _ 6 _ _ (pv 6)) (@pas_cons _ _ _ _ _ (@pd_var _ 8 _ _ (pv 8)) (@pas_nil _) (by first | rfl | decide | exact Or.inl rfl | exact Or.inr rfl | exact fun _ _ => rfl | (intro _; rfl) | assumption)) (by first | rfl | decide | exact Or.inl rfl | exact Or.inr rfl | exact fun _ _ => rfl | (intro _; rfl) | assumption)) (by first | rfl | decide | exact Or.inl rfl | exact Or.inr rfl | exact fun _ _ => rfl | (intro _; rfl) | assumption)))))) (@pssd_freeze _ 5 _ _ (@pssd_one _ _ _ (@psd_ret _ _ _ _ (@pd_meth _ _ _ _ ("str.join") _ _ _ _ _ _ _ (fun t ha => @pe_bm _ _ _ _ _ _ _ _ _ _ _ _ PySem.F.plainAttrs_str PySem.F.slot_str_join PySem.F.type_str_join mt_join (@pd_str _ _ _ _) ha (by first | rfl | decide | exact Or.inl rfl | exact Or.inr rfl | exact fun _ _ => rfl | (intro _; rfl) | assumption) (by first | rfl | decide | exact Or.inl rfl | exact Or.inr rfl | exact fun _ _ => rfl | (intro _; rfl) | assumption) (by first | rfl | decide | exact Or.inl rfl | exact Or.inr rfl | exact fun _ _ => rfl | (intro _; rfl) | assumption) (by first | rfl | decide | exact Or.inl rfl | exact Or.inr rfl | exact fun _ _ => rfl | (intro _; rfl) | assumption) (by first | rfl | decide | exact Or.inl rfl | exact Or.inr rfl | exact fun _ _ => rfl | (intro _; rfl) | assumption)) dJoin (@pas_cons _ _ _ _ _ (@pd_var _ 5 _ _ (pv 5)) (@pas_nil _) (by first | rfl | decide | exact Or.inl rfl | exact Or.inr rfl | exact fun _ _ => rfl | (intro _; rfl) | assumption))))))))))))))))
noncomputable abbrev s_Z4 : Stmt := top 24
noncomputable abbrev N_Z4 : List Str := ["word", "figures"]
theorem sc_Z4 : FnScope N_Z4 ["word"] (defScope s_Z4) := ⟨rfl, rfl, rfl, by decide +kernel, rfl, by decide +kernel, by decide +kernel⟩
theorem nd_law_number_0 : List.Nodup (["sign"] : List Str) := by decide +kernel
theorem ok_Z4 {P : Program} {w : World} {K : W.Frag} {mg : Str -> Option Value} {base : Heap} {f : Addr} {fd : FuncData} (Fn : Fun K "_law_number" "_law_number" s_Z4 f fd) (z_int : mg "int" = none) (z_len : mg "len" = none) : FnOk P w K mg base CX0 1 f fd ["word"] (spR K 1 m_Z4) :=
 Fn.okD (k := 0) (m := b_Z4) sc_Z4 fun cdv A outer s H E hr => (pssd_cons (psd_set (i := 1) sc_Z4.nd rfl (by first | exact Or.inl rfl | exact Or.inr rfl) (pd_var 0 (pv 0))) (pssd_cons (psd_if (pc_cmp op_eq opd_eqS (pd_slS (pd_var 0 (pv 0)) pos_none (pos_some pd_int)) pd_str (nomark _)) (pssd_one (psd_set (i := 1) sc_Z4.nd rfl (by first | exact Or.inl rfl | exact Or.inr rfl) (pd_slS (pd_var 0 (pv 0)) (pos_some pd_int) pos_none))) pssd_nil) (pssd_cons (psd_if (pc_w (pcw_or (pc_not (pc_chain op_le opd_le op_le opd_le pd_int (pd_lenS rfl z_len (pas_cons (pd_var 1 (pv 1)) pas_nil)) pd_int)) (pw1_or (pc_eqB (op_neF hr.units) (pf_pb (pf_comp (blk_of (N := ["sign"]) (src := [none]) (defScope s_Z4) N_Z4 rfl rfl (by decide +kernel)) rfl (pid_str (pd_var 1 (pv 1))) (fun C fp s0 H0 => (pgd_name (i := 0) (pg_name nd_law_number_0 rfl (by first | exact Or.inl rfl | exact Or.inr rfl)))) (fun C fp s0 H0 => (ptsd_one (pc_cmp op_notIn_str opd_ninS (pd_var 0 (pv 0)) pd_str rfl))) (fun C fp s0 H0 => (pd_var 0 (pv 0))))) (pf_pb (pf_lst pas_nil)) (nomark _))))) (pssd_one (psd_ret pd_non)) pssd_nil) (pssd_cons (psd_if (pc_w (pcw_and (pc_cmp op_eq opd_eqS (pd_ixS (pd_var 1 (pv 1)) pd_int) pd_str (nomark _)) (pw1_and (pc_cmp op_ne opd_neS (pd_var 0 (pv 0)) pd_str (nomark _))))) (pssd_one (psd_ret pd_non)) pssd_nil) (pssd_one (psd_ret (pd_intT rfl z_int (pas_cons (pd_var 0 (pv 0)) pas_nil) PyProof.Rows.boot_int)))))))
noncomputable abbrev s_Z11 : Stmt := top 25
noncomputable abbrev N_Z11 : List Str := ["text", "found", "e"]
theorem sc_Z11 : FnScope N_Z11 ["text"] (defScope s_Z11) := ⟨rfl, rfl, rfl, by decide +kernel, rfl, by decide +kernel, by decide +kernel⟩
theorem nd_law_told_0 : List.Nodup (["k"] : List Str) := by decide +kernel
theorem ok_Z11 {P : Program} {w : World} {K : W.Frag} {mg : Str -> Option Value} {base : Heap} {f : Addr} {fd : FuncData} {x_Z7 : Addr} {d_Z7 : FuncData} {x_Z13 : Addr} {d_Z13 : FuncData} (Fn : Fun K "_law_told" "_law_told" s_Z11 f fd) (G_Z7 : FnOkN P w K mg base CX0 1 x_Z7 d_Z7 ["e"] (spR K 1 m_Z7)) (b_Z7 : Binds K d_Z7 ["e"] []) (k_Z7 : W.keepIn K (.ref x_Z7) = true) (a_Z7 : mg "_law_flags" = some (.ref x_Z7)) (G_Z13 : FnOk P w K mg base CX0 3 x_Z13 d_Z13 ["text"] (spR K 1 m_Z13)) (b_Z13 : Binds K d_Z13 ["text"] []) (k_Z13 : W.keepIn K (.ref x_Z13) = true) (a_Z13 : mg "read_row" = some (.ref x_Z13)) (GX_Z13 : FnOk P w K mg base (CXx P w) 3 x_Z13 d_Z13 ["text"] (spX K 1 xm_Z13)) {y_WaveError : Addr} (a_WaveError : mg "WaveError" = some (.ref y_WaveError)) (hcl_WaveError : ∀ c ∈ (["NoText"] : List Str), ∀ C, XC K c C -> W.exmOne K (.ref C) (.ref y_WaveError) = some true) (z_int : mg "int" = none) (z_range : mg "range" = none) : FnOk P w K mg base CX0 4 f fd ["text"] (spR K 1 m_Z11) :=
 Fn.okD (k := 3) (m := b_Z11) sc_Z11 fun cdv A outer s H E hr => (pssd_cons (psd_set (i := 1) sc_Z11.nd rfl (by first | exact Or.inl rfl | exact Or.inr rfl) pd_non) (pssd_cons (psd_tryK (names := ["NoText"]) (i := 2) rfl ⟨rfl, rfl, rfl⟩ rfl a_WaveError hcl_WaveError sc_Z11.nd rfl rfl (pssd_one (psd_set (i := 1) sc_Z11.nd rfl (by first | exact Or.inl rfl | exact Or.inr rfl) (pd_call (fun t ha => pe_call (G_Z13.mono (by decide)) hr rfl a_Z13 k_Z13 b_Z13 .nil pass0 ha) rfl (pas_cons (pd_var 0 (pv 0)) pas_nil) (acons_len anil_len)))) (pssx_one (psx_set (i := 1) sc_Z11.nd rfl (by first | exact Or.inl rfl | exact Or.inr rfl) (pex_call rfl ⟨rfl, rfl, rfl⟩ (GX_Z13.mono (by decide)) hr rfl a_Z13 k_Z13 b_Z13 rfl (pas_cons (pd_var 0 (pv 0)) pas_nil) (acons_len anil_len)))) (fun a => (psk_set (i := 1) sc_Z11.nd rfl (by first | exact Or.inl rfl | exact Or.inr rfl) (pdk_ix (pf_pb (pf_lst (pas_cons pd_str (pas_cons pd_str pas_nil)))) (pdk_intc rfl z_int (pdk_eqB (op_eqF hr.units) (pd_pb (pd_call (fun t ha => pe_callN (G_Z7.mono (by decide)) (hr.mark _) rfl a_Z7 k_Z7 b_Z7 .nil pass0 ha) rfl (pas_cons (pd_var 2 (pv 2)) pas_nil) (acons_len anil_len))) (pbk_comp (blk_of (N := ["k"]) (src := [none]) (defScope s_Z11) N_Z11 rfl rfl (by decide +kernel)) rfl rfl z_range (pas_cons pd_int pas_nil) (fun C fp s0 H0 => (pgd_name (i := 0) (pg_name nd_law_told_0 rfl (by first | exact Or.inl rfl | exact Or.inr rfl)))) (fun C fp s0 H0 => ptsd_nil) (fun C fp s0 H0 => (pd_cmp op_eq opd_eqS (pd_var 0 (pv 0)) pd_int (nomark _)))) (nomark _)) PyProof.Rows.boot_int))))) (pssd_one (psd_retO 1 (pv 1)))))
noncomputable abbrev s_Z8 : Stmt := top 26
noncomputable abbrev N_Z8 : List Str := ["text", "due"]
theorem sc_Z8 : FnScope N_Z8 ["text"] (defScope s_Z8) := ⟨rfl, rfl, rfl, by decide +kernel, rfl, by decide +kernel, by decide +kernel⟩
theorem nd_law_right_0 : List.Nodup (["word"] : List Str) := by decide +kernel
theorem ok_Z8 {P : Program} {w : World} {K : W.Frag} {mg : Str -> Option Value} {base : Heap} {f : Addr} {fd : FuncData} {x_Z4 : Addr} {d_Z4 : FuncData} {x_Z3 : Addr} {d_Z3 : FuncData} {x_Z11 : Addr} {d_Z11 : FuncData} (Fn : Fun K "_law_right" "_law_right" s_Z8 f fd) (G_Z4 : FnOk P w K mg base CX0 1 x_Z4 d_Z4 ["word"] (spR K 1 m_Z4)) (b_Z4 : Binds K d_Z4 ["word"] []) (k_Z4 : W.keepIn K (.ref x_Z4) = true) (a_Z4 : mg "_law_number" = some (.ref x_Z4)) (G_Z3 : FnOk P w K mg base CX0 2 x_Z3 d_Z3 ["found", "due"] (spR K 2 m_Z3)) (b_Z3 : Binds K d_Z3 ["found", "due"] []) (k_Z3 : W.keepIn K (.ref x_Z3) = true) (a_Z3 : mg "_law_same" = some (.ref x_Z3)) (G_Z11 : FnOk P w K mg base CX0 4 x_Z11 d_Z11 ["text"] (spR K 1 m_Z11)) (b_Z11 : Binds K d_Z11 ["text"] []) (k_Z11 : W.keepIn K (.ref x_Z11) = true) (a_Z11 : mg "_law_told" = some (.ref x_Z11)) : FnOk P w K mg base CX0 5 f fd ["text"] (spR K 1 m_Z8) :=
 Fn.okD (k := 4) (m := b_Z8) sc_Z8 fun cdv A outer s H E hr => (pssd_cons (psd_setCs (ps_setC (i := 1) sc_Z8.nd rfl (by first | exact Or.inl rfl | exact Or.inr rfl) (blk_of (N := ["word"]) (src := [none]) (defScope s_Z8) N_Z8 rfl rfl (by decide +kernel)) rfl (pid_seq (pd_meth (id := "str.split") (fun t ha => pe_bm PySem.F.plainAttrs_str PySem.F.slot_str_split PySem.F.type_str_split mt_split (pd_var 0 (pv 0)) ha) dSplit (pas_cons pd_str pas_nil))) (fun C fp s0 H0 => (pgd_name (i := 0) (pg_name nd_law_right_0 rfl (by first | exact Or.inl rfl | exact Or.inr rfl)))) (fun C fp s0 H0 => ptsd_nil) (fun C fp s0 H0 => (pd_call (fun t ha => pe_call (G_Z4.mono (by decide)) hr rfl a_Z4 k_Z4 b_Z4 .nil pass0 ha) rfl (pas_cons (pd_var 0 (pv 0)) pas_nil) (acons_len anil_len))))) (pssd_cons (psd_if (pc_cmp op_eq opd_eqS (pd_var 0 (pv 0)) pd_str (nomark _)) (pssd_one (psd_set (i := 1) sc_Z8.nd rfl (by first | exact Or.inl rfl | exact Or.inr rfl) (pf_pd (pf_lst pas_nil)))) pssd_nil) (pssd_cons (psd_if (pc_cmp op_in_seq opd_in pd_non (pd_var 1 (pv 1)) rfl) (pssd_one (psd_set (i := 1) sc_Z8.nd rfl (by first | exact Or.inl rfl | exact Or.inr rfl) pd_str)) pssd_nil) (pssd_one (psd_ret (pd_and (pd_call (fun t ha => pe_call (G_Z3.mono (by decide)) hr rfl a_Z3 k_Z3 b_Z3 .nil pass0 ha) rfl (pas_cons (pd_call (fun t ha => pe_call (G_Z11.mono (by decide)) hr rfl a_Z11 k_Z11 b_Z11 .nil pass0 ha) rfl (pas_cons (pd_var 0 (pv 0)) pas_nil) (acons_len anil_len)) (pas_cons (pd_var 1 (pv 1)) pas_nil)) (acons_len (acons_len anil_len))) (pd_one (pd_call (fun t ha => pe_call (G_Z3.mono (by decide)) hr rfl a_Z3 k_Z3 b_Z3 .nil pass0 ha) rfl (pas_cons (pd_call (fun t ha => pe_call (G_Z11.mono (by decide)) hr rfl a_Z11 k_Z11 b_Z11 .nil pass0 ha) rfl (pas_cons (pd_var 0 (pv 0)) pas_nil) (acons_len anil_len)) (pas_cons (pd_var 1 (pv 1)) pas_nil)) (acons_len (acons_len anil_len))))))))))
noncomputable abbrev s_Z15 : Stmt := top 27
noncomputable abbrev N_Z15 : List Str := ["script", "cell", "text", "turn", "once", "some"]
theorem sc_Z15 : FnScope N_Z15 ["script"] (defScope s_Z15) := ⟨rfl, rfl, rfl, by decide +kernel, rfl, by decide +kernel, by decide +kernel⟩
theorem nd_law_0 : List.Nodup (["text"] : List Str) := by decide +kernel
theorem ok_Z15 {P : Program} {w : World} {K : W.Frag} {mg : Str -> Option Value} {base : Heap} {f : Addr} {fd : FuncData} {x_Z6 : Addr} {d_Z6 : FuncData} {x_Z2 : Addr} {d_Z2 : FuncData} {x_Z8 : Addr} {d_Z8 : FuncData} {x_Z5 : Addr} {d_Z5 : FuncData} {x_Z10 : Addr} {d_Z10 : FuncData} (Fn : Fun K "law" "law" s_Z15 f fd) (G_Z6 : FnOk P w K mg base CX0 1 x_Z6 d_Z6 ["script", "many"] (spR K 2 m_Z6)) (b_Z6 : Binds K d_Z6 ["script", "many"] []) (k_Z6 : W.keepIn K (.ref x_Z6) = true) (a_Z6 : mg "_law_cells" = some (.ref x_Z6)) (G_Z2 : FnOk P w K mg base CX0 2 x_Z2 d_Z2 ["cell", "most"] (spR K 2 m_Z2)) (b_Z2 : Binds K d_Z2 ["cell", "most"] []) (k_Z2 : W.keepIn K (.ref x_Z2) = true) (a_Z2 : mg "_law_numbers" = some (.ref x_Z2)) (G_Z8 : FnOk P w K mg base CX0 5 x_Z8 d_Z8 ["text"] (spR K 1 m_Z8)) (b_Z8 : Binds K d_Z8 ["text"] []) (k_Z8 : W.keepIn K (.ref x_Z8) = true) (a_Z8 : mg "_law_right" = some (.ref x_Z8)) (G_Z5 : FnOk P w K mg base CX0 3 x_Z5 d_Z5 ["cell", "k", "text"] (spR K 3 m_Z5)) (b_Z5 : Binds K d_Z5 ["cell", "k", "text"] []) (k_Z5 : W.keepIn K (.ref x_Z5) = true) (a_Z5 : mg "_law_spoilt" = some (.ref x_Z5)) (G_Z10 : FnOk P w K mg base CX0 1 x_Z10 d_Z10 ["row"] (spR K 1 m_Z10)) (b_Z10 : Binds K d_Z10 ["row"] []) (k_Z10 : W.keepIn K (.ref x_Z10) = true) (a_Z10 : mg "_law_text" = some (.ref x_Z10)) (z_range : mg "range" = none) : FnOk P w K mg base CX0 6 f fd ["script"] (spR K 1 m_Z15) :=
 Fn.okD (k := 5) (m := b_Z15) sc_Z15 fun cdv A outer s H E hr => (@pssd_cons _ _ _ _ _ (@psd_for _ _ _ _ _ _ _ _ PassesOwn.never (by rfl) (@pid_seq _ _ _ _ (@pd_call _ _ _ _ _ _ _ (fun t ha => @pe_call _ _ _ _ _ _ _ _ _ _ _ _ _ _ _ _ (G_Z6.mono (by decide)) hr (by rfl) a_Z6 k_Z6 b_Z6 .nil pass0 ha (by first | rfl | decide | exact Or.inl rfl | exact Or.inr rfl | exact fun _ _ => rfl | (intro _; rfl) | assumption) (by first | rfl | decide | exact Or.inl rfl | exact Or.inr rfl | exact fun _ _ => rfl | (intro _; rfl) | assumption) (by first | rfl | decide | exact Or.inl rfl | exact Or.inr rfl | exact fun _ _ => rfl | (intro _; rfl) | assumption)) (by rfl) (@pas_cons _ _ _ _ _ (@pd_var _ 0 _ _ (pv 0)) (@pas_cons _ _ _ _ _ (@pd_int _ _ _ _) (@pas_nil _) (by first | rfl | decide | exact Or.inl rfl | exact Or.inr rfl | exact fun _ _ => rfl | (intro _; rfl) | assumption)) (by first | rfl | decide | exact Or.inl rfl | exact Or.inr rfl | exact fun _ _ => rfl | (intro _; rfl) | assumption)) (acons_len (acons_len anil_len)))) (pgd_name (i := 1) (@pg_name _ _ _ _ sc_Z15.nd (by rfl) (by first | exact Or.inl rfl | exact Or.inr rfl) (by first | rfl | decide | exact Or.inl rfl | exact Or.inr rfl | exact fun _ _ => rfl | (intro _; rfl) | assumption))) (@pssd_cons _ _ _ _ _ (@psd_set _ _ _ _ (2) _ _ sc_Z15.nd (by rfl) (by first | exact Or.inl rfl | exact Or.inr rfl) (@pd_call _ _ _ _ _ _ _ (fun t ha => @pe_call _ _ _ _ _ _ _ _ _ _ _ _ _ _ _ _ (G_Z10.mono (by decide)) hr (by rfl) a_Z10 k_Z10 b_Z10 .nil pass0 ha (by first | rfl | decide | exact Or.inl rfl | exact Or.inr rfl | exact fun _ _ => rfl | (intro _; rfl) | assumption) (by first | rfl | decide | exact Or.inl rfl | exact Or.inr rfl | exact fun _ _ => rfl | (intro _; rfl) | assumption) (by first | rfl | decide | exact Or.inl rfl | exact Or.inr rfl | exact fun _ _ => rfl | (intro _; rfl) | assumption)) (by rfl) (@pas_cons _ _ _ _ _ (@pd_call _ _ _ _ _ _ _ (fun t ha => @pe_call _ _ _ _ _ _ _ _ _ _ _ _ _ _ _ _ (G_Z2.mono (by decide)) hr (by rfl) a_Z2 k_Z2 b_Z2 .nil pass0 ha (by first | rfl | decide | exact Or.inl rfl | exact Or.inr rfl | exact fun _ _ => rfl | (intro _; rfl) | assumption) (by first | rfl | decide | exact Or.inl rfl | exact Or.inr rfl | exact fun _ _ => rfl | (intro _; rfl) | assumption) (by first | rfl | decide | exact Or.inl rfl | exact Or.inr rfl | exact fun _ _ => rfl | (intro _; rfl) | assumption)) (by rfl) (@pas_cons _ _ _ _ _ (@pd_var _ 1 _ _ (pv 1)) (@pas_cons _ _ _ _ _ (@pd_int _ _ _ _) (@pas_nil _) (by first | rfl | decide | exact Or.inl rfl | exact Or.inr rfl | exact fun _ _ => rfl | (intro _; rfl) | assumption)) (by first | rfl | decide | exact Or.inl rfl | exact Or.inr rfl | exact fun _ _ => rfl | (intro _; rfl) | assumption)) (acons_len (acons_len anil_len))) (@pas_nil _) (by first | rfl | decide | exact Or.inl rfl | exact Or.inr rfl | exact fun _ _ => rfl | (intro _; rfl) | assumption)) (acons_len anil_len)) (by first | rfl | decide | exact Or.inl rfl | exact Or.inr rfl | exact fun _ _ => rfl | (intro _; rfl) | assumption) (by first | rfl | decide | exact Or.inl rfl | exact Or.inr rfl | exact fun _ _ => rfl | (intro _; rfl) | assumption)) (@pssd_one _ _ _ (@psd_for _ _ _ _ _ _ _ _ PassesOwn.never (by rfl) (@pid_range1 _ _ _ _ _ _ (by rfl) z_range (@pas_cons _ _ _ _ _ (@pd_int _ _ _ _) (@pas_nil _) (by first | rfl | decide | exact Or.inl rfl | exact Or.inr rfl | exact fun _ _ => rfl | (intro _; rfl) | assumption)) (by first | rfl | decide | exact Or.inl rfl | exact Or.inr rfl | exact fun _ _ => rfl | (intro _; rfl) | assumption)) (pgd_name (i := 3) (@pg_name _ _ _ _ sc_Z15.nd (by rfl) (by first | exact Or.inl rfl | exact Or.inr rfl) (by first | rfl | decide | exact Or.inl rfl | exact Or.inr rfl | exact fun _ _ => rfl | (intro _; rfl) | assumption))) (@pssd_cons _ _ _ _ _ (@psd_set _ _ _ _ (4) _ _ sc_Z15.nd (by rfl) (by first | exact Or.inl rfl | exact Or.inr rfl) (@pd_call _ _ _ _ _ _ _ (fun t ha => @pe_call _ _ _ _ _ _ _ _ _ _ _ _ _ _ _ _ (G_Z5.mono (by decide)) hr (by rfl) a_Z5 k_Z5 b_Z5 .nil pass0 ha (by first | rfl | decide | exact Or.inl rfl | exact Or.inr rfl | exact fun _ _ => rfl | (intro _; rfl) | assumption) (by first | rfl | decide | exact Or.inl rfl | exact Or.inr rfl | exact fun _ _ => rfl | (intro _; rfl) | assumption) (by first | rfl | decide | exact Or.inl rfl | exact Or.inr rfl | exact fun _ _ => rfl | (intro _; rfl) | assumption)) (by rfl) (@pas_cons _ _ _ _ _ (@pd_var _ 1 _ _ (pv 1)) (@pas_cons _ _ _ _ _ (@pd_add _ _ _ _ _ _ (@pd_int _ _ _ _) (@pd_mul _ _ _ _ _ _ (@pd_int _ _ _ _) (@pd_var _ 3 _ _ (pv 3)))) (@pas_cons _ _ _ _ _ (@pd_var _ 2 _ _ (pv 2)) (@pas_nil _) (by first | rfl | decide | exact Or.inl rfl | exact Or.inr rfl | exact fun _ _ => rfl | (intro _; rfl) | assumption)) (by first | rfl | decide | exact Or.inl rfl | exact Or.inr rfl | exact fun _ _ => rfl | (intro _; rfl) | assumption)) (by first | rfl | decide | exact Or.inl rfl | exact Or.inr rfl | exact fun _ _ => rfl | (intro _; rfl) | assumption)) (acons_len (acons_len (acons_len anil_len)))) (by first | rfl | decide | exact Or.inl rfl | exact Or.inr rfl | exact fun _ _ => rfl | (intro _; rfl) | assumption) (by first | rfl | decide | exact Or.inl rfl | exact Or.inr rfl | exact fun _ _ => rfl | (intro _; rfl) | assumption)) (@pssd_one _ _ _ (@psd_if _ _ _ _ _ _ _ _ (@pc_w _ _ _ (pcw_or (@pc_not _ _ _ _ (@pc_tru _ _ _ (@pd_call _ _ _ _ _ _ _ (fun t ha => @pe_call _ _ _ _ _ _ _ _ _ _ _ _ _ _ _ _ (G_Z8.mono (by decide)) hr (by rfl) a_Z8 k_Z8 b_Z8 .nil pass0 ha (by first | rfl | decide | exact Or.inl rfl | exact Or.inr rfl | exact fun _ _ => rfl | (intro _; rfl) | assumption) (by first | rfl | decide | exact Or.inl rfl | exact Or.inr rfl | exact fun _ _ => rfl | (intro _; rfl) | assumption) (by first | rfl | decide | exact Or.inl rfl | exact Or.inr rfl | exact fun _ _ => rfl | (intro _; rfl) | assumption)) (by rfl) (@pas_cons _ _ _ _ _ (@pd_var _ 4 _ _ (pv 4)) (@pas_nil _) (by first | rfl | decide | exact Or.inl rfl | exact Or.inr rfl | exact fun _ _ => rfl | (intro _; rfl) | assumption)) (acons_len anil_len)) (by first | rfl | decide | exact Or.inl rfl | exact Or.inr rfl | exact fun _ _ => rfl | (intro _; rfl) | assumption))) (pw1_or (@pc_not _ _ _ _ (@pc_tru _ _ _ (@pd_call _ _ _ _ _ _ _ (fun t ha => @pe_call _ _ _ _ _ _ _ _ _ _ _ _ _ _ _ _ (G_Z8.mono (by decide)) hr (by rfl) a_Z8 k_Z8 b_Z8 .nil pass0 ha (by first | rfl | decide | exact Or.inl rfl | exact Or.inr rfl | exact fun _ _ => rfl | (intro _; rfl) | assumption) (by first | rfl | decide | exact Or.inl rfl | exact Or.inr rfl | exact fun _ _ => rfl | (intro _; rfl) | assumption) (by first | rfl | decide | exact Or.inl rfl | exact Or.inr rfl | exact fun _ _ => rfl | (intro _; rfl) | assumption)) (by rfl) (@pas_cons _ _ _ _ _ (@pd_call _ _ _ _ _ _ _ (fun t ha => @pe_call _ _ _ _ _ _ _ _ _ _ _ _ _ _ _ _ (G_Z5.mono (by decide)) hr (by rfl) a_Z5 k_Z5 b_Z5 .nil pass0 ha (by first | rfl | decide | exact Or.inl rfl | exact Or.inr rfl | exact fun _ _ => rfl | (intro _; rfl) | assumption) (by first | rfl | decide | exact Or.inl rfl | exact Or.inr rfl | exact fun _ _ => rfl | (intro _; rfl) | assumption) (by first | rfl | decide | exact Or.inl rfl | exact Or.inr rfl | exact fun _ _ => rfl | (intro _; rfl) | assumption)) (by rfl) (@pas_cons _ _ _ _ _ (@pd_var _ 1 _ _ (pv 1)) (@pas_cons _ _ _ _ _ (@pd_add _ _ _ _ _ _ (@pd_int _ _ _ _) (@pd_mul _ _ _ _ _ _ (@pd_int _ _ _ _) (@pd_var _ 3 _ _ (pv 3)))) (@pas_cons _ _ _ _ _ (@pd_var _ 4 _ _ (pv 4)) (@pas_nil _) (by first | rfl | decide | exact Or.inl rfl | exact Or.inr rfl | exact fun _ _ => rfl | (intro _; rfl) | assumption)) (by first | rfl | decide | exact Or.inl rfl | exact Or.inr rfl | exact fun _ _ => rfl | (intro _; rfl) | assumption)) (by first | rfl | decide | exact Or.inl rfl | exact Or.inr rfl | exact fun _ _ => rfl | (intro _; rfl) | assumption)) (acons_len (acons_len (acons_len anil_len)))) (@pas_nil _) (by first | rfl | decide | exact Or.inl rfl | exact Or.inr rfl | exact fun _ _ => rfl | (intro _; rfl) | assumption)) (acons_len anil_len)) (by first | rfl | decide | exact Or.inl rfl | exact Or.inr rfl | exact fun _ _ => rfl | (intro _; rfl) | assumption)))))) (@pssd_one _ _ _ (@psd_ret _ _ _ _ (@pd_bl _ _ _ _))) (@pssd_nil _)))) (by first | rfl | decide | exact Or.inl rfl | exact Or.inr rfl | exact fun _ _ => rfl | (intro _; rfl) | assumption)))) (by first | rfl | decide | exact Or.inl rfl | exact Or.inr rfl | exact fun _ _ => rfl | (intro _; rfl) | assumption)) (@pssd_cons _ _ _ _ _ (@psd_set _ _ _ _ (5) _ _ sc_Z15.nd (by rfl) (by first | exact Or.inl rfl | exact Or.inr rfl) (@pf_pd _ _ _ (@pf_lst _ _ _ _ (@pas_cons _ _ _ _ _ (@pd_str _ _ _ _) (@pas_cons _ _ _ _ _ (@pd_str _ _ _ _) (@pas_cons _ _ _ _ _ (@pd_str _ _ _ _) (@pas_cons _ _ _ _ _ (@pd_str _ _ _ _) (@pas_cons _ _ _ _ _ (@pd_str _ _ _ _) (@pas_cons _ _ _ _ _ (@pd_str _ _ _ _) (@pas_cons _ _ _ _ _ (@pd_str _ _ _ _) (@pas_cons _ _ _ _ _ (@pd_str _ _ _ _) (@pas_cons _ _ _ _ _ (@pd_str _ _ _ _) (@pas_cons _ _ _ _ _ (@pd_str _ _ _ _) (@pas_cons _ _ _ _ _ (@pd_str _ _ _ _) (@pas_cons _ _ _ _ _ (@pd_str _ _ _ _) (@pas_cons _ _ _ _ _ (@pd_str _ _ _ _) (@pas_cons _ _ _ _ _ (@pd_str _ _ _ _) (@pas_cons _ _ _ _ _ (@pd_str _ _ _ _) (@pas_nil _) se_c) se_c) se_c) se_c) se_c) se_c) se_c) se_c) se_c) se_c) se_c) se_c) se_c) se_c) se_c))) (by first | rfl | decide | exact Or.inl rfl | exact Or.inr rfl | exact fun _ _ => rfl | (intro _; rfl) | assumption) (by first | rfl | decide | exact Or.inl rfl | exact Or.inr rfl | exact fun _ _ => rfl | (intro _; rfl) | assumption)) (@pssd_cons _ _ _ _ _ (@psd_set _ _ _ _ (5) _ _ sc_Z15.nd (by rfl) (by first | exact Or.inl rfl | exact Or.inr rfl) (@pf_pd _ _ _ (@pf_cat _ _ _ _ _ _ (@pb_var _ 5 _ _ (pv 5)) (@pf_pb _ _ _ (@pf_lst _ _ _ _ (@pas_cons _ _ _ _ _ (@pd_str _ _ _ _) (@pas_cons _ _ _ _ _ (@pd_str _ _ _ _) (@pas_cons _ _ _ _ _ (@pd_str _ _ _ _) (@pas_cons _ _ _ _ _ (@pd_str _ _ _ _) (@pas_cons _ _ _ _ _ (@pd_str _ _ _ _) (@pas_cons _ _ _ _ _ (@pd_str _ _ _ _) (@pas_cons _ _ _ _ _ (@pd_str _ _ _ _) (@pas_cons _ _ _ _ _ (@pd_mulS _ _ _ _ _ _ (@pd_str _ _ _ _) (@pd_int _ _ _ _)) (@pas_cons _ _ _ _ _ (@pd_mulS _ _ _ _ _ _ (@pd_str _ _ _ _) (@pd_int _ _ _ _)) (@pas_cons _ _ _ _ _ (@pd_mulS _ _ _ _ _ _ (@pd_str _ _ _ _) (@pd_int _ _ _ _)) (@pas_cons _ _ _ _ _ (@pd_addS _ _ _ _ _ _ (@pd_str _ _ _ _) (@pd_mulS _ _ _ _ _ _ (@pd_str _ _ _ _) (@pd_int _ _ _ _))) (@pas_nil _) se_b) se_b) se_b) se_b) se_c) se_c) se_c) se_c) se_c) se_c) se_c))))) (by first | rfl | decide | exact Or.inl rfl | exact Or.inr rfl | exact fun _ _ => rfl | (intro _; rfl) | assumption) (by first | rfl | decide | exact Or.inl rfl | exact Or.inr rfl | exact fun _ _ => rfl | (intro _; rfl) | assumption)) (@pssd_one _ _ _ (@psd_ret _ _ _ _ (@pd_eqB _ _ _ _ _ _ _ _ (op_eqF hr.units) (@pf_pb _ _ _ (@pf_comp _ _ _ _ _ _ _ _ _ _ _ _ _ (blk_of (N := ["text"]) (src := [none]) (defScope s_Z15) N_Z15 rfl rfl (by decide +kernel)) (by rfl) (@pid_seq _ _ _ _ (@pd_var _ 5 _ _ (pv 5))) (fun C fp s0 H0 => (pgd_name (i := 0) (@pg_name _ _ _ _ nd_law_0 (by rfl) (by first | exact Or.inl rfl | exact Or.inr rfl) (by first | rfl | decide | exact Or.inl rfl | exact Or.inr rfl | exact fun _ _ => rfl | (intro _; rfl) | assumption)))) (fun C fp s0 H0 => (ptsd_one (@pc_not _ _ _ _ (@pc_tru _ _ _ (@pd_call _ _ _ _ _ _ _ (fun t ha => @pe_call _ _ _ _ _ _ _ _ _ _ _ _ _ _ _ _ (G_Z8.mono (by decide)) hr (by rfl) a_Z8 k_Z8 b_Z8 .nil pass0 ha (by first | rfl | decide | exact Or.inl rfl | exact Or.inr rfl | exact fun _ _ => rfl | (intro _; rfl) | assumption) (by first | rfl | decide | exact Or.inl rfl | exact Or.inr rfl | exact fun _ _ => rfl | (intro _; rfl) | assumption) (by first | rfl | decide | exact Or.inl rfl | exact Or.inr rfl | exact fun _ _ => rfl | (intro _; rfl) | assumption)) (by rfl) (@pas_cons _ _ _ _ _ (@pd_var _ 0 _ _ (pv 0)) (@pas_nil _) (by first | rfl | decide | exact Or.inl rfl | exact Or.inr rfl | exact fun _ _ => rfl | (intro _; rfl) | assumption)) (acons_len anil_len)) (by first | rfl | decide | exact Or.inl rfl | exact Or.inr rfl | exact fun _ _ => rfl | (intro _; rfl) | assumption))))) (fun C fp s0 H0 => (@pd_var _ 0 _ _ (pv 0))) (by first | rfl | decide | exact Or.inl rfl | exact Or.inr rfl | exact fun _ _ => rfl | (intro _; rfl) | assumption))) (@pf_pb _ _ _ (@pf_lst _ _ _ _ (@pas_nil _))) (nomark _)))))))
theorem all_mk {l : W.OpenLaw} {w : World} {K : W.Frag} {h : Heap} {mg : Str -> Option Value} {fa x_Z1 x_Z9 x_Z13 x_Z12 x_Z6 x_law_same x_Z7 x_Z2 x_Z10 x_Z14 x_Z5 x_Z4 x_Z11 x_Z8 x_Z15 : Addr} (X : K.In h) (G : h.Ns mainGlobals mg) (hfa : mg "law" = some (.ref fa)) {o1_Z1 o2_Z1 : Option Addr} {sl_Z1 : Array (Option Value)} {oc_Z1 kV_Z1 dc_Z1 pm_Z1 cd_Z1 ct_Z1 : Value} {o1_Z9 o2_Z9 : Option Addr} {sl_Z9 : Array (Option Value)} {oc_Z9 kV_Z9 dc_Z9 pm_Z9 cd_Z9 ct_Z9 : Value} {o1_Z13 o2_Z13 : Option Addr} {sl_Z13 : Array (Option Value)} {oc_Z13 kV_Z13 dc_Z13 pm_Z13 cd_Z13 ct_Z13 : Value} {o1_Z12 o2_Z12 : Option Addr} {sl_Z12 : Array (Option Value)} {oc_Z12 kV_Z12 dc_Z12 pm_Z12 cd_Z12 ct_Z12 : Value} {o1_Z6 o2_Z6 : Option Addr} {sl_Z6 : Array (Option Value)} {oc_Z6 kV_Z6 dc_Z6 pm_Z6 cd_Z6 ct_Z6 : Value} {o1_law_same o2_law_same : Option Addr} {sl_law_same : Array (Option Value)} {oc_law_same kV_law_same dc_law_same pm_law_same cd_law_same ct_law_same : Value} {o1_Z7 o2_Z7 : Option Addr} {sl_Z7 : Array (Option Value)} {oc_Z7 kV_Z7 dc_Z7 pm_Z7 cd_Z7 ct_Z7 : Value} {o1_Z2 o2_Z2 : Option Addr} {sl_Z2 : Array (Option Value)} {oc_Z2 kV_Z2 dc_Z2 pm_Z2 cd_Z2 ct_Z2 : Value} {o1_Z10 o2_Z10 : Option Addr} {sl_Z10 : Array (Option Value)} {oc_Z10 kV_Z10 dc_Z10 pm_Z10 cd_Z10 ct_Z10 : Value} {o1_Z14 o2_Z14 : Option Addr} {sl_Z14 : Array (Option Value)} {oc_Z14 kV_Z14 dc_Z14 pm_Z14 cd_Z14 ct_Z14 : Value} {o1_Z5 o2_Z5 : Option Addr} {sl_Z5 : Array (Option Value)} {oc_Z5 kV_Z5 dc_Z5 pm_Z5 cd_Z5 ct_Z5 : Value} {o1_Z4 o2_Z4 : Option Addr} {sl_Z4 : Array (Option Value)} {oc_Z4 kV_Z4 dc_Z4 pm_Z4 cd_Z4 ct_Z4 : Value} {o1_Z11 o2_Z11 : Option Addr} {sl_Z11 : Array (Option Value)} {oc_Z11 kV_Z11 dc_Z11 pm_Z11 cd_Z11 ct_Z11 : Value} {o1_Z8 o2_Z8 : Option Addr} {sl_Z8 : Array (Option Value)} {oc_Z8 kV_Z8 dc_Z8 pm_Z8 cd_Z8 ct_Z8 : Value} {o1_Z15 o2_Z15 : Option Addr} {sl_Z15 : Array (Option Value)} {oc_Z15 kV_Z15 dc_Z15 pm_Z15 cd_Z15 ct_Z15 : Value}
  (e_Z1 : W.nsIn K mainGlobals "are_figures" = some (some (.ref x_Z1))) (l_Z1 : K.lookup x_Z1 = some ⟨oc_Z1, o1_Z1, .func (W.fnOf "are_figures" "are_figures" (defArgs s_Z1) (defBody s_Z1) (defScope s_Z1) .none kV_Z1 dc_Z1 pm_Z1 o2_Z1 cd_Z1 ct_Z1), sl_Z1⟩) (c_Z1 : W.codeIn K cd_Z1 "are_figures" = true) (k_Z1 : W.keepIn K (.ref x_Z1) = true)
  (e_Z9 : W.nsIn K mainGlobals "is_number" = some (some (.ref x_Z9))) (l_Z9 : K.lookup x_Z9 = some ⟨oc_Z9, o1_Z9, .func (W.fnOf "is_number" "is_number" (defArgs s_Z9) (defBody s_Z9) (defScope s_Z9) .none kV_Z9 dc_Z9 pm_Z9 o2_Z9 cd_Z9 ct_Z9), sl_Z9⟩) (c_Z9 : W.codeIn K cd_Z9 "is_number" = true) (k_Z9 : W.keepIn K (.ref x_Z9) = true)
  (e_Z13 : W.nsIn K mainGlobals "read_row" = some (some (.ref x_Z13))) (l_Z13 : K.lookup x_Z13 = some ⟨oc_Z13, o1_Z13, .func (W.fnOf "read_row" "read_row" (defArgs s_Z13) (defBody s_Z13) (defScope s_Z13) .none kV_Z13 dc_Z13 pm_Z13 o2_Z13 cd_Z13 ct_Z13), sl_Z13⟩) (c_Z13 : W.codeIn K cd_Z13 "read_row" = true) (k_Z13 : W.keepIn K (.ref x_Z13) = true)
  (e_Z12 : W.nsIn K mainGlobals "_law_stir" = some (some (.ref x_Z12))) (l_Z12 : K.lookup x_Z12 = some ⟨oc_Z12, o1_Z12, .func (W.fnOf "_law_stir" "_law_stir" (defArgs s_Z12) (defBody s_Z12) (defScope s_Z12) .none kV_Z12 dc_Z12 pm_Z12 o2_Z12 cd_Z12 ct_Z12), sl_Z12⟩) (c_Z12 : W.codeIn K cd_Z12 "_law_stir" = true) (k_Z12 : W.keepIn K (.ref x_Z12) = true)
  (e_Z6 : W.nsIn K mainGlobals "_law_cells" = some (some (.ref x_Z6))) (l_Z6 : K.lookup x_Z6 = some ⟨oc_Z6, o1_Z6, .func (W.fnOf "_law_cells" "_law_cells" (defArgs s_Z6) (defBody s_Z6) (defScope s_Z6) .none kV_Z6 dc_Z6 pm_Z6 o2_Z6 cd_Z6 ct_Z6), sl_Z6⟩) (c_Z6 : W.codeIn K cd_Z6 "_law_cells" = true) (k_Z6 : W.keepIn K (.ref x_Z6) = true)
  (e_law_same : W.nsIn K mainGlobals "_law_same" = some (some (.ref x_law_same))) (l_law_same : K.lookup x_law_same = some ⟨oc_law_same, o1_law_same, .func (W.fnOf "_law_same" "_law_same" (defArgs s_law_same) (defBody s_law_same) (defScope s_law_same) .none kV_law_same dc_law_same pm_law_same o2_law_same cd_law_same ct_law_same), sl_law_same⟩) (c_law_same : W.codeIn K cd_law_same "_law_same" = true) (k_law_same : W.keepIn K (.ref x_law_same) = true)
  (e_Z7 : W.nsIn K mainGlobals "_law_flags" = some (some (.ref x_Z7))) (l_Z7 : K.lookup x_Z7 = some ⟨oc_Z7, o1_Z7, .func (W.fnOf "_law_flags" "_law_flags" (defArgs s_Z7) (defBody s_Z7) (defScope s_Z7) .none kV_Z7 dc_Z7 pm_Z7 o2_Z7 cd_Z7 ct_Z7), sl_Z7⟩) (c_Z7 : W.codeIn K cd_Z7 "_law_flags" = true) (k_Z7 : W.keepIn K (.ref x_Z7) = true)
  (e_Z2 : W.nsIn K mainGlobals "_law_numbers" = some (some (.ref x_Z2))) (l_Z2 : K.lookup x_Z2 = some ⟨oc_Z2, o1_Z2, .func (W.fnOf "_law_numbers" "_law_numbers" (defArgs s_Z2) (defBody s_Z2) (defScope s_Z2) .none kV_Z2 dc_Z2 pm_Z2 o2_Z2 cd_Z2 ct_Z2), sl_Z2⟩) (c_Z2 : W.codeIn K cd_Z2 "_law_numbers" = true) (k_Z2 : W.keepIn K (.ref x_Z2) = true)
  (e_Z10 : W.nsIn K mainGlobals "_law_text" = some (some (.ref x_Z10))) (l_Z10 : K.lookup x_Z10 = some ⟨oc_Z10, o1_Z10, .func (W.fnOf "_law_text" "_law_text" (defArgs s_Z10) (defBody s_Z10) (defScope s_Z10) .none kV_Z10 dc_Z10 pm_Z10 o2_Z10 cd_Z10 ct_Z10), sl_Z10⟩) (c_Z10 : W.codeIn K cd_Z10 "_law_text" = true) (k_Z10 : W.keepIn K (.ref x_Z10) = true)
  (e_Z14 : W.nsIn K mainGlobals "_law_sign" = some (some (.ref x_Z14))) (l_Z14 : K.lookup x_Z14 = some ⟨oc_Z14, o1_Z14, .func (W.fnOf "_law_sign" "_law_sign" (defArgs s_Z14) (defBody s_Z14) (defScope s_Z14) .none kV_Z14 dc_Z14 pm_Z14 o2_Z14 cd_Z14 ct_Z14), sl_Z14⟩) (c_Z14 : W.codeIn K cd_Z14 "_law_sign" = true) (k_Z14 : W.keepIn K (.ref x_Z14) = true)
  (e_Z5 : W.nsIn K mainGlobals "_law_spoilt" = some (some (.ref x_Z5))) (l_Z5 : K.lookup x_Z5 = some ⟨oc_Z5, o1_Z5, .func (W.fnOf "_law_spoilt" "_law_spoilt" (defArgs s_Z5) (defBody s_Z5) (defScope s_Z5) .none kV_Z5 dc_Z5 pm_Z5 o2_Z5 cd_Z5 ct_Z5), sl_Z5⟩) (c_Z5 : W.codeIn K cd_Z5 "_law_spoilt" = true) (k_Z5 : W.keepIn K (.ref x_Z5) = true)
  (e_Z4 : W.nsIn K mainGlobals "_law_number" = some (some (.ref x_Z4))) (l_Z4 : K.lookup x_Z4 = some ⟨oc_Z4, o1_Z4, .func (W.fnOf "_law_number" "_law_number" (defArgs s_Z4) (defBody s_Z4) (defScope s_Z4) .none kV_Z4 dc_Z4 pm_Z4 o2_Z4 cd_Z4 ct_Z4), sl_Z4⟩) (c_Z4 : W.codeIn K cd_Z4 "_law_number" = true) (k_Z4 : W.keepIn K (.ref x_Z4) = true)
  (e_Z11 : W.nsIn K mainGlobals "_law_told" = some (some (.ref x_Z11))) (l_Z11 : K.lookup x_Z11 = some ⟨oc_Z11, o1_Z11, .func (W.fnOf "_law_told" "_law_told" (defArgs s_Z11) (defBody s_Z11) (defScope s_Z11) .none kV_Z11 dc_Z11 pm_Z11 o2_Z11 cd_Z11 ct_Z11), sl_Z11⟩) (c_Z11 : W.codeIn K cd_Z11 "_law_told" = true) (k_Z11 : W.keepIn K (.ref x_Z11) = true)
  (e_Z8 : W.nsIn K mainGlobals "_law_right" = some (some (.ref x_Z8))) (l_Z8 : K.lookup x_Z8 = some ⟨oc_Z8, o1_Z8, .func (W.fnOf "_law_right" "_law_right" (defArgs s_Z8) (defBody s_Z8) (defScope s_Z8) .none kV_Z8 dc_Z8 pm_Z8 o2_Z8 cd_Z8 ct_Z8), sl_Z8⟩) (c_Z8 : W.codeIn K cd_Z8 "_law_right" = true) (k_Z8 : W.keepIn K (.ref x_Z8) = true)
  (e_Z15 : W.nsIn K mainGlobals "law" = some (some (.ref x_Z15))) (l_Z15 : K.lookup x_Z15 = some ⟨oc_Z15, o1_Z15, .func (W.fnOf "law" "law" (defArgs s_Z15) (defBody s_Z15) (defScope s_Z15) .none kV_Z15 dc_Z15 pm_Z15 o2_Z15 cd_Z15 ct_Z15), sl_Z15⟩) (c_Z15 : W.codeIn K cd_Z15 "law" = true) (k_Z15 : W.keepIn K (.ref x_Z15) = true)
  {t_MOST_FIGURES : Tok} (f_MOST_FIGURES : W.nsIn K mainGlobals "MOST_FIGURES" = some (some (.int (30) t_MOST_FIGURES)))
  {t_NO_NUMBERS : Tok} (f_NO_NUMBERS : W.nsIn K mainGlobals "NO_NUMBERS" = some (some (.str "none" t_NO_NUMBERS))) {y_NoForm : Addr} {y_NoNumber : Addr} {y_NoPlace : Addr} {y_NoStep : Addr} {y_NoText : Addr} {y_NoWeights : Addr} {y_NoneYet : Addr} {y_WaveError : Addr}
  (e_NoForm : W.nsIn K mainGlobals "NoForm" = some (some (.ref y_NoForm)))
  (e_NoNumber : W.nsIn K mainGlobals "NoNumber" = some (some (.ref y_NoNumber)))
  (e_NoPlace : W.nsIn K mainGlobals "NoPlace" = some (some (.ref y_NoPlace)))
  (e_NoStep : W.nsIn K mainGlobals "NoStep" = some (some (.ref y_NoStep)))
  (e_NoText : W.nsIn K mainGlobals "NoText" = some (some (.ref y_NoText)))
  (e_NoWeights : W.nsIn K mainGlobals "NoWeights" = some (some (.ref y_NoWeights)))
  (e_NoneYet : W.nsIn K mainGlobals "NoneYet" = some (some (.ref y_NoneYet)))
  (e_WaveError : W.nsIn K mainGlobals "WaveError" = some (some (.ref y_WaveError)))
  (n_NoText : xName K y_NoText = some "NoText")
  (q_NoText : W.excIn K y_NoText bmV "ValueError.__new__" = true)
  (w_NoText : xclsB K y_NoText = true)
  (m_NoText_WaveError : W.exmOne K (.ref y_NoText) (.ref y_WaveError) = some true)
  (i_NoText_NoForm : W.kitOne K (.ref y_NoText) (.ref y_NoForm) = some false)
  (i_NoText_NoNumber : W.kitOne K (.ref y_NoText) (.ref y_NoNumber) = some false)
  (i_NoText_NoPlace : W.kitOne K (.ref y_NoText) (.ref y_NoPlace) = some false)
  (i_NoText_NoStep : W.kitOne K (.ref y_NoText) (.ref y_NoStep) = some false)
  (i_NoText_NoText : W.kitOne K (.ref y_NoText) (.ref y_NoText) = some true)
  (i_NoText_NoWeights : W.kitOne K (.ref y_NoText) (.ref y_NoWeights) = some false)
  (i_NoText_NoneYet : W.kitOne K (.ref y_NoText) (.ref y_NoneYet) = some false)
  (j_NoText_ValueError : W.kitOne K (.ref y_NoText) (.type "ValueError") = some true)
  (y_ValueError : W.nsIn K mainGlobals "ValueError" = some none)
  (y_bool : W.nsIn K mainGlobals "bool" = some none)
  (y_int : W.nsIn K mainGlobals "int" = some none)
  (y_isinstance : W.nsIn K mainGlobals "isinstance" = some none)
  (y_len : W.nsIn K mainGlobals "len" = some none)
  (y_list : W.nsIn K mainGlobals "list" = some none)
  (y_max : W.nsIn K mainGlobals "max" = some none)
  (y_min : W.nsIn K mainGlobals "min" = some none)
  (y_range : W.nsIn K mainGlobals "range" = some none)
  (y_str : W.nsIn K mainGlobals "str" = some none)
  (y_tuple : W.nsIn K mainGlobals "tuple" = some none)
  (y_zip : W.nsIn K mainGlobals "zip" = some none) :
  ∃ fd : FuncData, (∀ (s : Shared) (v : Value), BindsTo s fd ⟨[v], []⟩ [("script", v)]) /\ ∀ base : Heap, K.In base -> base.Ns mainGlobals mg -> FnOk l.prog w K mg base CX0 6 fa fd ["script"] (spR K 1 m_Z15) := by
 have e := hfa.symm.trans (W.mg_of X G e_Z15)
 cases e
 have F_Z1 := fun_mk (st := s_Z1) l_Z1 c_Z1 k_Z1
 have b_Z1 := F_Z1.binds (ps := ["word", "most"]) fun _ _ _ _ _ _ us hl => by refine us2 (P := fun vs => bindArgs _ { pos := vs } = pure (List.zip _ vs)) ?_ us hl; intros; rfl
 have a_Z1 := W.mg_of X G e_Z1
 have F_Z9 := fun_mk (st := s_Z9) l_Z9 c_Z9 k_Z9
 have b_Z9 := F_Z9.binds (ps := ["word"]) fun _ _ _ _ _ _ us hl => by refine us1 (P := fun vs => bindArgs _ { pos := vs } = pure (List.zip _ vs)) ?_ us hl; intros; rfl
 have a_Z9 := W.mg_of X G e_Z9
 have F_Z13 := fun_mk (st := s_Z13) l_Z13 c_Z13 k_Z13
 have b_Z13 := F_Z13.binds (ps := ["text"]) fun _ _ _ _ _ _ us hl => by refine us1 (P := fun vs => bindArgs _ { pos := vs } = pure (List.zip _ vs)) ?_ us hl; intros; rfl
 have a_Z13 := W.mg_of X G e_Z13
 have F_Z12 := fun_mk (st := s_Z12) l_Z12 c_Z12 k_Z12
 have b_Z12 := F_Z12.binds (ps := ["cell", "k"]) fun _ _ _ _ _ _ us hl => by refine us2 (P := fun vs => bindArgs _ { pos := vs } = pure (List.zip _ vs)) ?_ us hl; intros; rfl
 have a_Z12 := W.mg_of X G e_Z12
 have F_Z6 := fun_mk (st := s_Z6) l_Z6 c_Z6 k_Z6
 have b_Z6 := F_Z6.binds (ps := ["script", "many"]) fun _ _ _ _ _ _ us hl => by refine us2 (P := fun vs => bindArgs _ { pos := vs } = pure (List.zip _ vs)) ?_ us hl; intros; rfl
 have a_Z6 := W.mg_of X G e_Z6
 have F_law_same := fun_mk (st := s_law_same) l_law_same c_law_same k_law_same
 have b_law_same := F_law_same.binds (ps := ["found", "due"]) fun _ _ _ _ _ _ us hl => by refine us2 (P := fun vs => bindArgs _ { pos := vs } = pure (List.zip _ vs)) ?_ us hl; intros; rfl
 have a_law_same := W.mg_of X G e_law_same
 have F_Z7 := fun_mk (st := s_Z7) l_Z7 c_Z7 k_Z7
 have b_Z7 := F_Z7.binds (ps := ["e"]) fun _ _ _ _ _ _ us hl => by refine us1 (P := fun vs => bindArgs _ { pos := vs } = pure (List.zip _ vs)) ?_ us hl; intros; rfl
 have a_Z7 := W.mg_of X G e_Z7
 have F_Z2 := fun_mk (st := s_Z2) l_Z2 c_Z2 k_Z2
 have b_Z2 := F_Z2.binds (ps := ["cell", "most"]) fun _ _ _ _ _ _ us hl => by refine us2 (P := fun vs => bindArgs _ { pos := vs } = pure (List.zip _ vs)) ?_ us hl; intros; rfl
 have a_Z2 := W.mg_of X G e_Z2
 have F_Z10 := fun_mk (st := s_Z10) l_Z10 c_Z10 k_Z10
 have b_Z10 := F_Z10.binds (ps := ["row"]) fun _ _ _ _ _ _ us hl => by refine us1 (P := fun vs => bindArgs _ { pos := vs } = pure (List.zip _ vs)) ?_ us hl; intros; rfl
 have a_Z10 := W.mg_of X G e_Z10
 have F_Z14 := fun_mk (st := s_Z14) l_Z14 c_Z14 k_Z14
 have b_Z14 := F_Z14.binds (ps := ["cell", "k"]) fun _ _ _ _ _ _ us hl => by refine us2 (P := fun vs => bindArgs _ { pos := vs } = pure (List.zip _ vs)) ?_ us hl; intros; rfl
 have a_Z14 := W.mg_of X G e_Z14
 have F_Z5 := fun_mk (st := s_Z5) l_Z5 c_Z5 k_Z5
 have b_Z5 := F_Z5.binds (ps := ["cell", "k", "text"]) fun _ _ _ _ _ _ us hl => by refine us3 (P := fun vs => bindArgs _ { pos := vs } = pure (List.zip _ vs)) ?_ us hl; intros; rfl
 have a_Z5 := W.mg_of X G e_Z5
 have F_Z4 := fun_mk (st := s_Z4) l_Z4 c_Z4 k_Z4
 have b_Z4 := F_Z4.binds (ps := ["word"]) fun _ _ _ _ _ _ us hl => by refine us1 (P := fun vs => bindArgs _ { pos := vs } = pure (List.zip _ vs)) ?_ us hl; intros; rfl
 have a_Z4 := W.mg_of X G e_Z4
 have F_Z11 := fun_mk (st := s_Z11) l_Z11 c_Z11 k_Z11
 have b_Z11 := F_Z11.binds (ps := ["text"]) fun _ _ _ _ _ _ us hl => by refine us1 (P := fun vs => bindArgs _ { pos := vs } = pure (List.zip _ vs)) ?_ us hl; intros; rfl
 have a_Z11 := W.mg_of X G e_Z11
 have F_Z8 := fun_mk (st := s_Z8) l_Z8 c_Z8 k_Z8
 have b_Z8 := F_Z8.binds (ps := ["text"]) fun _ _ _ _ _ _ us hl => by refine us1 (P := fun vs => bindArgs _ { pos := vs } = pure (List.zip _ vs)) ?_ us hl; intros; rfl
 have a_Z8 := W.mg_of X G e_Z8
 have F_Z15 := fun_mk (st := s_Z15) l_Z15 c_Z15 k_Z15
 have b_Z15 := F_Z15.binds (ps := ["script"]) fun _ _ _ _ _ _ us hl => by refine us1 (P := fun vs => bindArgs _ { pos := vs } = pure (List.zip _ vs)) ?_ us hl; intros; rfl
 have a_Z15 := W.mg_of X G e_Z15
 have c_MOST_FIGURES := W.mg_of X G f_MOST_FIGURES
 have c_NO_NUMBERS := W.mg_of X G f_NO_NUMBERS
 have z_ValueError := W.mg_none_of X G y_ValueError
 have z_bool := W.mg_none_of X G y_bool
 have z_int := W.mg_none_of X G y_int
 have z_isinstance := W.mg_none_of X G y_isinstance
 have z_len := W.mg_none_of X G y_len
 have z_list := W.mg_none_of X G y_list
 have z_max := W.mg_none_of X G y_max
 have z_min := W.mg_none_of X G y_min
 have z_range := W.mg_none_of X G y_range
 have z_str := W.mg_none_of X G y_str
 have z_tuple := W.mg_none_of X G y_tuple
 have z_zip := W.mg_none_of X G y_zip
 have a_NoForm := W.mg_of X G e_NoForm
 have a_NoNumber := W.mg_of X G e_NoNumber
 have a_NoPlace := W.mg_of X G e_NoPlace
 have a_NoStep := W.mg_of X G e_NoStep
 have a_NoText := W.mg_of X G e_NoText
 have a_NoWeights := W.mg_of X G e_NoWeights
 have a_NoneYet := W.mg_of X G e_NoneYet
 have a_WaveError := W.mg_of X G e_WaveError
 have xc_NoText : XC K "NoText" y_NoText := ⟨e_NoText, n_NoText⟩
 have hcl_WaveError : ∀ c ∈ (["NoText"] : List Str), ∀ C, XC K c C -> W.exmOne K (.ref C) (.ref y_WaveError) = some true := by
  intro c hc C h
  simp only [mem_cons, not_mem_nil, or_false] at hc
  rcases hc with rfl
  ·rw [h.eq e_NoText]; exact m_NoText_WaveError
 have hi_NoForm : ∀ c k, ([("NoText", false)] : List (Str × Bool)).lookup c = some k -> ∀ C, XC K c C -> XCls K C /\ W.kitOne K (.ref C) (.ref y_NoForm) = some k := lookup_all (P := fun c k => ∀ C, XC K c C -> XCls K C /\ W.kitOne K (.ref C) (.ref y_NoForm) = some k) (by
  intro p hp
  simp only [mem_cons, not_mem_nil, or_false] at hp
  rcases hp with rfl
  ·intro C h; rw [h.eq e_NoText]; exact ⟨xcls_of w_NoText, i_NoText_NoForm⟩
  )
 have hi_NoNumber : ∀ c k, ([("NoText", false)] : List (Str × Bool)).lookup c = some k -> ∀ C, XC K c C -> XCls K C /\ W.kitOne K (.ref C) (.ref y_NoNumber) = some k := lookup_all (P := fun c k => ∀ C, XC K c C -> XCls K C /\ W.kitOne K (.ref C) (.ref y_NoNumber) = some k) (by
  intro p hp
  simp only [mem_cons, not_mem_nil, or_false] at hp
  rcases hp with rfl
  ·intro C h; rw [h.eq e_NoText]; exact ⟨xcls_of w_NoText, i_NoText_NoNumber⟩
  )
 have hi_NoPlace : ∀ c k, ([("NoText", false)] : List (Str × Bool)).lookup c = some k -> ∀ C, XC K c C -> XCls K C /\ W.kitOne K (.ref C) (.ref y_NoPlace) = some k := lookup_all (P := fun c k => ∀ C, XC K c C -> XCls K C /\ W.kitOne K (.ref C) (.ref y_NoPlace) = some k) (by
  intro p hp
  simp only [mem_cons, not_mem_nil, or_false] at hp
  rcases hp with rfl
  ·intro C h; rw [h.eq e_NoText]; exact ⟨xcls_of w_NoText, i_NoText_NoPlace⟩
  )
 have hi_NoStep : ∀ c k, ([("NoText", false)] : List (Str × Bool)).lookup c = some k -> ∀ C, XC K c C -> XCls K C /\ W.kitOne K (.ref C) (.ref y_NoStep) = some k := lookup_all (P := fun c k => ∀ C, XC K c C -> XCls K C /\ W.kitOne K (.ref C) (.ref y_NoStep) = some k) (by
  intro p hp
  simp only [mem_cons, not_mem_nil, or_false] at hp
  rcases hp with rfl
  ·intro C h; rw [h.eq e_NoText]; exact ⟨xcls_of w_NoText, i_NoText_NoStep⟩
  )
 have hi_NoText : ∀ c k, ([("NoText", true)] : List (Str × Bool)).lookup c = some k -> ∀ C, XC K c C -> XCls K C /\ W.kitOne K (.ref C) (.ref y_NoText) = some k := lookup_all (P := fun c k => ∀ C, XC K c C -> XCls K C /\ W.kitOne K (.ref C) (.ref y_NoText) = some k) (by
  intro p hp
  simp only [mem_cons, not_mem_nil, or_false] at hp
  rcases hp with rfl
  ·intro C h; rw [h.eq e_NoText]; exact ⟨xcls_of w_NoText, i_NoText_NoText⟩
  )
 have hi_NoWeights : ∀ c k, ([("NoText", false)] : List (Str × Bool)).lookup c = some k -> ∀ C, XC K c C -> XCls K C /\ W.kitOne K (.ref C) (.ref y_NoWeights) = some k := lookup_all (P := fun c k => ∀ C, XC K c C -> XCls K C /\ W.kitOne K (.ref C) (.ref y_NoWeights) = some k) (by
  intro p hp
  simp only [mem_cons, not_mem_nil, or_false] at hp
  rcases hp with rfl
  ·intro C h; rw [h.eq e_NoText]; exact ⟨xcls_of w_NoText, i_NoText_NoWeights⟩
  )
 have hi_NoneYet : ∀ c k, ([("NoText", false)] : List (Str × Bool)).lookup c = some k -> ∀ C, XC K c C -> XCls K C /\ W.kitOne K (.ref C) (.ref y_NoneYet) = some k := lookup_all (P := fun c k => ∀ C, XC K c C -> XCls K C /\ W.kitOne K (.ref C) (.ref y_NoneYet) = some k) (by
  intro p hp
  simp only [mem_cons, not_mem_nil, or_false] at hp
  rcases hp with rfl
  ·intro C h; rw [h.eq e_NoText]; exact ⟨xcls_of w_NoText, i_NoText_NoneYet⟩
  )
 have hb_ValueError : ∀ c k, ([("NoText", true)] : List (Str × Bool)).lookup c = some k -> ∀ C, XC K c C -> XCls K C /\ W.kitOne K (.ref C) (.type "ValueError") = some k := lookup_all (P := fun c k => ∀ C, XC K c C -> XCls K C /\ W.kitOne K (.ref C) (.type "ValueError") = some k) (by
  intro p hp
  simp only [mem_cons, not_mem_nil, or_false] at hp
  rcases hp with rfl
  ·intro C h; rw [h.eq e_NoText]; exact ⟨xcls_of w_NoText, j_NoText_ValueError⟩
  )
 refine ⟨W.fnOf "law" "law" (defArgs s_Z15) (defBody s_Z15) (defScope s_Z15) .none kV_Z15 dc_Z15 pm_Z15 o2_Z15 cd_Z15 ct_Z15, fun s v => .of_eq rfl, fun base _ _ => ?_⟩
 have G_Z1 := ok_Z1 (P := l.prog) (w := w) (mg := mg) (base := base) F_Z1          z_len
 have G_Z9 := ok_Z9 (P := l.prog) (w := w) (mg := mg) (base := base) F_Z9  G_Z1 b_Z1 k_Z1 a_Z1      c_MOST_FIGURES
 have G_Z13 := ok_Z13 (P := l.prog) (w := w) (mg := mg) (base := base) F_Z13  G_Z9 b_Z9 k_Z9 a_Z9    a_NoText xc_NoText q_NoText  c_NO_NUMBERS  z_int
 have GX_Z13 := okx_Z13 (P := l.prog) (w := w) (mg := mg) (base := base) F_Z13  G_Z9 b_Z9 k_Z9 a_Z9    a_NoText xc_NoText q_NoText  c_NO_NUMBERS  z_int
 have G_Z12 := ok_Z12 (P := l.prog) (w := w) (mg := mg) (base := base) F_Z12
 have G_Z6 := ok_Z6 (P := l.prog) (w := w) (mg := mg) (base := base) F_Z6          z_len z_max z_min
 have G_Z0 := ok_Z0 (P := l.prog) (w := w) (mg := mg) (base := base) F_law_same          z_bool z_int z_isinstance z_len z_list z_str z_tuple
 have G_Z3 := ok_Z3 (P := l.prog) (w := w) (mg := mg) (base := base) F_law_same  G_Z0 b_law_same k_law_same a_law_same        z_bool z_int z_isinstance z_len z_list z_str z_tuple z_zip
 have G_Z7 := ok_Z7 (P := l.prog) (w := w) (mg := mg) (base := base) F_Z7      a_NoForm a_NoNumber a_NoPlace a_NoStep a_NoText a_NoWeights a_NoneYet hi_NoForm hi_NoNumber hi_NoPlace hi_NoStep hi_NoText hi_NoWeights hi_NoneYet hb_ValueError    z_ValueError z_isinstance
 have G_Z2 := ok_Z2 (P := l.prog) (w := w) (mg := mg) (base := base) F_Z2  G_Z12 b_Z12 k_Z12 a_Z12        z_range
 have G_Z10 := ok_Z10 (P := l.prog) (w := w) (mg := mg) (base := base) F_Z10          z_int z_str
 have G_Z14 := ok_Z14 (P := l.prog) (w := w) (mg := mg) (base := base) F_Z14  G_Z12 b_Z12 k_Z12 a_Z12        z_len
 have G_Z5 := ok_Z5 (P := l.prog) (w := w) (mg := mg) (base := base) F_Z5  G_Z14 b_Z14 k_Z14 a_Z14 G_Z12 b_Z12 k_Z12 a_Z12        z_len
 have G_Z4 := ok_Z4 (P := l.prog) (w := w) (mg := mg) (base := base) F_Z4          z_int z_len
 have G_Z11 := ok_Z11 (P := l.prog) (w := w) (mg := mg) (base := base) F_Z11  G_Z7 b_Z7 k_Z7 a_Z7 G_Z13 b_Z13 k_Z13 a_Z13   GX_Z13 a_WaveError hcl_WaveError    z_int z_range
 have G_Z8 := ok_Z8 (P := l.prog) (w := w) (mg := mg) (base := base) F_Z8  G_Z4 b_Z4 k_Z4 a_Z4 G_Z3 b_law_same k_law_same a_law_same G_Z11 b_Z11 k_Z11 a_Z11
 have G_Z15 := ok_Z15 (P := l.prog) (w := w) (mg := mg) (base := base) F_Z15  G_Z6 b_Z6 k_Z6 a_Z6 G_Z2 b_Z2 k_Z2 a_Z2 G_Z8 b_Z8 k_Z8 a_Z8 G_Z5 b_Z5 k_Z5 a_Z5 G_Z10 b_Z10 k_Z10 a_Z10        z_range
 exact G_Z15
theorem walk {l : W.OpenLaw} {q : Program} {loose : List Str} {XP : (Str -> Option Value) -> Heap -> Prop} {YP : World -> Heap -> Prop} {d : DefRec} {K : Params -> W.Frag} (hn : l.most = some 63) (hdf : d.params.defaults = [])
  (law : ∀ ns : List Int, ns.length <= 63 -> m_Z15 [.lst (ns.map .int)] = some (.sh (.bl true)))
  (hY : ∀ (w : World) (h : Heap), YP w h -> (K w.params).In h)
  (F : ∀ (w : World) (mg : Str -> Option Value) (fa : Addr) (h : Heap), (K w.params).In h -> h.Ns mainGlobals mg -> mg d.name = some (.ref fa) ->
   ∃ fd : FuncData, (∀ (s : Shared) (u : Value), BindsTo s fd ⟨[u], []⟩ [("script", u)]) /\ ∀ base : Heap, (K w.params).In base -> base.Ns mainGlobals mg -> FnOk l.prog w (K w.params) mg base CX0 6 fa fd ["script"] (spR (K w.params) 1 m_Z15)) :
  W.WalkO q loose XP YP l.row.toRowW d [] (fun f vs => PySem.call f vs) :=
 L2.walk_of (n := 63) (k := 6) (x := "script") (CX := fun _ => CX0) (sp := fun w => spR (K w.params) 1 m_Z15) hn (by decide) hdf ⟨rfl, by decide, by decide⟩ hY F (fun w H a ns hl _ hS => sp_Z15 law H a ns hl hS _) fun _ _ _ _ _ z => z
end
end Lw
open PySem PySem.W PyProof.Rows
set_option maxRecDepth 100000 in
set_option maxHeartbeats 0 in
theorem PySem.Challenge.cw_wavyrow_k38_texts_of_no_row_holds : PySem.Challenge.rw_wavyrow_k38_texts_of_no_row.Holds := by
 w_on; o_law; k_head; (case hw => w_witness2)
 k_fill
 refine Lw.walk (l := PySem.Challenge.rw_wavyrow_k38_texts_of_no_row) rfl rfl Lw.law_true (fun w h Y => PySem.W.kIn_of Y) ?F
 case F =>
  intro w mg fa h KX G hmg
  refine' Lw.all_mk KX G hmg  ?e_Z1 ?l_Z1 ?c_Z1 ?k_Z1 ?e_Z9 ?l_Z9 ?c_Z9 ?k_Z9 ?e_Z13 ?l_Z13 ?c_Z13 ?k_Z13 ?e_Z12 ?l_Z12 ?c_Z12 ?k_Z12 ?e_Z6 ?l_Z6 ?c_Z6 ?k_Z6 ?e_law_same ?l_law_same ?c_law_same ?k_law_same ?e_Z7 ?l_Z7 ?c_Z7 ?k_Z7 ?e_Z2 ?l_Z2 ?c_Z2 ?k_Z2 ?e_Z10 ?l_Z10 ?c_Z10 ?k_Z10 ?e_Z14 ?l_Z14 ?c_Z14 ?k_Z14 ?e_Z5 ?l_Z5 ?c_Z5 ?k_Z5 ?e_Z4 ?l_Z4 ?c_Z4 ?k_Z4 ?e_Z11 ?l_Z11 ?c_Z11 ?k_Z11 ?e_Z8 ?l_Z8 ?c_Z8 ?k_Z8 ?e_Z15 ?l_Z15 ?c_Z15 ?k_Z15  ?f_MOST_FIGURES ?f_NO_NUMBERS  ?e_NoForm ?e_NoNumber ?e_NoPlace ?e_NoStep ?e_NoText ?e_NoWeights ?e_NoneYet ?e_WaveError ?n_NoText ?q_NoText ?w_NoText ?m_NoText_WaveError ?i_NoText_NoForm ?i_NoText_NoNumber ?i_NoText_NoPlace ?i_NoText_NoStep ?i_NoText_NoText ?i_NoText_NoWeights ?i_NoText_NoneYet ?j_NoText_ValueError ?y_ValueError ?y_bool ?y_int ?y_isinstance ?y_len ?y_list ?y_max ?y_min ?y_range ?y_str ?y_tuple ?y_zip
  (case e_Z1 => k_is); (case l_Z1 => k_is); (case c_Z1 => k_is); (case k_Z1 => k_is)
  (case e_Z9 => k_is); (case l_Z9 => k_is); (case c_Z9 => k_is); (case k_Z9 => k_is)
  (case e_Z13 => k_is); (case l_Z13 => k_is); (case c_Z13 => k_is); (case k_Z13 => k_is)
  (case e_Z12 => k_is); (case l_Z12 => k_is); (case c_Z12 => k_is); (case k_Z12 => k_is)
  (case e_Z6 => k_is); (case l_Z6 => k_is); (case c_Z6 => k_is); (case k_Z6 => k_is)
  (case e_law_same => k_is); (case l_law_same => k_is); (case c_law_same => k_is); (case k_law_same => k_is)
  (case e_Z7 => k_is); (case l_Z7 => k_is); (case c_Z7 => k_is); (case k_Z7 => k_is)
  (case e_Z2 => k_is); (case l_Z2 => k_is); (case c_Z2 => k_is); (case k_Z2 => k_is)
  (case e_Z10 => k_is); (case l_Z10 => k_is); (case c_Z10 => k_is); (case k_Z10 => k_is)
  (case e_Z14 => k_is); (case l_Z14 => k_is); (case c_Z14 => k_is); (case k_Z14 => k_is)
  (case e_Z5 => k_is); (case l_Z5 => k_is); (case c_Z5 => k_is); (case k_Z5 => k_is)
  (case e_Z4 => k_is); (case l_Z4 => k_is); (case c_Z4 => k_is); (case k_Z4 => k_is)
  (case e_Z11 => k_is); (case l_Z11 => k_is); (case c_Z11 => k_is); (case k_Z11 => k_is)
  (case e_Z8 => k_is); (case l_Z8 => k_is); (case c_Z8 => k_is); (case k_Z8 => k_is)
  (case e_Z15 => k_is); (case l_Z15 => k_is); (case c_Z15 => k_is); (case k_Z15 => k_is)
  (case f_MOST_FIGURES => k_is)
  (case f_NO_NUMBERS => k_is)
  (case e_NoForm => first | k_is | rfl | k_exc | (unfold L2.bmV; k_exc))
  (case e_NoNumber => first | k_is | rfl | k_exc | (unfold L2.bmV; k_exc))
  (case e_NoPlace => first | k_is | rfl | k_exc | (unfold L2.bmV; k_exc))
  (case e_NoStep => first | k_is | rfl | k_exc | (unfold L2.bmV; k_exc))
  (case e_NoText => first | k_is | rfl | k_exc | (unfold L2.bmV; k_exc))
  (case e_NoWeights => first | k_is | rfl | k_exc | (unfold L2.bmV; k_exc))
  (case e_NoneYet => first | k_is | rfl | k_exc | (unfold L2.bmV; k_exc))
  (case e_WaveError => first | k_is | rfl | k_exc | (unfold L2.bmV; k_exc))
  (case n_NoText => first | k_is | rfl | k_exc | (unfold L2.bmV; k_exc))
  (case q_NoText => first | k_is | rfl | k_exc | (unfold L2.bmV; k_exc))
  (case w_NoText => first | k_is | rfl | k_exc | (unfold L2.bmV; k_exc))
  (case m_NoText_WaveError => first | k_is | rfl | k_exc | (unfold L2.bmV; k_exc))
  (case i_NoText_NoForm => first | k_is | rfl | k_exc | (unfold L2.bmV; k_exc))
  (case i_NoText_NoNumber => first | k_is | rfl | k_exc | (unfold L2.bmV; k_exc))
  (case i_NoText_NoPlace => first | k_is | rfl | k_exc | (unfold L2.bmV; k_exc))
  (case i_NoText_NoStep => first | k_is | rfl | k_exc | (unfold L2.bmV; k_exc))
  (case i_NoText_NoText => first | k_is | rfl | k_exc | (unfold L2.bmV; k_exc))
  (case i_NoText_NoWeights => first | k_is | rfl | k_exc | (unfold L2.bmV; k_exc))
  (case i_NoText_NoneYet => first | k_is | rfl | k_exc | (unfold L2.bmV; k_exc))
  (case j_NoText_ValueError => first | k_is | rfl | k_exc | (unfold L2.bmV; k_exc))
  (case y_ValueError => k_is)
  (case y_bool => k_is)
  (case y_int => k_is)
  (case y_isinstance => k_is)
  (case y_len => k_is)
  (case y_list => k_is)
  (case y_max => k_is)
  (case y_min => k_is)
  (case y_range => k_is)
  (case y_str => k_is)
  (case y_tuple => k_is)
  (case y_zip => k_is)
