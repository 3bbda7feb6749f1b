import PyProof.Rows.All
import Wide.All
import OpenK.AllK
import Wide.FinOn
import Lean
import PyProof.EqAt
import PyProof.EqKinds
import PyProof.TupleCall
import PyProof.NeKinds
import KE.IntBitsLaws
import PyProof.FitsBits
import PySem.Challenge.RW_wavyrow_k28_fewest_turns
set_option Elab.async false
set_option linter.all false
set_option maxRecDepth 100000
namespace L2
open List
open PySem PySem.Spec PyProof.Rows
section
noncomputable abbrev Key := Sum Int Str
noncomputable def keyIs : Key -> Value -> Bool
 | .inl k, v => Value.isInt k v
 | .inr x, v => Value.isStrOf x v
noncomputable def keyH (w : World) : Key -> Int
 | .inl k => hashInt k
 | .inr x => hashStr w x
theorem keyIs_shape : ∀ {k : Key} {v : Value}, keyIs k v = true -> (∃ i t, k = Sum.inl i /\ v = Value.int i t) \/ (∃ x t, k = Sum.inr x /\ v = Value.str x t)
 | .inl i, v, h => by
  obtain ⟨t, e⟩ := Value.isInt_shape (k := i) (v := v) h
  exact .inl ⟨i, t, rfl, e⟩
 | .inr x, v, h => by
  obtain ⟨t, e⟩ := Value.isStrOf_shape (x := x) (v := v) h
  exact .inr ⟨x, t, rfl, e⟩
theorem key_ll (a b : Int) : decide ((Sum.inl a : Key) = Sum.inl b) = (a == b) := by
 by_cases e : a = b
 ·subst e; simp
 ·have h : ¬ (Sum.inl a : Key) = Sum.inl b := fun q => e (Sum.inl.inj q)
  rw [decide_eq_false h]
  exact (beq_eq_false_iff_ne.mpr e).symm
theorem key_rr (a b : Str) : decide ((Sum.inr a : Key) = Sum.inr b) = decide (a = b) := by
 by_cases e : a = b
 ·subst e; simp
 ·have h : ¬ (Sum.inr a : Key) = Sum.inr b := fun q => e (Sum.inr.inj q)
  rw [decide_eq_false h, decide_eq_false e]
theorem key_lr (a : Int) (b : Str) : decide ((Sum.inl a : Key) = Sum.inr b) = false := decide_eq_false (fun q => nomatch q)
theorem key_rl (a : Str) (b : Int) : decide ((Sum.inr a : Key) = Sum.inl b) = false := decide_eq_false (fun q => nomatch q)
noncomputable def mixKind (prog : Program) (w : World) : PySem.KeyKind prog w Key where
 is := keyIs
 hash := keyH w
 inj := fun v a b ha hb => by
  rcases keyIs_shape ha with ⟨i, t, rfl, rfl⟩ | ⟨x, t, rfl, rfl⟩
  ·rcases keyIs_shape hb with ⟨j, u, rfl, e⟩ | ⟨y, u, rfl, e⟩
   ·injection e with e1 _; rw [e1]
   ·exact nomatch e
  ·rcases keyIs_shape hb with ⟨j, u, rfl, e⟩ | ⟨y, u, rfl, e⟩
   ·exact nomatch e
   ·injection e with e1 _; rw [e1]
 byValue := fun k v h => by
  rcases keyIs_shape h with ⟨i, t, rfl, rfl⟩ | ⟨x, t, rfl, rfl⟩ <;> rfl
 pyHash := fun hv h => by
  rcases keyIs_shape hv with ⟨i, t, rfl, rfl⟩ | ⟨x, t, rfl, rfl⟩
  ·exact wpAny_pyHash_int h
  ·exact wpAny_pyHash_str h
 eqBool := fun hu hv h => by
  rcases keyIs_shape hu with ⟨i, t, rfl, rfl⟩ | ⟨x, t, rfl, rfl⟩
  ·rcases keyIs_shape hv with ⟨j, u, rfl, rfl⟩ | ⟨y, u, rfl, rfl⟩
   ·rw [key_ll] at h; exact wpAny_eqBool_int h
   ·rw [key_lr] at h; exact SeqAt.EqAt.int_str i t y u _ _ _ _ h
  ·rcases keyIs_shape hv with ⟨j, u, rfl, rfl⟩ | ⟨y, u, rfl, rfl⟩
   ·rw [key_rl] at h; exact SeqAt.EqAt.str_int x t j u _ _ _ _ h
   ·rw [key_rr] at h; exact wpAny_eqBool_str h
 «strs» := fun k x t v h => by
  rcases keyIs_shape h with ⟨i, u, rfl, e⟩ | ⟨y, u, rfl, e⟩
  ·exact nomatch e
  ·injection e with e1 _
   subst e1
   cases v <;> rfl
end
section
inductive V where
 | non | bl (b : Bool) | int (i : Int) | str (x : Str) | byt (b : Array UInt8) | flt (b : UInt64) | ref (a : Addr) | ty (n : String)
 deriving DecidableEq
noncomputable def RelV : V -> Value -> Prop
 | .non, u => u = Value.none
 | .bl b, u => u = Value.bool b
 | .int i, u => ∃ t, u = Value.int i t
 | .str x, u => ∃ t, u = Value.str x t
 | .byt b, u => ∃ t, u = Value.bytes b t
 | .flt b, u => ∃ t, u = Value.float b t
 | .ref a, u => u = Value.ref a
 | .ty n, u => u = Value.type n
abbrev Vals : List V -> List Value -> Prop := Paired RelV
theorem Vals.length {xs : List V} {us : List Value} (r : Vals xs us) : xs.length = us.length := Paired.length r
theorem Vals.get : ∀ {xs : List V} {us : List Value} {i : Nat} {x : V}, Vals xs us -> xs[i]? = some x -> ∃ u, us[i]? = some u /\ RelV x u
 | _, _, _, _, .nil, e => by simp at e
 | _, _, 0, _, .cons r _, e => by simp at e; subst e; exact ⟨_, rfl, r⟩
 | _, _, i + 1, x, .cons _ t, e => by
  obtain ⟨u, h1, h2⟩ := Vals.get (i := i) (x := x) t (by simpa using e)
  exact ⟨u, by simpa using h1, h2⟩
theorem Vals.set {x : V} {u : Value} (r : RelV x u) : ∀ {xs : List V} {us : List Value} (i : Nat), Vals xs us -> Vals (xs.set i x) (us.set i u)
 | _, _, _, .nil => .nil
 | _, _, 0, .cons _ t => .cons r t
 | _, _, i + 1, .cons q t => .cons q (Vals.set r i t)
theorem Vals.append : ∀ {xs ys : List V} {us ws : List Value}, Vals xs us -> Vals ys ws -> Vals (xs ++ ys) (us ++ ws)
 | _, _, _, _, .nil, s => s
 | _, _, _, _, .cons r t, s => .cons r (Vals.append t s)
theorem Vals.take : ∀ {xs : List V} {us : List Value} (n : Nat), Vals xs us -> Vals (xs.take n) (us.take n)
 | _, _, 0, _ => .nil
 | _, _, _ + 1, .nil => .nil
 | _, _, n + 1, .cons r t => .cons r (Vals.take n t)
theorem Vals.drop : ∀ {xs : List V} {us : List Value} (n : Nat), Vals xs us -> Vals (xs.drop n) (us.drop n)
 | _, _, 0, r => r
 | _, _, _ + 1, .nil => .nil
 | _, _, n + 1, .cons _ t => Vals.drop n t
noncomputable def RelO : Option V -> Option Value -> Prop
 | some v, some u => RelV v u
 | none, none => True
 | _, _ => False
def KV {κ : Type} : List (κ × V) -> List (κ × Value) -> Prop := Paired fun (p : κ × V) (q : κ × Value) => p.1 = q.1 /\ RelV p.2 q.2
noncomputable def kV : Key -> V
 | .inl i => .int i
 | .inr x => .str x
inductive HO where
 | lst (xs : List V)
 | tup (xs : List V)
 | dK (kvs : List (Key × V)) | dT (kvs : List (List Key × V))
 | set (S : Int -> Bool) (n : Nat)
 | ins (C dx : Addr) (fs : List (Str × V))
 | own (x : Addr)
 | xd (fs : List (Str × V))
 | met (f x : Addr)
 | rng (lo hi : Int)
 | frz (o : Obj) (u : HO)
 | tbl (ps : Array Value)
 | ext (φ : Heap -> Prop)
noncomputable abbrev Hp := Addr -> Option HO
noncomputable def upd (H : Hp) (a : Addr) (o : HO) : Hp := fun b => if b = a then some o else H b
theorem upd_same {H : Hp} {a : Addr} {o : HO} : upd H a o a = some o := by unfold upd; rw [if_pos rfl]
theorem upd_ne {H : Hp} {a b : Addr} {o : HO} (h : b ≠ a) : upd H a o b = H b := by unfold upd; rw [if_neg h]
theorem ne_of_none {H : Hp} {a b : Addr} {o : HO} (h : H a = some o) (h' : H b = none) : a ≠ b := by
 intro e; subst e; rw [h] at h'; cases h'
section
variable (P : Program) (w : World)
noncomputable def ObjOk (H : Hp) (h : Heap) (a : Addr) : HO -> Prop
 | .lst xs => xs.length <= sizeLine /\ ∃ (its : List Value) (n : Nat), Vals xs its /\ h.get? a = some { cls := .type "list", data := .seq its.toArray n }
 | .tup xs => xs.length <= sizeLine /\ ∃ its : List Value, Vals xs its /\ IsTup h a its.toArray
 | .dK kvs => kvs.length <= sizeLine /\ (a == sysModules) = false /\ ∃ vs, KV kvs vs /\ h.DictOf (mixKind P w) a vs
 | .dT kvs => kvs.length <= sizeLine /\ (a == sysModules) = false /\ ∃ xs : List (List Key × Addr × Value),
   Paired (fun (p : List Key × V) (q : List Key × Addr × Value) => p.1 = q.1 /\ H q.2.1 = some (.tup (p.1.map kV)) /\ RelV p.2 q.2.2) kvs xs /\
   ∃ o es ep, h.get? a = some o /\ o.ExactDict /\ o.data = .dict es ep /\ es.toList = xs.map (entryOfKey (tupleKind (mixKind P w))) /\ (xs.map (·.1)).Nodup
 | .set S n => h.SetOf (intKind P w) a S n
 | .ins C dx fs => H dx = some (.own a) /\ fs.length <= 1000 /\ dx ≠ a /\ h.get? a = some (W.instObj C dx) /\
   ∃ mA, h.Ns1 dx mA /\ (∀ f, RelO (fs.lookup f) (mA f)) /\ PySem.Within mA (fs.map (·.1))
 | .own _ => ∃ o, h.get? a = some o
 | .xd fs => ∃ mA, h.Ns1 a mA /\ ∀ f, RelO (fs.lookup f) (mA f)
 | .rng lo hi => ∃ t u v, h.get? a = some { cls := .type "range", data := .fields #[.int lo t, .int hi u, .int 1 v] }
 | .frz o u => h.get? a = some o /\ ObjOk H h a u
 | .tbl ps => h.get? a = some { cls := .none, data := .fields ps }
 | .met f x => h.get? a = some (W.methodObj (.ref f) (.ref x))
 | .ext φ => φ h /\ (∃ o, h.get? a = some o) /\ ∀ h1 h2 : Heap, φ h1 -> (∀ o, h1.get? a = some o -> h2.get? a = some o) -> φ h2
def HOk (H : Hp) (h : Heap) : Prop := ∀ a o, H a = some o -> ObjOk P w H h a o
end
section
variable {P : Program} {w : World} {H H' : Hp} {h h' : Heap} {a : Addr} {o : HO}
theorem ObjOk.lt (x : ObjOk P w H h a o) : a < h.objs.size := by
 cases o with
 | lst xs => obtain ⟨_, _, _, _, e⟩ := x; exact Heap.lt_size e
 | tup xs => obtain ⟨_, _, _, p⟩ := x; exact p.lt
 | dK kvs => obtain ⟨_, _, _, _, o, _, _, e, _⟩ := x; exact Heap.lt_size e
 | dT kvs => obtain ⟨_, _, _, _, o, _, _, e, _⟩ := x; exact Heap.lt_size e
 | set S n => obtain ⟨o, _, _, _, e, _⟩ := x; exact Heap.lt_size e
 | ins C dx fs => obtain ⟨_, _, _, e, _⟩ := x; exact Heap.lt_size e
 | own y => obtain ⟨_, e⟩ := x; exact Heap.lt_size e
 | xd fs => obtain ⟨_, ⟨_, _, _, e, _⟩, _⟩ := x; exact Heap.lt_size e
 | rng lo hi => obtain ⟨_, _, _, e⟩ := x; exact Heap.lt_size e
 | frz ob u => obtain ⟨e, _⟩ := x; exact Heap.lt_size e
 | tbl ps => exact Heap.lt_size (show h.get? a = some _ from x)
 | met f y => exact Heap.lt_size (show h.get? a = some _ from x)
 | ext φ => obtain ⟨_, ⟨_, e⟩, _⟩ := x; exact Heap.lt_size e
theorem Paired.mapP {α β : Type} {F G : α -> β -> Prop} : ∀ {l₁ : List α} {l₂ : List β}, Paired F l₁ l₂ -> (∀ a b, F a b -> G a b) -> Paired G l₁ l₂
 | _, _, .nil, _ => .nil
 | _, _, .cons r t, f => .cons (f _ _ r) (Paired.mapP t f)
theorem ObjOk.stay (x : ObjOk P w H h a o) (k : ∀ b u, (b = a \/ H b = some (.own a)) -> h.get? b = some u -> h'.get? b = some u)
  (ho : ∀ b, H b = some (.own a) -> H' b = some (.own a)) (ht : ∀ b xs, H b = some (.tup xs) -> H' b = some (.tup xs)) : ObjOk P w H' h' a o := by
 induction o with
 | lst xs => obtain ⟨z, its, n, r, e⟩ := x; exact ⟨z, its, n, r, k _ _ (.inl rfl) e⟩
 | tup xs => obtain ⟨z, its, r, ob, e, c⟩ := x; exact ⟨z, its, r, ob, k _ _ (.inl rfl) e, c⟩
 | dK kvs => obtain ⟨z, y, vs, r, ob, es, ep, e, c⟩ := x; exact ⟨z, y, vs, r, ob, es, ep, k _ _ (.inl rfl) e, c⟩
 | dT kvs =>
  obtain ⟨z, y, xs, r, ob, es, ep, e, c⟩ := x
  exact ⟨z, y, xs, Paired.mapP r fun p q z => ⟨z.1, ht _ _ z.2.1, z.2.2⟩, ob, es, ep, k _ _ (.inl rfl) e, c⟩
 | set S n => obtain ⟨ob, es, ep, t, e, c⟩ := x; exact ⟨ob, es, ep, t, k _ _ (.inl rfl) e, c⟩
 | ins C dx fs =>
  obtain ⟨d, z, ne, e, mA, ⟨od, es, ep, e2, c⟩, r⟩ := x
  exact ⟨ho _ d, z, ne, k _ _ (.inl rfl) e, mA, ⟨od, es, ep, k _ _ (.inr d) e2, c⟩, r⟩
 | own y => obtain ⟨ob, e⟩ := x; exact ⟨ob, k _ _ (.inl rfl) e⟩
 | xd fs => obtain ⟨mA, ⟨od, es, ep, e, c⟩, r⟩ := x; exact ⟨mA, ⟨od, es, ep, k _ _ (.inl rfl) e, c⟩, r⟩
 | rng lo hi => obtain ⟨t, u, v, e⟩ := x; exact ⟨t, u, v, k _ _ (.inl rfl) e⟩
 | frz ob u ih => obtain ⟨e, q⟩ := x; exact ⟨k _ _ (.inl rfl) e, ih q⟩
 | tbl ps =>
  have e : h.get? a = some { cls := .none, data := .fields ps } := x
  show h'.get? a = some { cls := .none, data := .fields ps }
  exact k a _ (.inl rfl) e
 | met f y =>
  have e : h.get? a = some (W.methodObj (.ref f) (.ref y)) := x
  show h'.get? a = some (W.methodObj (.ref f) (.ref y))
  exact k a _ (.inl rfl) e
 | ext φ => obtain ⟨p, ⟨o, e⟩, st⟩ := x; exact ⟨st _ _ p fun o q => k _ _ (.inl rfl) q, ⟨o, k _ _ (.inl rfl) e⟩, st⟩
theorem HOk.lt (x : HOk P w H h) (e : H a = some o) : a < h.objs.size := (x a o e).lt
theorem HOk.fresh (x : HOk P w H h) (e : h.objs.size <= a) : H a = none := by
 cases q : H a with
 | none => rfl
 | some u => exact absurd (Nat.lt_of_lt_of_le (x.lt q) e) (Nat.lt_irrefl _)
theorem HOk.kept (x : HOk P w H h) (k : ∀ b u, h.get? b = some u -> h'.get? b = some u) : HOk P w H h' := fun a o e =>
 (x a o e).stay (fun b u _ q => k b u q) (fun _ q => q) fun _ _ q => q
theorem HOk.laid (x : HOk P w H h) (k : ∀ b u, h.get? b = some u -> h'.get? b = some u) (hp : h.objs.size <= a) (new : ObjOk P w (upd H a o) h' a o) : HOk P w (upd H a o) h' := fun b u e => by
 have hn := x.fresh hp
 by_cases hb : b = a
 ·subst hb; rw [upd_same] at e; cases e; exact new
 ·rw [upd_ne hb] at e
  exact (x b u e).stay (fun c v _ q => k c v q) (fun c q => by rw [upd_ne (ne_of_none q hn)]; exact q) fun c xs q => by rw [upd_ne (ne_of_none q hn)]; exact q
end
def Rd (H : Hp) (a : Addr) (u : HO) : Prop := H a = some u \/ ∃ o, H a = some (.frz o u)
theorem Rd.ok {P : Program} {w : World} {H : Hp} {h : Heap} {a : Addr} {u : HO} (r : Rd H a u) (x : HOk P w H h) : ObjOk P w H h a u := by
 rcases r with r | ⟨o, r⟩
 ·exact x a u r
 ·obtain ⟨_, q⟩ := x a _ r
  exact q
noncomputable def Mut : Option HO -> Prop
 | some (.lst _) => True
 | some (.dK _) => True
 | some (.dT _) => True
 | some (.set _ _) => True
 | some (.ins _ _ _) => True
 | some (.ext _) => True
 | _ => False
section
variable {P : Program} {w : World} {H : Hp} {h h' : Heap} {x e : Addr} {o' : HO}
theorem HOk.write (ok : HOk P w H h) (mu : Mut (H x)) (he : e = x \/ H e = some (.own x)) (k : ∀ b u, b ≠ e -> h.get? b = some u -> h'.get? b = some u) (heo : ∃ u, h'.get? e = some u)
  (new : ObjOk P w (upd H x o') h' x o') : HOk P w (upd H x o') h' := fun b u q => by
 have nown : ∀ c y, H c = some (.own y) -> c ≠ x := fun c y r z => by subst z; rw [r] at mu; exact mu
 have ntup : ∀ c xs, H c = some (.tup xs) -> c ≠ x := fun c xs r z => by subst z; rw [r] at mu; exact mu
 by_cases hb : b = x
 ·subst hb; rw [upd_same] at q; cases q; exact new
 ·rw [upd_ne hb] at q
  by_cases hbe : b = e
  ·have q' : H b = some (.own x) := by
    rcases he with z | z
    ·exact absurd (hbe.trans z) hb
    ·rw [hbe]; exact z
   rw [q] at q'; cases q'
   obtain ⟨v, hv⟩ := heo
   exact ⟨v, by rw [hbe]; exact hv⟩
  ·refine (ok b u q).stay (fun c v hc r => k c v ?_ r) (fun c r => by rw [upd_ne (nown c b r)]; exact r) fun c xs r => by rw [upd_ne (ntup c xs r)]; exact r
   rcases hc with rfl | hc
   ·exact hbe
   ·rintro rfl
    rcases he with z | z
    ·exact nown c b hc z
    ·rw [hc] at z; cases z; exact hb rfl
end
structure Un (fs ex : List Addr) (H H' : Hp) (h h' : Heap) : Prop where
 keep : ∀ b o, h.get? b = some o -> H b = none -> b ∉ fs -> b ∉ ex -> h'.get? b = some o
 slot : ∀ b o, h.get? b = some o -> H b = none -> b ∈ fs -> b ∉ ex -> ∃ sl, h'.get? b = some { o with slots := sl }
 free : ∀ b o, h.get? b = some o -> H b = none -> b ∉ ex -> H' b = none
 there : ∀ b o, h.get? b = some o -> b ∉ ex -> ∃ o', h'.get? b = some o'
 tups : ∀ b xs, H b = some (.tup xs) -> H' b = some (.tup xs)
 frzs : ∀ b o u, H b = some (.frz o u) -> H' b = some (.frz o u)
 tbls : ∀ b ps, H b = some (.tbl ps) -> ∃ more, H' b = some (.tbl (ps ++ more))
section
variable {fs fs' ex ex' : List Addr} {H H1 H2 : Hp} {h h1 h2 h' : Heap} {a x e : Addr} {o : HO}
theorem Un.any (u : Un fs ex H H1 h h1) {b : Addr} {ob : Obj} (q : h.get? b = some ob) (n : H b = none) (hx : b ∉ ex) : ∃ sl, h1.get? b = some { ob with slots := sl } := by
 by_cases hb : b ∈ fs
 ·exact u.slot b ob q n hb hx
 ·exact ⟨ob.slots, u.keep b ob q n hb hx⟩
theorem Un.kept (k : ∀ b u, h.get? b = some u -> h'.get? b = some u) : Un fs ex H H h h' :=
 ⟨fun b ob q _ _ _ => k b ob q, fun b ob q _ _ _ => ⟨ob.slots, k b ob q⟩, fun _ _ _ n _ => n, fun b ob q _ => ⟨ob, k b ob q⟩, fun _ _ q => q, fun _ _ _ q => q, fun _ ps q => ⟨#[], by rw [q]; simp⟩⟩
theorem Un.refl : Un fs ex H H h h := Un.kept fun _ _ q => q
theorem Un.laid (k : ∀ b u, h.get? b = some u -> h'.get? b = some u) (hp : h.objs.size <= a) (hn : H a = none) : Un fs ex H (upd H a o) h h' where
 keep := fun b u q _ _ _ => k b u q
 slot := fun b u q _ _ _ => ⟨u.slots, k b u q⟩
 free := fun b u q n _ => by rw [upd_ne (Nat.ne_of_lt (Nat.lt_of_lt_of_le (Heap.lt_size q) hp))]; exact n
 there := fun b u q _ => ⟨u, k b u q⟩
 tups := fun b xs q => by rw [upd_ne (ne_of_none q hn)]; exact q
 frzs := fun b u xs q => by rw [upd_ne (ne_of_none q hn)]; exact q
 tbls := fun b ps q => ⟨#[], by rw [upd_ne (ne_of_none q hn), q]; simp⟩
theorem Un.write (mu : Mut (H x)) (he : e = x \/ H e = some (.own x)) (k : ∀ b u, b ≠ e -> h.get? b = some u -> h'.get? b = some u) (heo : ∃ u, h'.get? e = some u) : Un fs ex H (upd H x o) h h' := by
 have hx : ∀ b, H b = none -> b ≠ x := fun b n z => by subst z; rw [n] at mu; exact mu
 have hb : ∀ b, H b = none -> b ≠ e := fun b n z => by
  subst z
  rcases he with r | r
  ·exact hx b n r
  ·rw [n] at r; cases r
 have hm : ∀ b u, H b = some u -> ¬ Mut (some u) -> b ≠ x := fun b u q nm z => by subst z; rw [q] at mu; exact nm mu
 refine ⟨fun b u q n _ _ => k b u (hb b n) q, fun b u q n _ _ => ⟨u.slots, k b u (hb b n) q⟩, fun b u q n _ => by rw [upd_ne (hx b n)]; exact n, fun b u q _ => ?_,
  fun b xs q => by rw [upd_ne (hm b _ q fun z => z)]; exact q, fun b u xs q => by rw [upd_ne (hm b _ q fun z => z)]; exact q, fun b ps q => ⟨#[], by rw [upd_ne (hm b _ q fun z => z), q]; simp⟩⟩
 by_cases hbe : b = e
 ·subst hbe; exact heo
 ·exact ⟨u, k b u hbe q⟩
end
noncomputable def trk (h : Heap) (H : Hp) : List Addr := (List.range h.objs.size).filter fun a => (H a).isSome
noncomputable def hidT (h : Heap) (H : Hp) : Heap := W.hideAll h (trk h H)
theorem hidT_size (h : Heap) (H : Hp) : (hidT h H).objs.size = h.objs.size := W.hideAll_size _ _
theorem hidT_get {h : Heap} {H : Hp} {b : Addr} {o : Obj} (e : h.get? b = some o) (n : H b = none) : (hidT h H).get? b = some o :=
 W.hideAll_get _ e fun hm => by
  have q : (H b).isSome = true := (List.mem_filter.mp hm).2
  rw [n] at q; simp at q
theorem of_hidT {h : Heap} {H : Hp} {b : Addr} {o : Obj} (e : (hidT h H).get? b = some o) : h.get? b = some o /\ H b = none := by
 have e' : h.get? b = some o := W.of_hideAll (trk h H) e
 refine ⟨e', ?_⟩
 cases q : H b with
 | none => rfl
 | some x =>
  have hm : b ∈ trk h H := List.mem_filter.mpr ⟨List.mem_range.mpr (Heap.lt_size e'), by simp [q]⟩
  have z : (hidT h H).get? b = none := W.hideAll_none (trk h H) hm
  rw [z] at e; cases e
noncomputable def allNews (g h : Heap) (L : Addr) : List (Addr × Obj) := (List.range h.objs.size).filterMap fun a => if a = L \/ (g.get? a).isSome = true then none else (h.get? a).map fun o => (a, o)
noncomputable def rest (g h : Heap) (L d : Addr) : List (Addr × Obj) := (allNews g h L).filter fun p => decide (p.1 ≠ d)
end
section
structure Mod (K : W.Frag) (mg : Str -> Option Value) (base : Heap) : Prop where
 kin : K.In base
 glob : base.Ns mainGlobals mg
 blt : ∃ mb, base.Ns builtinsNs mb /\ ∀ x : Str, x ≠ "__name__" -> mb x = bootBuiltins x
 nolimit : base.NoLimit
structure Cx where
 prog : Program
 w : World
 K : W.Frag
 mg : Str -> Option Value
 base : Heap
 A : Around
 N : List Str
 s₀ : Shared
 H₀ : Hp
 env : Env
 outer : List Env
 stack : List Env
 ex : List Addr
 fn : Str -> Bool
 calm : Bool
 pn : List (Addr × Obj)
 xe : Value -> Shared -> Prop
noncomputable def frs (l : List Env) : List Addr := l.filterMap (·.frame)
noncomputable abbrev Cx.fs (X : Cx) : List Addr := frs X.outer
def Vis (sc : Scope) (x : Str) : Prop := sc.names.lookup x = some .local \/ sc.names.lookup x = some .cell \/ sc.names.lookup x = some .free
def Loc (sc : Scope) (x : Str) : Prop := sc.names.lookup x = some .local \/ sc.names.lookup x = some .cell
def Look (env : Env) (h : Heap) (m : Str -> Option Value) (x : Str) (u : Value) : Prop :=
 (env.kindOf x = some .local /\ m x = some u) \/ ((env.kindOf x = some .cell \/ env.kindOf x = some .free) /\ ∃ c, env.cells.lookup x = some c /\ h.IsCell c (some u))
structure Cx.Ok (X : Cx) : Prop where
 mod : Mod X.K X.mg X.base
 kind : X.env.scope.kind = .function
 glob : X.env.globals = mainGlobals
 blt : X.env.builtins = builtinsNs
 above : X.s₀.heap.objs.size <= X.env.locals
 inj : ∀ x y c, X.env.cells.lookup x = some c -> X.env.cells.lookup y = some c -> x = y
 has : ∀ x, (X.env.kindOf x = some .cell \/ X.env.kindOf x = some .free) -> ∃ c, X.env.cells.lookup x = some c
 cab : ∀ x c, X.fn x = true -> X.env.cells.lookup x = some c -> X.s₀.heap.objs.size <= c
 hd : X.calm = true -> X.A.handled = none
 frames : X.A.frames = some X.stack
 stk : X.stack = X.outer \/ (X.stack = X.env :: X.outer /\ X.env.frame = some X.env.locals)
 exf : ∀ b ∈ X.ex, b ≠ X.env.locals /\ ∀ x c, X.env.cells.lookup x = some c -> c ≠ b
 bs : ∀ b o, X.base.get? b = some o -> X.s₀.heap.get? b = some o /\ X.H₀ b = none
 bsz : X.base.objs.size <= X.s₀.heap.objs.size
 noex : ∀ b o, X.base.get? b = some o -> b ∉ X.ex
 exfs : ∀ b ∈ X.ex, b ∉ X.fs
 funs : X.s₀.heap.FunFrames X.base X.outer
 frf : ∀ b ∈ X.fs, X.H₀ b = none
structure Inv (X : Cx) (pins : List (Addr × Obj)) (σ : List (Option V)) (H : Hp) (s : Shared) : Prop where
 ok : X.Ok
 os : s.os = X.s₀.os
 bare : AllBare s.gens
 base : Un X.fs X.ex X.H₀ H X.s₀.heap s.heap
 loc : ∃ m, s.heap.Ns X.env.locals m /\ ∀ (i : Nat) (x : Str) (v : V), X.N[i]? = some x -> σ[i]? = some (some v) -> Vis X.env.scope x -> ∃ u, RelV v u /\ Look X.env s.heap m x u
 cell : ∀ x c, X.env.cells.lookup x = some c -> ∃ v, s.heap.IsCell c v
 free : H X.env.locals = none
 freeC : ∀ x c, X.env.cells.lookup x = some c -> H c = none
 pin : ∀ p ∈ X.pn ++ pins, s.heap.get? p.1 = some p.2 /\ H p.1 = none /\ p.1 ≠ X.env.locals /\ p.1 ∉ X.fs /\ ∀ v, p.2.data ≠ .cell v
 hok : HOk X.prog X.w H s.heap
 len : σ.length = X.N.length
section
variable {X : Cx} {pins : List (Addr × Obj)} {σ : List (Option V)} {H H' : Hp} {s : Shared} {h' : Heap}
theorem Cx.Ok.nofr (ok : X.Ok) {b : Addr} {o : Obj} (e : X.base.get? b = some o) : b ∉ X.fs := fun hb => by
 have := (ok.funs.mem hb).1
 rw [e] at this; cases this
theorem Inv.bs (I : Inv X pins σ H s) : ∀ b o, X.base.get? b = some o -> s.heap.get? b = some o /\ H b = none := fun b o e =>
 ⟨I.base.keep b o (I.ok.bs b o e).1 (I.ok.bs b o e).2 (I.ok.nofr e) (I.ok.noex b o e), I.base.free b o (I.ok.bs b o e).1 (I.ok.bs b o e).2 (I.ok.noex b o e)⟩
theorem Inv.bk (I : Inv X pins σ H s) : ∀ b o, X.base.get? b = some o -> s.heap.get? b = some o := fun b o e => (I.bs b o e).1
theorem Inv.mod (I : Inv X pins σ H s) : Mod X.K X.mg X.base := I.ok.mod
theorem Inv.kIn (I : Inv X pins σ H s) : X.K.In s.heap := I.ok.mod.kin.keeps I.bk
theorem Inv.lt (I : Inv X pins σ H s) : X.env.locals < s.heap.objs.size := let ⟨_, hn, _⟩ := I.loc; hn.lt
theorem Inv.sz (I : Inv X pins σ H s) : X.s₀.heap.objs.size <= s.heap.objs.size := Nat.le_trans I.ok.above (Nat.le_of_lt I.lt)
theorem Inv.nofs (I : Inv X pins σ H s) {a : Addr} (h : s.heap.objs.size <= a) : a ∉ X.fs := fun hb => by
 obtain ⟨_, o, ho, _⟩ := I.ok.funs.mem hb
 exact absurd (Nat.lt_of_lt_of_le (Heap.lt_size ho) (Nat.le_trans I.sz h)) (Nat.lt_irrefl _)
theorem Inv.cne (I : Inv X pins σ H s) : ∀ x c, X.env.cells.lookup x = some c -> c ≠ X.env.locals := fun x c e z => by
 obtain ⟨v, o, ho, hd⟩ := I.cell x c e
 obtain ⟨m, ⟨o', es, ep, ho', hd', _⟩, _⟩ := I.loc
 rw [z, ho'] at ho; cases ho; rw [hd'] at hd; cases hd
theorem Inv.funs (I : Inv X pins σ H s) : s.heap.FunFrames X.base X.outer := by
 have all : ∀ (l : List Env), (∀ b ∈ frs l, b ∈ X.fs) -> X.s₀.heap.FunFrames X.base l -> s.heap.FunFrames X.base l := by
  intro l
  induction l with
  | nil => intro _ _; trivial
  | cons env r ih =>
   intro hs hl
   obtain ⟨hk, ⟨L, o, hf, hn, ho, hd⟩, hr⟩ := hl
   have hL : L ∈ X.fs := hs L (by unfold frs; rw [filterMap_cons, hf]; exact mem_cons_self)
   obtain ⟨sl, e⟩ := I.base.slot L o ho (I.ok.frf L hL) hL fun z => I.ok.exfs L z hL
   exact ⟨hk, ⟨L, _, hf, hn, e, hd⟩, ih (fun b hb => hs b (by unfold frs; rw [filterMap_cons, hf]; exact mem_cons_of_mem _ hb)) hr⟩
 exact all X.outer (fun _ hb => hb) I.ok.funs
theorem Inv.stack (I : Inv X pins σ H s) : s.heap.FunFrames X.base X.stack := by
 rcases I.ok.stk with e | ⟨e, hf⟩
 ·rw [e]; exact I.funs
 ·rw [e]
  obtain ⟨m, hn, _⟩ := I.loc
  refine .cons (by rw [I.ok.kind]; decide) hf hn ?_ I.funs
  exact Heap.get?_none_of_le (Nat.le_trans I.ok.bsz I.ok.above)
theorem Inv.stkSub (I : Inv X pins σ H s) : ∀ b ∈ frs X.stack, b ∈ X.env.locals :: X.fs := fun b hb => by
 rcases I.ok.stk with e | ⟨e, hf⟩
 ·rw [e] at hb; exact mem_cons_of_mem _ hb
 ·rw [e] at hb
  unfold frs at hb
  rw [filterMap_cons, hf] at hb
  exact hb
theorem Inv.stkFree (I : Inv X pins σ H s) : ∀ b ∈ frs X.stack, H b = none := fun b hb => by
 rcases List.mem_cons.mp (I.stkSub b hb) with e | hb
 ·rw [e]; exact I.free
 ·obtain ⟨_, o, ho, _⟩ := I.ok.funs.mem hb
  exact I.base.free b o ho (I.ok.frf b hb) fun z => I.ok.exfs b z hb
theorem Inv.step {g' : Array GenState} {t' : Nat} {d' : Drawn} {ch : List Addr} (I : Inv X pins σ H s)
  (hch : ∀ b ∈ ch, (b ∈ X.ex \/ X.s₀.heap.objs.size <= b) /\ b ≠ X.env.locals /\ (∀ x c, X.env.cells.lookup x = some c -> c ≠ b) /\ ∀ p ∈ X.pn ++ pins, p.1 ≠ b)
  (keep : ∀ b o, b ≠ X.env.locals -> b ∉ X.fs -> b ∉ ch -> s.heap.get? b = some o -> H b = none -> h'.get? b = some o)
  (slot : ∀ b o, b ≠ X.env.locals -> b ∈ X.fs -> b ∉ ch -> s.heap.get? b = some o -> H b = none -> ∃ sl, h'.get? b = some { o with slots := sl }) (free : ∀ b o, b ∉ ch -> s.heap.get? b = some o -> H b = none -> H' b = none)
  (there : ∀ b o, b ∉ ch -> s.heap.get? b = some o -> ∃ o', h'.get? b = some o')
  (tups : ∀ b xs, H b = some (.tup xs) -> H' b = some (.tup xs)) (frzs : ∀ b o u, H b = some (.frz o u) -> H' b = some (.frz o u)) (tbls : ∀ b ps, H b = some (.tbl ps) -> ∃ more, H' b = some (.tbl (ps ++ more)))
  (ns : ∀ m, s.heap.Ns X.env.locals m -> h'.Ns X.env.locals m) (hok : HOk X.prog X.w H' h') (hg : AllBare g') :
  Inv X pins σ H' { s with heap := h', gens := g', drawn := d', toks := t' } := by
 have neL : ∀ b o, X.s₀.heap.get? b = some o -> b ≠ X.env.locals := fun b o e => Nat.ne_of_lt (Nat.lt_of_lt_of_le (Heap.lt_size e) I.ok.above)
 have neC : ∀ b o, X.s₀.heap.get? b = some o -> b ∉ X.ex -> b ∉ ch := fun b o e hx hb => by
  rcases (hch b hb).1 with z | z
  ·exact hx z
  ·exact absurd (Nat.lt_of_lt_of_le (Heap.lt_size e) z) (Nat.lt_irrefl _)
 have cellK : ∀ x c, X.env.cells.lookup x = some c -> ∀ v, s.heap.IsCell c v -> h'.IsCell c v := fun x c e v hpat => by
  obtain ⟨o, ho, hd⟩ := hpat
  have nch : c ∉ ch := fun z => (hch c z).2.2.1 x c e rfl
  by_cases hc : c ∈ X.fs
  ·obtain ⟨sl, q⟩ := slot c o (I.cne x c e) hc nch ho (I.freeC x c e)
   exact ⟨_, q, hd⟩
  ·exact ⟨o, keep c o (I.cne x c e) hc nch ho (I.freeC x c e), hd⟩
 refine ⟨I.ok, I.os, hg, ⟨fun b o e n hb hx => ?_, fun b o e n hb hx => ?_, fun b o e n hx => ?_, fun b o e hx => ?_, fun b xs e => tups b xs (I.base.tups b xs e), fun b o xs e => frzs b o xs (I.base.frzs b o xs e), fun b ps e => ?_⟩, ?_, fun x c e => ?_, ?_, fun x c e => ?_, fun p hp => ?_, hok, I.len⟩
 ·exact keep b o (neL b o e) hb (neC b o e hx) (I.base.keep b o e n hb hx) (I.base.free b o e n hx)
 ·obtain ⟨sl, e1⟩ := I.base.slot b o e n hb hx
  obtain ⟨sl', e2⟩ := slot b _ (neL b o e) hb (neC b o e hx) e1 (I.base.free b o e n hx)
  exact ⟨sl', e2⟩
 ·obtain ⟨o', e1⟩ := I.base.there b o e hx
  exact free b o' (neC b o e hx) e1 (I.base.free b o e n hx)
 ·obtain ⟨o', e1⟩ := I.base.there b o e hx
  exact there b o' (neC b o e hx) e1
 ·obtain ⟨m1, e1⟩ := I.base.tbls b ps e
  obtain ⟨m2, e2⟩ := tbls b _ e1
  exact ⟨m1 ++ m2, by rw [e2, Array.append_assoc]⟩
 ·obtain ⟨m, hn, hl⟩ := I.loc
  refine ⟨m, ns m hn, fun i x v e1 e2 e3 => ?_⟩
  obtain ⟨u, r, l⟩ := hl i x v e1 e2 e3
  refine ⟨u, r, ?_⟩
  rcases l with l | ⟨k, c, e, z⟩
  ·exact .inl l
  ·exact .inr ⟨k, c, e, cellK x c e _ z⟩
 ·obtain ⟨v, z⟩ := I.cell x c e
  exact ⟨v, cellK x c e v z⟩
 ·obtain ⟨m, ⟨o, _, _, ho, _⟩, _⟩ := I.loc
  exact free _ o (fun z => (hch _ z).2.1 rfl) ho I.free
 ·obtain ⟨v, o, ho, hd⟩ := I.cell x c e
  exact free c o (fun z => (hch c z).2.2.1 x c e rfl) ho (I.freeC x c e)
 ·obtain ⟨e, n, ne, nf, d⟩ := I.pin p hp
  have nch : p.1 ∉ ch := fun z => (hch p.1 z).2.2.2 p hp rfl
  exact ⟨keep p.1 p.2 ne nf nch e n, free p.1 p.2 nch e n, ne, nf, d⟩
theorem Inv.un {t' : Nat} (I : Inv X pins σ H s) (u : Un X.fs [] H H' s.heap h') (hok : HOk X.prog X.w H' h') : Inv X pins σ H' { s with heap := h', toks := t' } := by
 obtain ⟨m, ⟨o, es, ep, ho, r⟩, _⟩ := id I.loc
 obtain ⟨sl, hL⟩ := u.any ho I.free (by simp)
 exact I.step (g' := s.gens) (d' := s.drawn) (ch := []) (fun _ z => nomatch z) (fun b o _ hb _ e n => u.keep b o e n hb (by simp)) (fun b o _ hb _ e n => u.slot b o e n hb (by simp)) (fun b o _ e n => u.free b o e n (by simp)) (fun b o _ e => u.there b o e (by simp)) u.tups u.frzs u.tbls (fun m' hm => by
  obtain ⟨o', es', ep', ho', r'⟩ := hm
  rw [ho] at ho'; cases ho'
  exact ⟨_, es', ep', hL, r'⟩) hok I.bare
theorem Inv.call {g' : Array GenState} {t' : Nat} {d' : Drawn} {ch : List Addr} (I : Inv X pins σ H s) (u : Un (frs X.stack) ch H H' s.heap h') (hok : HOk X.prog X.w H' h') (hg : AllBare g')
  (hch : ∀ b ∈ ch, (b ∈ X.ex \/ X.s₀.heap.objs.size <= b) /\ b ≠ X.env.locals /\ (∀ x c, X.env.cells.lookup x = some c -> c ≠ b) /\ ∀ p ∈ X.pn ++ pins, p.1 ≠ b) :
  Inv X pins σ H' { s with heap := h', gens := g', drawn := d', toks := t' } := by
 obtain ⟨m, ⟨o, es, ep, ho, r⟩, _⟩ := id I.loc
 obtain ⟨sl, hL⟩ := u.any ho I.free fun z => (hch _ z).2.1 rfl
 exact I.step (ch := ch) hch (fun b o hL hb hc e n => u.keep b o e n (fun z => (List.mem_cons.mp (I.stkSub b z)).elim hL hb) hc) (fun b o _ _ hc e n => u.any e n hc) (fun b o hc e n => u.free b o e n hc) (fun b o hc e => u.there b o e hc) u.tups u.frzs u.tbls (fun m' hm => by
  obtain ⟨o', es', ep', ho', r'⟩ := hm
  rw [ho] at ho'; cases ho'
  exact ⟨_, es', ep', hL, r'⟩) hok hg
theorem Inv.turned {t' : Nat} {it : Addr} (I : Inv X pins σ H s) (k : ∀ b o, b ≠ it -> s.heap.get? b = some o -> h'.get? b = some o) (hn : H it = none) (hL : it ≠ X.env.locals)
  (h1 : it ∈ X.ex \/ X.s₀.heap.objs.size <= it) (h2 : ∀ x c, X.env.cells.lookup x = some c -> c ≠ it) (h3 : ∀ p ∈ X.pn ++ pins, p.1 ≠ it) : Inv X pins σ H { s with heap := h', toks := t' } := by
 have nit : ∀ b u, H b = some u -> b ≠ it := fun b u e z => by rw [z, hn] at e; cases e
 refine I.step (g' := s.gens) (d' := s.drawn) (ch := [it]) (fun b hb => ?_) (fun b o _ _ hc e _ => k b o (fun z => hc (by simp [z])) e) (fun b o _ _ hc e _ => ⟨o.slots, k b o (fun z => hc (by simp [z])) e⟩) (fun _ _ _ _ n => n)
  (fun b o hc e => ⟨o, k b o (fun z => hc (by simp [z])) e⟩) (fun _ _ e => e) (fun _ _ _ e => e) (fun b ps e => ⟨#[], by rw [e]; simp⟩) (fun m hm => ?_) (fun b u e => ?_) I.bare
 ·have e : b = it := by simpa using hb
  subst e
  exact ⟨h1, hL, h2, h3⟩
 ·obtain ⟨o, es, ep, ho, r⟩ := hm
  exact ⟨o, es, ep, k _ o (Ne.symm hL) ho, r⟩
 ·refine (I.hok b u e).stay (fun c v hc q => k c v ?_ q) (fun _ q => q) fun _ _ q => q
  rcases hc with z | z
  ·rw [z]; exact nit b u e
  ·exact nit c _ z
theorem Inv.tok (I : Inv X pins σ H s) (t : Nat) : Inv X pins σ H { s with toks := t } := I.un (h' := s.heap) (t' := t) Un.refl I.hok
theorem Inv.kept {t' : Nat} (I : Inv X pins σ H s) (k : ∀ b u, s.heap.get? b = some u -> h'.get? b = some u) : Inv X pins σ H { s with heap := h', toks := t' } := I.un (Un.kept k) (I.hok.kept k)
theorem Inv.laid {a : Addr} {o : HO} {t' : Nat} (I : Inv X pins σ H s) (k : ∀ b u, s.heap.get? b = some u -> h'.get? b = some u) (hp : s.heap.objs.size <= a) (new : ObjOk X.prog X.w (upd H a o) h' a o) :
  Inv X pins σ (upd H a o) { s with heap := h', toks := t' } := I.un (Un.laid k hp (I.hok.fresh hp)) (I.hok.laid k hp new)
theorem Inv.write {x e : Addr} {o : HO} {t' : Nat} (I : Inv X pins σ H s) (mu : Mut (H x)) (he : e = x \/ H e = some (.own x)) (k : ∀ b u, b ≠ e -> s.heap.get? b = some u -> h'.get? b = some u) (heo : ∃ u, h'.get? e = some u)
  (new : ObjOk X.prog X.w (upd H x o) h' x o) : Inv X pins σ (upd H x o) { s with heap := h', toks := t' } := I.un (Un.write mu he k heo) (I.hok.write mu he k heo new)
theorem Inv.pins_of {pins' : List (Addr × Obj)} (I : Inv X pins σ H s) (h : ∀ p ∈ pins', s.heap.get? p.1 = some p.2 /\ H p.1 = none /\ p.1 ≠ X.env.locals /\ p.1 ∉ X.fs /\ ∀ v, p.2.data ≠ .cell v) : Inv X pins' σ H s :=
 ⟨I.ok, I.os, I.bare, I.base, I.loc, I.cell, I.free, I.freeC, fun p hp => (List.mem_append.mp hp).elim (fun z => I.pin p (mem_append_left _ z)) (h p), I.hok, I.len⟩
theorem nodup_ix {N : List Str} (hN : N.Nodup) {i j : Nat} {x : Str} (a : N[i]? = some x) (b : N[j]? = some x) : i = j := by
 obtain ⟨h1, e1⟩ := List.getElem?_eq_some_iff.mp a
 obtain ⟨h2, e2⟩ := List.getElem?_eq_some_iff.mp b
 exact (getElem_inj hN).mp (e1.trans e2.symm)
theorem store_ok2 {M : Model} {A : Around} {E : Value -> Shared -> Prop} {i : Nat} {x : Str} {v : V} {u : Value} {Q : Unit -> Shared -> Prop} (I : Inv X pins σ H s) (hN : X.N.Nodup) (hi : X.N[i]? = some x) (hx : Loc X.env.scope x) (r : RelV v u)
  (h : ∀ s', Inv X pins (σ.set i (some v)) H s' -> (∃ a, Heap.SameBut a s.heap s'.heap /\ (a = X.env.locals \/ X.env.cells.lookup x = some a)) -> Q () s') (hf : X.fn x = true \/ X.env.scope.names.lookup x = some .local := by first | exact .inl rfl | exact .inr rfl | assumption) : wpAny M A (storeName X.env x u) Q E s := by
 obtain ⟨m, hn, hl⟩ := id I.loc
 have hcls : (X.env.scope.kind == .class || (X.env.scope.kind == .module && X.env.locals != X.env.globals)) = false := by rw [I.ok.kind]; rfl
 have hiσ : i < σ.length := by rw [I.len]; exact (List.getElem?_eq_some_iff.mp hi).1
 have cne := I.cne
 have tracked : ∀ {a : Addr} {h' : Heap}, (∃ o, s.heap.get? a = some o /\ H a = none) -> Heap.SameBut a s.heap h' -> HOk X.prog X.w H h' := fun {a h'} ha hs b ob e => by
  obtain ⟨_, _, hfree⟩ := ha
  refine (I.hok b ob e).stay (fun c w' hc q => (hs.2 c ?_).trans q) (fun _ q => q) fun _ _ q => q
  rintro rfl
  rcases hc with rfl | hc
  ·rw [hfree] at e; cases e
  ·rw [hfree] at hc; cases hc
 rcases hx with hk | hk
 ·refine wpAny_storeName_local hk hn (fun h' hn' hs => ?_) hcls
  obtain ⟨oL, _, _, hoL, _⟩ := id hn
  refine h _ ⟨I.ok, I.os, I.bare, ⟨fun b o e n hb hx => ?_, fun b o e n hb hx => ?_, I.base.free, fun b o e hx => ?_, I.base.tups, I.base.frzs, I.base.tbls⟩, ⟨_, hn', fun j y v' e1 e2 e3 => ?_⟩, fun y c e => ?_, I.free, I.freeC, fun p hp => ?_, tracked ⟨oL, hoL, I.free⟩ hs, by simpa using I.len⟩ ⟨_, hs, .inl rfl⟩
  ·exact (hs.2 b (Nat.ne_of_lt (Nat.lt_of_lt_of_le (Heap.lt_size e) I.ok.above))).trans (I.base.keep b o e n hb hx)
  ·obtain ⟨sl, e1⟩ := I.base.slot b o e n hb hx
   exact ⟨sl, (hs.2 b (Nat.ne_of_lt (Nat.lt_of_lt_of_le (Heap.lt_size e) I.ok.above))).trans e1⟩
  ·obtain ⟨o', e1⟩ := I.base.there b o e hx
   exact ⟨o', (hs.2 b (Nat.ne_of_lt (Nat.lt_of_lt_of_le (Heap.lt_size e) I.ok.above))).trans e1⟩
  ·by_cases hj : j = i
   ·subst hj
    rw [hi] at e1; cases e1
    rw [getElem?_set_self hiσ] at e2
    cases e2
    exact ⟨u, r, .inl ⟨hk, by simp⟩⟩
   ·rw [getElem?_set_ne (Ne.symm hj)] at e2
    obtain ⟨u', r', q⟩ := hl j y v' e1 e2 e3
    refine ⟨u', r', ?_⟩
    rcases q with ⟨k, e⟩ | ⟨k, c, e, z⟩
    ·refine .inl ⟨k, ?_⟩
     have : y ≠ x := fun e => hj (nodup_ix hN e1 (e ▸ hi))
     simp [this, e]
    ·exact .inr ⟨k, c, e, z.sameBut hs (cne y c e)⟩
  ·obtain ⟨w', z⟩ := I.cell y c e
   exact ⟨w', z.sameBut hs (cne y c e)⟩
  ·obtain ⟨e, n, ne, nf, d⟩ := I.pin p hp
   exact ⟨(hs.2 p.1 ne).trans e, n, ne, nf, d⟩
 ·have hfn : X.fn x = true := by
   rcases hf with z | z
   ·exact z
   ·rw [z] at hk; cases hk
  obtain ⟨c, hc⟩ := I.ok.has x (.inl hk)
  obtain ⟨w', z⟩ := I.cell x c hc
  refine wpAny_storeName_cell I.ok.kind hk hc z (fun h' hc' hs => ?_)
  obtain ⟨oc, hoc, hocd⟩ := id z
  refine h { s with heap := h' } ⟨I.ok, I.os, I.bare, ⟨fun b o e n hb hx => ?_, fun b o e n hb hx => ?_, I.base.free, fun b o e hx => ?_, I.base.tups, I.base.frzs, I.base.tbls⟩, ⟨m, hn.sameBut hs (Ne.symm (cne x c hc)), fun j y v' e1 e2 e3 => ?_⟩, fun y c' e => ?_, I.free, I.freeC, fun p hp => ?_, tracked ⟨oc, hoc, I.freeC x c hc⟩ hs, by simpa using I.len⟩ ⟨c, hs, .inr hc⟩
  ·exact (hs.2 b (Nat.ne_of_lt (Nat.lt_of_lt_of_le (Heap.lt_size e) (I.ok.cab x c hfn hc)))).trans (I.base.keep b o e n hb hx)
  ·obtain ⟨sl, e1⟩ := I.base.slot b o e n hb hx
   exact ⟨sl, (hs.2 b (Nat.ne_of_lt (Nat.lt_of_lt_of_le (Heap.lt_size e) (I.ok.cab x c hfn hc)))).trans e1⟩
  ·obtain ⟨o', e1⟩ := I.base.there b o e hx
   exact ⟨o', (hs.2 b (Nat.ne_of_lt (Nat.lt_of_lt_of_le (Heap.lt_size e) (I.ok.cab x c hfn hc)))).trans e1⟩
  ·by_cases hj : j = i
   ·subst hj
    rw [hi] at e1; cases e1
    rw [getElem?_set_self hiσ] at e2
    cases e2
    exact ⟨u, r, .inr ⟨.inl hk, c, hc, hc'⟩⟩
   ·rw [getElem?_set_ne (Ne.symm hj)] at e2
    obtain ⟨u', r', q⟩ := hl j y v' e1 e2 e3
    refine ⟨u', r', ?_⟩
    rcases q with q | ⟨k, c', e, z'⟩
    ·exact .inl q
    ·refine .inr ⟨k, c', e, z'.sameBut hs ?_⟩
     rintro rfl
     exact hj (nodup_ix hN e1 (I.ok.inj _ _ _ e hc ▸ hi))
  ·by_cases hcc : c' = c
   ·subst hcc; exact ⟨_, hc'⟩
   ·obtain ⟨w2, z2⟩ := I.cell y c' e
    exact ⟨w2, z2.sameBut hs hcc⟩
  ·obtain ⟨e, n, ne, nf, d⟩ := I.pin p hp
   refine ⟨(hs.2 p.1 ?_).trans e, n, ne, nf, d⟩
   intro q
   rw [q, hoc] at e
   have q' : oc = p.2 := Option.some.inj e
   exact d w' (by rw [<- q']; exact hocd)
theorem store_ok {M : Model} {A : Around} {E : Value -> Shared -> Prop} {i : Nat} {x : Str} {v : V} {u : Value} {Q : Unit -> Shared -> Prop} (I : Inv X pins σ H s) (hN : X.N.Nodup) (hi : X.N[i]? = some x) (hx : Loc X.env.scope x) (r : RelV v u)
  (h : ∀ s', Inv X pins (σ.set i (some v)) H s' -> Q () s') (hf : X.fn x = true \/ X.env.scope.names.lookup x = some .local := by first | exact .inl rfl | exact .inr rfl | assumption) : wpAny M A (storeName X.env x u) Q E s :=
 store_ok2 I hN hi hx r (fun s' I' _ => h s' I') hf
theorem Inv.call' {s' : Shared} {ch : List Addr} (I : Inv X pins σ H s) (ho : s'.os = s.os) (u : Un (frs X.stack) ch H H' s.heap s'.heap) (hok : HOk X.prog X.w H' s'.heap) (hg : AllBare s'.gens)
  (hch : ∀ b ∈ ch, (b ∈ X.ex \/ X.s₀.heap.objs.size <= b) /\ b ≠ X.env.locals /\ (∀ x c, X.env.cells.lookup x = some c -> c ≠ b) /\ ∀ p ∈ X.pn ++ pins, p.1 ≠ b) : Inv X pins σ H' s' := by
 obtain ⟨h', g', d', t', o'⟩ := s'
 have e : o' = s.os := ho
 subst e
 exact I.call (g' := g') (t' := t') (d' := d') u hok hg hch
end
noncomputable abbrev XK := Value -> Option Addr -> Hp -> Prop
noncomputable abbrev St := List (Option V)
noncomputable abbrev VK := V -> Hp -> Prop
noncomputable abbrev TE := St -> Hp -> VK -> Prop
noncomputable abbrev TT := St -> Hp -> (Bool -> Hp -> Prop) -> Prop
noncomputable abbrev TA := St -> Hp -> (List V -> Hp -> Prop) -> Prop
structure Ends where
 nx : St -> Hp -> Prop
 rt : VK
 bk : St -> Hp -> Prop := fun _ _ => False
 ct : St -> Hp -> Prop := fun _ _ => False
noncomputable abbrev TS := Ends -> St -> Hp -> Prop
def EP (X : Cx) (pins : List (Addr × Obj)) (σ : St) (Q : VK) (u : Value) (s' : Shared) : Prop := ∃ v H', Inv X pins σ H' s' /\ RelV v u /\ Q v H'
def TP (X : Cx) (pins : List (Addr × Obj)) (σ : St) (Q : Bool -> Hp -> Prop) (b : Bool) (s' : Shared) : Prop := ∃ H', Inv X pins σ H' s' /\ Q b H'
def AP (X : Cx) (pins : List (Addr × Obj)) (σ : St) (Q : List V -> Hp -> Prop) (us : List Value) (s' : Shared) : Prop := ∃ vs H', Inv X pins σ H' s' /\ Vals vs us /\ Q vs H'
def SP (X : Cx) (pins : List (Addr × Obj)) (D : Ends) (f : Flow) (s' : Shared) : Prop :=
 match f with
 | .next => ∃ σ' H', Inv X pins σ' H' s' /\ D.nx σ' H'
 | .brk => ∃ σ' H', Inv X pins σ' H' s' /\ D.bk σ' H'
 | .cont => ∃ σ' H', Inv X pins σ' H' s' /\ D.ct σ' H'
 | .ret u => ∃ v σ' H', Inv X pins σ' H' s' /\ RelV v u /\ D.rt v H'
def PE (X : Cx) (e : Expr) (t : TE) : Prop :=
 ∀ (pins : List (Addr × Obj)) (s : Shared) (σ : St) (H : Hp) (Q : VK), Inv X pins σ H s -> t σ H Q -> wpAny (model X.prog X.w) X.A (eval e X.env) (EP X pins σ Q) X.xe s
def PT (X : Cx) (e : Expr) (t : TT) : Prop :=
 ∀ (pins : List (Addr × Obj)) (s : Shared) (σ : St) (H : Hp) (Q : Bool -> Hp -> Prop), Inv X pins σ H s -> t σ H Q -> wpAny (model X.prog X.w) X.A (isTrue e X.env (eval e X.env)) (TP X pins σ Q) X.xe s
def PW (X : Cx) (e : Expr) (t : TT) : Prop :=
 ∀ (whole : Sem Value) (pins : List (Addr × Obj)) (s : Shared) (σ : St) (H : Hp) (Q : Bool -> Hp -> Prop), Inv X pins σ H s -> t σ H Q -> wpAny (model X.prog X.w) X.A (isTrue e X.env whole) (TP X pins σ Q) X.xe s
theorem PW.pt {X : Cx} {e : Expr} {t : TT} (h : PW X e t) : PT X e t := h _
def PA (X : Cx) (es : List Expr) (t : TA) : Prop :=
 ∀ (pos : Pos) (pins : List (Addr × Obj)) (s : Shared) (σ : St) (H : Hp) (Q : List V -> Hp -> Prop), Inv X pins σ H s -> t σ H Q -> wpAny (model X.prog X.w) X.A (spliced (backTo pos (starEach es X.env))) (AP X pins σ Q) X.xe s
def PS (X : Cx) (st : Stmt) (t : TS) : Prop :=
 ∀ (pins : List (Addr × Obj)) (s : Shared) (σ : St) (H : Hp) (D : Ends), Inv X pins σ H s -> t D σ H -> wpAny (model X.prog X.w) X.A (exec st X.env) (SP X pins D) X.xe s
def PSs (X : Cx) (st : List Stmt) (t : TS) : Prop :=
 ∀ (pins : List (Addr × Obj)) (s : Shared) (σ : St) (H : Hp) (D : Ends), Inv X pins σ H s -> t D σ H -> wpAny (model X.prog X.w) X.A (execs st X.env) (SP X pins D) X.xe s
theorem thn {α : Type} {t : Sem α} {Q Q' : α -> Shared -> Prop} {M : Model} {A : Around} {E : Value -> Shared -> Prop} {s : Shared} (h : wpAny M A t Q E s) (hQ : ∀ a s, Q a s -> Q' a s) : wpAny M A t Q' E s := wpAny_mono h hQ fun _ _ x => x
end
section
section
variable {X : Cx}
def tVar (i : Nat) : TE := fun σ H Q => ∃ v, σ[i]? = some (some v) /\ Q v H
def tC (v : V) : TE := fun _ H Q => Q v H
theorem pe_var {i : Nat} {x : Str} {pos : Pos} (hN : X.N[i]? = some x) (hv : Vis X.env.scope x) (hd : (x == ("__debug__" : Str)) = false := by decide) (hcd : (x == ("__classdict__" : Str)) = false := by decide) : PE X (.Name x pos) (tVar i) := by
 intro pins s σ H Q I h
 obtain ⟨v, e, h⟩ := h
 obtain ⟨m, hn, hl⟩ := I.loc
 obtain ⟨u, r, l⟩ := hl i x v hN e hv
 have fin : EP X pins σ Q u s := ⟨v, H, I, r, h⟩
 rcases l with ⟨hk, hm⟩ | ⟨hk, c, hc, hcell⟩
 ·exact wpAny_Name (wpAny_loadName_local I.ok.kind hk hn hm fin) hd
 ·rcases hk with hk | hk
  ·exact wpAny_Name (wpAny_loadName_cell I.ok.kind hk hc hcell fin) hd
  ·exact wpAny_Name (wpAny_loadName_free I.ok.kind hk hc hcell fin hcd) hd
theorem pe_int {i j pos} : PE X (.Constant (.int i) j pos) (tC (.int i)) := fun _ _ _ H _ I h => wpAny_Constant_int ⟨.int i, H, I.tok _, ⟨_, rfl⟩, h⟩
theorem pe_bl {b j pos} : PE X (.Constant (.bool b) j pos) (tC (.bl b)) := fun _ _ _ H _ I h => Constant_bool ⟨.bl b, H, I, rfl, h⟩
theorem pe_non {j pos} : PE X (.Constant .none j pos) (tC .non) := fun _ _ _ H _ I h => Constant_none ⟨.non, H, I, rfl, h⟩
def Gl (X : Cx) (x : Str) : Prop := X.env.kindOf x = some .globalImplicit
theorem ld_glob {E : Value -> Shared -> Prop} {pins : List (Addr × Obj)} {s : Shared} {σ : St} {H : Hp} {x : Str} {u : Value} {pos : Pos} {Q : Value -> Shared -> Prop} (I : Inv X pins σ H s) (hg : Gl X x) (hm : X.mg x = some u) (h : Q u s)
  (hd : (x == ("__debug__" : Str)) = false := by decide) : wpAny (model X.prog X.w) X.A (eval (.Name x pos) X.env) Q E s :=
 Calls.Name_function_global I.ok.kind hg (Calls.loadGlobal_global (by rw [I.ok.glob]; exact I.mod.glob.keeps I.bk) hm h) hd
theorem ld_blt {E : Value -> Shared -> Prop} {pins : List (Addr × Obj)} {s : Shared} {σ : St} {H : Hp} {x : Str} {u : Value} {pos : Pos} {Q : Value -> Shared -> Prop} (I : Inv X pins σ H s) (hg : Gl X x) (hm : X.mg x = none) (hv : bootBuiltins x = some u) (h : Q u s)
  (hn : x ≠ "__name__" := by decide) (hd : (x == ("__debug__" : Str)) = false := by decide) : wpAny (model X.prog X.w) X.A (eval (.Name x pos) X.env) Q E s := by
 obtain ⟨mb, h1, h2⟩ := I.mod.blt
 exact Calls.Name_function_global I.ok.kind hg (Calls.loadGlobal_builtin (by rw [I.ok.glob]; exact I.mod.glob.keeps I.bk) hm (by rw [I.ok.blt]; exact h1.keeps I.bk) ((h2 x hn).trans hv) h) hd
theorem pe_glob {x : Str} {v : V} {u : Value} {pos : Pos} (hg : Gl X x) (hm : X.mg x = some u) (r : RelV v u) (hd : (x == ("__debug__" : Str)) = false := by decide) : PE X (.Name x pos) (tC v) :=
 fun _ _ _ H _ I h => ld_glob I hg hm ⟨v, H, I, r, h⟩ hd
theorem pe_bltn {x : Str} {v : V} {u : Value} {pos : Pos} (hg : Gl X x) (hm : X.mg x = none) (hv : bootBuiltins x = some u) (r : RelV v u) (hn : x ≠ "__name__" := by decide) (hd : (x == ("__debug__" : Str)) = false := by decide) : PE X (.Name x pos) (tC v) :=
 fun _ _ _ H _ I h => ld_blt I hg hm hv ⟨v, H, I, r, h⟩ hn hd
variable {a b : Expr} {ta tb : TE} {pos : Pos}
def tB (t : TE) : TT := fun σ H Q => t σ H fun x H1 => ∃ c, x = .bl c /\ Q c H1
variable {tA tB' : TT} {rest : List Expr}
def tAnd (t u : TT) : TT := fun σ H Q => t σ H fun c H1 => if c = true then u σ H1 Q else Q false H1
def tOr (t u : TT) : TT := fun σ H Q => t σ H fun c H1 => if c = true then Q true H1 else u σ H1 Q
def tNot (t : TT) : TT := fun σ H Q => t σ H fun c H1 => Q (!c) H1
theorem pw_and1 (ha : PT X a tA) : PW X (.BoolOp .And [a] pos) tA := by
 intro wh pins s σ H Q I h
 refine isTrue_and (thn (ha pins s σ H Q I h) fun c s1 e => ?_)
 cases c with
 | true => exact isTrue_and_nil e
 | false => exact e
theorem pw_or1 (ha : PT X a tA) : PW X (.BoolOp .Or [a] pos) tA := by
 intro wh pins s σ H Q I h
 refine isTrue_or (thn (ha pins s σ H Q I h) fun c s1 e => ?_)
 cases c with
 | false => exact isTrue_or_nil e
 | true => exact e
theorem pw_and (ha : PT X a tA) (hb : PW X (.BoolOp .And (b :: rest) pos) tB') : PW X (.BoolOp .And (a :: b :: rest) pos) (tAnd tA tB') := by
 intro wh pins s σ H Q I h
 refine isTrue_and (thn (ha pins s σ H _ I h) fun c s1 hpat => ?_)
 obtain ⟨H1, I1, q1⟩ := hpat
 cases c with
 | true => exact hb wh pins s1 σ H1 Q I1 q1
 | false => exact ⟨H1, I1, q1⟩
theorem pw_or (ha : PT X a tA) (hb : PW X (.BoolOp .Or (b :: rest) pos) tB') : PW X (.BoolOp .Or (a :: b :: rest) pos) (tOr tA tB') := by
 intro wh pins s σ H Q I h
 refine isTrue_or (thn (ha pins s σ H _ I h) fun c s1 hpat => ?_)
 obtain ⟨H1, I1, q1⟩ := hpat
 cases c with
 | true => exact ⟨H1, I1, q1⟩
 | false => exact hb wh pins s1 σ H1 Q I1 q1
theorem pt_not (ha : PT X a tA) : PT X (.UnaryOp .Not a pos) (tNot tA) := by
 intro pins s σ H Q I h
 exact isTrue_not (ha pins s σ H (fun c H1 => Q (!c) H1) I h)
def tAndV (ta tb : TE) : TE := fun σ H Q => ta σ H fun x H1 => ∃ c, x = .bl c /\ if c = true then tb σ H1 Q else Q (.bl false) H1
def tNotV (ta : TE) : TE := fun σ H Q => ta σ H fun x H1 => ∃ c, x = .bl c /\ Q (.bl (!c)) H1
theorem pe_one {op} {t : TE} (h : PE X a t) : PE X (.BoolOp op [a] pos) t := fun pins s σ H Q I hw => BoolOp_one (h pins s σ H Q I hw)
theorem pe_and (ha : PE X a ta) (hb : PE X (.BoolOp .And (b :: rest) pos) tb) : PE X (.BoolOp .And (a :: b :: rest) pos) (tAndV ta tb) := by
 intro pins s σ H Q I h
 refine BoolOp_and (thn (ha pins s σ H _ I h) fun v s1 hpat => ?_)
 obtain ⟨x, H1, I1, r1, q1⟩ := hpat
 obtain ⟨c, rfl, q1⟩ := q1
 cases r1
 refine wpAny_truthy_bool ?_
 cases c with
 | true => exact hb pins s1 σ H1 Q I1 q1
 | false => exact ⟨.bl false, H1, I1, rfl, q1⟩
theorem pe_not (ha : PE X a ta) : PE X (.UnaryOp .Not a pos) (tNotV ta) := by
 intro pins s σ H Q I h
 refine UnaryOp_ (thn (ha pins s σ H _ I h) fun v s1 hpat => ?_)
 obtain ⟨x, H1, I1, r1, q1⟩ := hpat
 obtain ⟨c, rfl, q1⟩ := q1
 cases r1
 exact not_of (wpAny_truthy_bool ⟨.bl (!c), H1, I1, rfl, q1⟩)
end
end
section
def SqL (K : W.Frag) (H : Hp) (a : Addr) (xs : List V) : Prop :=
 Rd H a (.lst xs) \/
  ∃ (o : Obj) (its : Array Value) (n : Nat), K.lookup a = some o /\ o.cls = .type "list" /\ o.dict = none /\ o.data = .seq its n /\ its.size <= sizeLine /\ Vals xs its.toList
def SqT (K : W.Frag) (H : Hp) (a : Addr) (xs : List V) : Prop :=
 Rd H a (.tup xs) \/
  ∃ (o : Obj) (its : Array Value) (n : Nat), K.lookup a = some o /\ o.cls = .type "tuple" /\ o.data = .seq its n /\ its.size <= sizeLine /\ Vals xs its.toList
noncomputable def absV : Value -> Option V
 | .none => some .non
 | .bool b => some (.bl b)
 | .int i _ => some (.int i)
 | .str x _ => some (.str x)
 | .bytes b _ => some (.byt b)
 | .float b _ => some (.flt b)
 | .ref a => some (.ref a)
 | .type n => some (.ty n)
 | _ => none
theorem RelV.abs {x : V} {u : Value} (r : RelV x u) : absV u = some x := by
 cases x with
 | non => cases r; rfl
 | bl _ => cases r; rfl
 | int _ => obtain ⟨t, rfl⟩ := r; rfl
 | str _ => obtain ⟨t, rfl⟩ := r; rfl
 | byt _ => obtain ⟨t, rfl⟩ := r; rfl
 | flt _ => obtain ⟨t, rfl⟩ := r; rfl
 | ref _ => cases r; rfl
 | ty _ => cases r; rfl
theorem RelV.inj {x y : V} {u : Value} (r : RelV x u) (q : RelV y u) : x = y := Option.some.inj (r.abs.symm.trans q.abs)
theorem Vals.inj : ∀ {xs ys : List V} {us : List Value}, Vals xs us -> Vals ys us -> xs = ys
 | _, _, _, .nil, .nil => rfl
 | _, _, _, .cons r t, .cons r' t' => by rw [r.inj r', Vals.inj t t']
section
variable {X : Cx} {pins : List (Addr × Obj)} {σ : St} {H : Hp} {s : Shared} {a : Addr} {xs ys : List V}
theorem SqL.of {K : W.Frag} (h : H a = some (.lst xs)) : SqL K H a xs := .inl (.inl h)
theorem SqT.of {K : W.Frag} (h : H a = some (.tup xs)) : SqT K H a xs := .inl (.inl h)
theorem Inv.list (I : Inv X pins σ H s) (h : SqL X.K H a xs) : ∃ its : List Value, Vals xs its /\ PlainL s.heap a its.toArray /\ xs.length <= sizeLine := by
 rcases h with h | ⟨o, its, n, hk, hc, hd, hs, hz, r⟩
 ·obtain ⟨z, its, n, r, e⟩ := h.ok I.hok
  exact ⟨its, r, ⟨_, n, e, rfl, rfl, rfl⟩, z⟩
 ·refine ⟨its.toList, r, ⟨o, n, I.kIn a o hk, hc, hd, by simpa using hs⟩, ?_⟩
  have e := r.length
  simp only [Array.length_toList] at e
  omega
theorem Inv.tuple (I : Inv X pins σ H s) (h : SqT X.K H a xs) : ∃ its : List Value, Vals xs its /\ IsTup s.heap a its.toArray /\ xs.length <= sizeLine := by
 rcases h with h | ⟨o, its, n, hk, hc, hs, hz, r⟩
 ·obtain ⟨z, its, r, p⟩ := h.ok I.hok
  exact ⟨its, r, p, z⟩
 ·refine ⟨its.toList, r, ⟨o, I.kIn a o hk, hc, n, by simpa using hs⟩, ?_⟩
  have e := r.length
  simp only [Array.length_toList] at e
  omega
theorem Inv.list_inj (I : Inv X pins σ H s) (h : SqL X.K H a xs) (h' : SqL X.K H a ys) : xs = ys := by
 obtain ⟨its, r, ⟨o, n, e, _, _, d⟩, _⟩ := I.list h
 obtain ⟨its', r', ⟨o', n', e', _, _, d'⟩, _⟩ := I.list h'
 rw [e] at e'; cases e'
 rw [d] at d'
 injection d' with d1 _
 have : its = its' := by simpa using congrArg Array.toList d1
 subst this
 exact r.inj r'
theorem Inv.tuple_inj (I : Inv X pins σ H s) (h : SqT X.K H a xs) (h' : SqT X.K H a ys) : xs = ys := by
 obtain ⟨its, r, ⟨o, e, _, n, d⟩, _⟩ := I.tuple h
 obtain ⟨its', r', ⟨o', e', _, n', d'⟩, _⟩ := I.tuple h'
 rw [e] at e'; cases e'
 rw [d] at d'
 injection d' with d1 _
 have : its = its' := by simpa using congrArg Array.toList d1
 subst this
 exact r.inj r'
end
noncomputable abbrev Cx.wish (X : Cx) (E : Value -> Shared -> Prop) : Cx := { X with xe := E }
noncomputable abbrev Cx.nox (X : Cx) : Cx := X.wish fun _ _ => False
theorem Cx.Ok.wish {X : Cx} (ok : X.Ok) (E : Value -> Shared -> Prop) : (X.wish E).Ok :=
 ⟨ok.mod, ok.kind, ok.glob, ok.blt, ok.above, ok.inj, ok.has, ok.cab, ok.hd, ok.frames, ok.stk, ok.exf, ok.bs, ok.bsz, ok.noex, ok.exfs, ok.funs, ok.frf⟩
theorem Cx.Ok.unwish {X : Cx} {E : Value -> Shared -> Prop} (ok : (X.wish E).Ok) : X.Ok :=
 ⟨ok.mod, ok.kind, ok.glob, ok.blt, ok.above, ok.inj, ok.has, ok.cab, ok.hd, ok.frames, ok.stk, ok.exf, ok.bs, ok.bsz, ok.noex, ok.exfs, ok.funs, ok.frf⟩
section
variable {X : Cx} {pins : List (Addr × Obj)} {σ : St} {H : Hp} {s : Shared} {E : Value -> Shared -> Prop}
theorem Inv.wish (I : Inv X pins σ H s) (E : Value -> Shared -> Prop) : Inv (X.wish E) pins σ H s := ⟨I.ok.wish E, I.os, I.bare, I.base, I.loc, I.cell, I.free, I.freeC, I.pin, I.hok, I.len⟩
theorem Inv.unwish (I : Inv (X.wish E) pins σ H s) : Inv X pins σ H s := ⟨I.ok.unwish, I.os, I.bare, I.base, I.loc, I.cell, I.free, I.freeC, I.pin, I.hok, I.len⟩
theorem SP.unwish {D : Ends} {f : Flow} {s' : Shared} (h : SP (X.wish E) pins D f s') : SP X pins D f s' := by
 cases f with
 | next => obtain ⟨σ', H', I, q⟩ := h; exact ⟨σ', H', I.unwish, q⟩
 | brk => obtain ⟨σ', H', I, q⟩ := h; exact ⟨σ', H', I.unwish, q⟩
 | cont => obtain ⟨σ', H', I, q⟩ := h; exact ⟨σ', H', I.unwish, q⟩
 | ret u => obtain ⟨v, σ', H', I, r, q⟩ := h; exact ⟨v, σ', H', I.unwish, r, q⟩
theorem PSs.nox {st : List Stmt} {t : TS} (h : PSs X.nox st t) : PSs X st t := fun pins s σ H D I hw =>
 wpAny_mono (h pins s σ H D (I.wish _) hw) (fun _ _ q => q.unwish) fun _ _ z => False.elim z
end
section
variable {X : Cx} {st : Stmt} {rest : List Stmt} {t u : TS} {e : Expr} {te : TE} {pos : Pos}
def tNext : TS := fun D σ H => D.nx σ H
def tSeq (t u : TS) : TS := fun D σ H => t { D with nx := u D } σ H
theorem pss_nil : PSs X [] tNext := fun _ _ σ H _ I h => wpAny_execs_nil ⟨σ, H, I, h⟩
theorem pss_cons (h1 : PS X st t) (h2 : PSs X rest u) : PSs X (st :: rest) (tSeq t u) := by
 intro pins s σ H D I h
 refine wpAny_execs_cons (thn (h1 pins s σ H { D with nx := u D } I h) fun f s1 q => ?_)
 cases f with
 | next =>
  obtain ⟨σ', H', I', q⟩ := q
  exact h2 pins s1 σ' H' D I' q
 | ret v => exact q
 | brk => exact q
 | cont => exact q
theorem pss_one (h1 : PS X st t) : PSs X [st] t := by
 intro pins s σ H D I h
 refine wpAny_execs_cons (thn (h1 pins s σ H D I h) fun f s1 q => ?_)
 cases f with
 | next => exact wpAny_execs_nil q
 | ret v => exact q
 | brk => exact q
 | cont => exact q
theorem Inv.quiet {pins : List (Addr × Obj)} {σ : St} {H : Hp} {s : Shared} (I : Inv X pins σ H s) : interactive X.env = false := by simp [interactive, I.ok.kind]
def tDrop (te : TE) : TS := fun D σ H => te σ H fun _ H1 => D.nx σ H1
theorem ps_expr (he : PE X e te) (hs : swapsWith e none pos.line X.env = pure false := by rfl) : PS X (.Expr e pos) (tDrop te) := by
 intro pins s σ H D I h
 exact wpAny_Expr_any (thn (he pins s σ H _ I h) fun v s1 ⟨x, H1, I1, r1, q1⟩ => ⟨σ, H1, I1, q1⟩) I.quiet hs
def tRet (te : TE) : TS := fun D σ H => te σ H D.rt
theorem ps_ret (he : PE X e te) : PS X (.Return (some e) pos) (tRet te) := by
 intro pins s σ H D I h
 exact wpAny_Return_some (thn (he pins s σ H _ I h) fun v s1 ⟨x, H1, I1, r1, q1⟩ => ⟨x, σ, H1, I1, r1, q1⟩)
def tIfS (c : TT) (t u : TS) : TS := fun D σ H => c σ H fun b H1 => if b = true then t D σ H1 else u D σ H1
theorem ps_if {c : Expr} {a b : List Stmt} {tc : TT} (hc : PT X c tc) (ha : PSs X a t) (hb : PSs X b u) : PS X (.If c a b pos) (tIfS tc t u) := by
 intro pins s σ H D I h
 refine wpAny_If (thn (hc pins s σ H _ I h) fun d s1 hpat => ?_)
 obtain ⟨H1, I1, q1⟩ := hpat
 cases d with
 | true => exact ha pins s1 σ H1 D I1 q1
 | false => exact hb pins s1 σ H1 D I1 q1
def tNever : TS := fun _ _ _ => False
theorem ps_never : PS X st tNever := fun _ _ _ _ _ _ h => h.elim
end
noncomputable abbrev TG := V -> St -> Hp -> (St -> Hp -> Prop) -> Prop
noncomputable abbrev TGs := List V -> St -> Hp -> (St -> Hp -> Prop) -> Prop
def PG (X : Cx) (target : Expr) (t : TG) : Prop :=
 ∀ (pins : List (Addr × Obj)) (s : Shared) (σ : St) (H : Hp) (v : V) (u : Value) (Q : St -> Hp -> Prop), Inv X pins σ H s -> RelV v u -> t v σ H Q ->
  wpAny (model X.prog X.w) X.A (assign target X.env u) (fun _ s' => ∃ σ' H', Inv X pins σ' H' s' /\ Q σ' H') X.xe s
def PGs (X : Cx) (ts : List Expr) (t : TGs) : Prop :=
 ∀ (pins : List (Addr × Obj)) (s : Shared) (σ : St) (H : Hp) (vs : List V) (us : List Value) (Q : St -> Hp -> Prop), Inv X pins σ H s -> Vals vs us -> t vs σ H Q ->
  wpAny (model X.prog X.w) X.A (assignInOrder ((assignEach ts X.env).map (·.2)) us) (fun _ s' => ∃ σ' H', Inv X pins σ' H' s' /\ Q σ' H') X.xe s
noncomputable abbrev TSet := V -> V -> V -> Hp -> (Hp -> Prop) -> Prop
def PSet (X : Cx) (t : TSet) : Prop :=
 ∀ (pins : List (Addr × Obj)) (s : Shared) (σ : St) (H : Hp) (o i v : V) (ov iv u : Value) (Q : Hp -> Prop), Inv X pins σ H s -> RelV o ov -> RelV i iv -> RelV v u -> t o i v H Q ->
  wpAny (model X.prog X.w) X.A (setItem ov iv u) (fun _ s' => ∃ H', Inv X pins σ H' s' /\ Q H') X.xe s
section
variable {X : Cx} {pos : Pos}
def gName (i : Nat) : TG := fun v σ H Q => Q (σ.set i (some v)) H
theorem pg_name {i : Nat} {x : Str} (hN : X.N.Nodup) (hi : X.N[i]? = some x) (hx : Loc X.env.scope x) (hf : X.fn x = true \/ X.env.scope.names.lookup x = some .local := by first | exact .inl rfl | exact .inr rfl | assumption) : PG X (.Name x pos) (gName i) := by
 intro pins s σ H v u Q I r h
 exact wpAny_assign_Name (store_ok I hN hi hx r (fun s' I' => ⟨_, H, I', h⟩) hf)
def gNil : TGs := fun vs σ H Q => vs = [] /\ Q σ H
def gCons (t : TG) (u : TGs) : TGs := fun vs σ H Q => ∃ v r, vs = v :: r /\ t v σ H fun σ' H' => u r σ' H' Q
theorem pgs_nil : PGs X [] gNil := by
 intro pins s σ H vs us Q I r h
 obtain ⟨e, h⟩ := h
 subst e
 cases r
 exact assignInOrder_nil ⟨σ, H, I, h⟩
theorem pgs_cons {e : Expr} {es : List Expr} {t : TG} {u : TGs} (h1 : PG X e t) (h2 : PGs X es u)
  (hs : (assignEach (e :: es) X.env).map (·.2) = assign e X.env :: (assignEach es X.env).map (·.2) := by rfl) : PGs X (e :: es) (gCons t u) := by
 intro pins s σ H vs us Q I r h
 obtain ⟨v, vr, e1, h⟩ := h
 subst e1
 cases r with
 | cons r rr =>
  rw [hs]
  refine assignInOrder_cons (thn (h1 pins s σ H _ _ _ I r h) fun _ s1 hpat => ?_)
  obtain ⟨σ1, H1, I1, q1⟩ := hpat
  exact h2 pins s1 σ1 H1 _ _ Q I1 rr q1
def gTup (K : W.Frag) (n : Nat) (t : TGs) : TG := fun v σ H Q => ∃ a xs, v = .ref a /\ SqT K H a xs /\ xs.length = n /\ t xs σ H Q
theorem pg_tup {es : List Expr} {k : Nat} {t : TGs} {n : Nat} (hc : X.calm = true) (h : PGs X es t)
  (hn : (assignEach es X.env).length = n := by rfl) (hst : (assignEach es X.env).findIdx? (·.1) = none := by rfl) : PG X (.Tuple es k pos) (gTup X.K n t) := by
 intro pins s σ H v u Q I r hw
 obtain ⟨a, xs, e1, hq, hl, hw⟩ := hw
 subst e1
 cases r
 obtain ⟨its, rv, ht, hz⟩ := I.tuple hq
 refine assign_Tuple_tuple (I.ok.hd hc) ht (by simp [hn, <- hl, rv.length]) hst fun h' hx => ?_
 have I1 : Inv X pins σ H { s with heap := h' } := I.kept (t' := s.toks) fun b o e => hx b o (Nat.ne_of_lt (Heap.lt_size e)) e
 exact h pins _ σ H xs _ Q I1 (by simpa using rv) hw
def gSub (to ti : TE) (t : TSet) : TG := fun v σ H Q => to σ H fun o H1 => ti σ H1 fun i H2 => t o i v H2 fun H3 => Q σ H3
theorem pg_sub {o i : Expr} {to ti : TE} {t : TSet} (ho : PE X o to) (hi : PE X i ti) (hs : PSet X t)
  (ha : ∀ v, assign (.Subscript o i pos) X.env v = (do
   let ov ← holding [v] (eval o X.env)
   let iv ← holding [v, ov] (eval i X.env)
   standAt pos
   holding [v, ov, iv] (setItem ov iv v)
   release [v, ov, iv] []) := by intro _; rfl) : PG X (.Subscript o i pos) (gSub to ti t) := by
 intro pins s σ H v u Q I r h
 rw [ha]
 refine wpAny_bind (wpAny_holding (thn (ho pins s σ H _ I h) fun ov s1 hpat => ?_))
 obtain ⟨x, H1, I1, r1, q1⟩ := hpat
 refine wpAny_bind (wpAny_holding (thn (hi pins s1 σ H1 _ I1 q1) fun iv s2 hpat => ?_))
 obtain ⟨y, H2, I2, r2, q2⟩ := hpat
 refine wpAny_bind (wpAny_standAt (wpAny_bind (wpAny_holding (thn (hs pins s2 σ H2 x y v ov iv u _ I2 r1 r2 r q2) fun _ s3 hpat => ?_))))
 obtain ⟨H3, I3, q3⟩ := hpat
 exact wpAny_release ⟨σ, H3, I3, q3⟩
def tAsg (te : TE) (g : TG) : TS := fun D σ H => te σ H fun x H1 => g x σ H1 D.nx
theorem ps_asg {tg e : Expr} {te : TE} {g : TG} (he : PE X e te) (hg : PG X tg g) (hs : swapsWithSole [tg] e pos.line X.env = pure false := by rfl) (hw : swappedStores [tg] e X.env = pure none := by rfl)
  (h1 : (assignEach [tg] X.env).map (·.2) = [assign tg X.env] := by rfl) : PS X (.Assign [tg] e pos) (tAsg te g) := by
 intro pins s σ H D I h
 refine wpAny_Assign_stores (thn (he pins s σ H _ I h) fun v s1 hpat => ?_) hs hw
 obtain ⟨x, H1, I1, r1, q1⟩ := hpat
 rw [h1]
 exact thn (hg pins s1 σ H1 x v _ I1 r1 q1) fun _ s2 q => q
theorem ps_set {i : Nat} {x : Str} {e : Expr} {te : TE} {pos' : Pos} (hN : X.N.Nodup) (hi : X.N[i]? = some x) (hx : Loc X.env.scope x) (he : PE X e te) (hs : swapsWith e (some (.Name x pos')) pos.line X.env = pure false := by rfl) (hf : X.fn x = true \/ X.env.scope.names.lookup x = some .local := by first | exact .inl rfl | exact .inr rfl | assumption) :
  PS X (.Assign [.Name x pos'] e pos) (tAsg te (gName i)) := by
 intro pins s σ H D I h
 refine wpAny_Assign_Name (thn (he pins s σ H _ I h) fun v s1 hpat => ?_) hs
 obtain ⟨y, H1, I1, r1, q1⟩ := hpat
 exact store_ok I1 hN hi hx r1 (fun s2 I2 => ⟨_, H1, I2, q1⟩) hf
end
section
variable {X : Cx} {pos : Pos}
def tWhile (c : TT) (tb : TS) : TS := fun D σ H => ∃ W : Nat -> St -> Hp -> Prop, (∃ m, W m σ H) /\ ∀ m σ H, W m σ H ->
 c σ H fun b H1 => if b = true then ∃ N : St -> Hp -> Prop, (∀ σ' H', N σ' H' -> ∃ m', m' < m /\ W m' σ' H') /\ tb { D with nx := N, ct := N, bk := D.nx } σ H1 else D.nx σ H1
theorem ps_while {c : Expr} {body : List Stmt} {tc : TT} {tb : TS} (hp : PassesOwn (model X.prog X.w) X.A X.env X.xe) (hc : PT X c tc) (hb : PSs X body tb) : PS X (.While c body [] pos) (tWhile tc tb) := by
 intro pins s σ H D I h
 obtain ⟨W, ⟨m0, w0⟩, turn⟩ := h
 refine wpAny_While (codeAny_whileLoop (fun n s' => ∃ σ' H', Inv X pins σ' H' s' /\ W n σ' H') ?_ m0 ⟨σ, H, I, w0⟩)
 rintro n s1 ⟨σ1, H1, I1, w1⟩
 refine wpAny_passesOwn hp (thn (hc pins s1 σ1 H1 _ I1 (turn n σ1 H1 w1)) fun b s2 hpat => ?_)
 obtain ⟨H2, I2, q2⟩ := hpat
 cases b with
 | true =>
  obtain ⟨N, hN, q2⟩ := q2
  rw [if_pos rfl]
  refine wpAny_passesOwn hp (thn (hb pins s2 σ1 H2 _ I2 q2) fun f s3 q3 => ?_)
  cases f with
  | next =>
   obtain ⟨σ3, H3, I3, n3⟩ := q3
   obtain ⟨m', hm, w3⟩ := hN σ3 H3 n3
   exact ⟨m', hm, σ3, H3, I3, w3⟩
  | cont =>
   obtain ⟨σ3, H3, I3, n3⟩ := q3
   obtain ⟨m', hm, w3⟩ := hN σ3 H3 n3
   exact ⟨m', hm, σ3, H3, I3, w3⟩
  | brk => exact q3
  | ret v => exact q3
 | false =>
  rw [if_neg Bool.false_ne_true]
  exact wpAny_execs_nil ⟨σ1, H2, I2, q2⟩
end
structure It where
 go : Nat -> Hp -> Prop
 yld : Nat -> Hp -> V -> Hp -> Prop
 stop : Nat -> Hp -> Prop
def FpOk (X : Cx) (pins : List (Addr × Obj)) (H : Hp) (b : Addr) : Prop :=
 H b = none /\ b ≠ X.env.locals /\ b ∉ X.fs /\ (b ∈ X.ex \/ X.s₀.heap.objs.size <= b) /\ (∀ x c, X.env.cells.lookup x = some c -> c ≠ b) /\ ∀ p ∈ X.pn ++ pins, p.1 ≠ b
theorem Inv.fpOk {X : Cx} {pins : List (Addr × Obj)} {σ : St} {H H' : Hp} {s : Shared} {b : Addr} (I : Inv X pins σ H s) (hb : s.heap.objs.size <= b) (hn : H' b = none) : FpOk X pins H' b := by
 refine ⟨hn, Nat.ne_of_gt (Nat.lt_of_lt_of_le I.lt hb), I.nofs hb, .inr (Nat.le_trans I.sz hb), fun x c e z => ?_, fun p hp z => ?_⟩
 ·obtain ⟨v, q⟩ := I.cell x c e
  exact absurd (Nat.lt_of_lt_of_le q.lt (by rw [z]; exact hb)) (Nat.lt_irrefl _)
 ·exact absurd (Nat.lt_of_lt_of_le (Heap.lt_size (I.pin p hp).1) (by rw [z]; exact hb)) (Nat.lt_irrefl _)
structure TurnC (cx : Cx -> Prop) (P : Program) (w : World) (K : W.Frag) (tg : Expr) (J : It) (fp : List Addr) (it : Addr) (tn : Nat -> Heap -> Prop) : Prop where
 mem : it ∈ fp
 obj : ∀ i h, tn i h -> ∀ b ∈ fp, ∃ o, h.get? b = some o /\ ∀ v, o.data ≠ .cell v
 keep : ∀ i h h', tn i h -> (∀ b ∈ fp, ∀ o, h.get? b = some o -> h'.get? b = some o) -> tn i h'
 item : ∀ (X : Cx), X.prog = P -> X.w = w -> X.K = K -> cx X -> ∀ (i : Nat) (pins : List (Addr × Obj)) (s : Shared) (σ : St) (H : Hp) (E : Value -> Shared -> Prop), Inv X pins σ H s -> (∀ b ∈ fp, FpOk X pins H b) -> tn i s.heap -> J.go i H ->
  wpAny (model P w) X.A (pyNext (.ref it)) (fun r s1 => ∃ u, r = some u /\
   wpAny (model P w) X.A (letOwnedTupleGo tg (.ref it) u) (fun _ s2 => ∃ x H', Inv X pins σ H' s2 /\ RelV x u /\ J.yld i H x H' /\ tn (i + 1) s2.heap /\ ∀ b ∈ fp, H' b = none) E s1) E s
 done : ∀ (X : Cx), X.prog = P -> X.w = w -> X.K = K -> cx X -> ∀ (i : Nat) (pins : List (Addr × Obj)) (s : Shared) (σ : St) (H : Hp) (E : Value -> Shared -> Prop), Inv X pins σ H s -> (∀ b ∈ fp, FpOk X pins H b) -> tn i s.heap -> J.stop i H ->
  wpAny (model P w) X.A (pyNext (.ref it)) (fun r s1 => r = none /\ Inv X pins σ H s1) E s
 self : ∀ (A : Around) (i : Nat) (s : Shared) (Q : Value -> Shared -> Prop) (E : Value -> Shared -> Prop), tn i s.heap -> Q (.ref it) s -> wpAny (model P w) A (pyIter (.ref it)) Q E s
abbrev Turn (P : Program) (w : World) (K : W.Frag) (tg : Expr) (J : It) (fp : List Addr) (it : Addr) (tn : Nat -> Heap -> Prop) : Prop := TurnC (fun X => X.calm = true) P w K tg J fp it tn
noncomputable abbrev TI := St -> Hp -> (It -> Hp -> Prop) -> Prop
def PIE (X : Cx) (pins : List (Addr × Obj)) (σ : St) (tg : Expr) (R : It -> Hp -> Prop) (itv : Value) (s2 : Shared) : Prop :=
 ∃ (it : Addr) (fp : List Addr) (tn : Nat -> Heap -> Prop) (J : It) (H' : Hp), itv = .ref it /\ Inv X pins σ H' s2 /\ Turn X.prog X.w X.K tg J fp it tn /\ tn 0 s2.heap /\ (∀ b ∈ fp, FpOk X pins H' b) /\ R J H'
def PI (X : Cx) (tg iter : Expr) (wi : TI) : Prop :=
 ∀ (pins : List (Addr × Obj)) (s : Shared) (σ : St) (H : Hp) (R : It -> Hp -> Prop), Inv X pins σ H s -> wi σ H R ->
  wpAny (model X.prog X.w) X.A (eval iter X.env) (fun v s1 => wpAny (model X.prog X.w) X.A (pyIter v) (PIE X pins σ tg R) X.xe s1) X.xe s
theorem go_of {M : Model} {A : Around} {E : Value -> Shared -> Prop} {s : Shared} {tg : Expr} {it : Addr} {u : Value} {o : Obj} {n : String} {vs : Array Value} {Q : Unit -> Shared -> Prop} (ho : s.heap.get? it = some o) (hc : o.cls = .type n) (hd : o.data = .fields vs)
  (hn : ["enumerate", "zip", "dict_itemiterator", "dict_reverseitemiterator", "odict_iterator", "itertools.zip_longest", "itertools.pairwise"].contains n = false) (hQ : Q () s) : wpAny M A (letOwnedTupleGo tg (.ref it) u) Q E s := by
 unfold letOwnedTupleGo
 cases tg <;> first
  | exact wpAny_pure hQ
  | (cases u <;> first
    | exact wpAny_pure hQ
    | (refine wpAny_bind (wpAny_load ho ?_)
       rw [hc, hd]
       show wpAny M A (if (["enumerate", "zip", "dict_itemiterator", "dict_reverseitemiterator", "odict_iterator", "itertools.zip_longest", "itertools.pairwise"].contains n && vs[0]? == some (rawInt _)) = true then _ else _) Q E s
       rw [if_neg (by intro h; rw [hn, Bool.false_and] at h; cases h)]
       exact wpAny_pure hQ))
noncomputable def Itl (K : W.Frag) (a : Addr) : It :=
 ⟨fun i H => ∃ xs x, SqL K H a xs /\ xs[i]? = some x, fun i H x H' => H' = H /\ ∀ xs, SqL K H a xs -> xs[i]? = some x, fun i H => ∃ xs, SqL K H a xs /\ xs.length <= i⟩
noncomputable def Itr (lo : Int) (n : Nat) : It := ⟨fun i _ => i < n, fun i H x H' => H' = H /\ x = .int (lo + i), fun i _ => n <= i⟩
theorem turn_list {P : Program} {w : World} {K : W.Frag} {tg : Expr} (a it : Addr) : Turn P w K tg (Itl K a) [it] it (fun i h => h.IsListIter it a i) where
 mem := by simp
 obj := fun i h st b hb => by
  have e : b = it := by simpa using hb
  subst e
  obtain ⟨o, e, c, d⟩ := st
  exact ⟨o, e, fun v z => by rw [d] at z; cases z⟩
 keep := fun i h h' st k => st.at fun o e => k it (by simp) o e
 item := by
  intro X hP hw hK hc i pins s σ H E I hf st hg
  subst hP hw hK
  obtain ⟨xs, x, hq, hx⟩ := hg
  obtain ⟨its, rv, p, hz⟩ := I.list hq
  obtain ⟨u, hu, ru⟩ := rv.get hx
  obtain ⟨f0, f1, f2, f3, f4, f5⟩ := hf it (by simp)
  refine wpAny_pyNext_list_item st p.isList (x := u) (by simpa using hu) fun h' st' sb => ?_
  have I1 : Inv X pins σ H { s with heap := h' } := I.turned (t' := s.toks) (fun b o hb e => (sb.2 b hb).trans e) f0 f1 f3 f4 f5
  obtain ⟨o, e, c, d⟩ := id st'
  exact ⟨u, rfl, go_of (s := { s with heap := h' }) e c d (by decide) ⟨x, H, I1, ru, ⟨rfl, fun ys hy => by rw [I.list_inj hy hq]; exact hx⟩, st', fun b hb => (hf b hb).1⟩⟩
 done := by
  intro X hP hw hK hc i pins s σ H E I hf st hg
  subst hP hw hK
  obtain ⟨xs, hq, hx⟩ := hg
  obtain ⟨its, rv, p, hz⟩ := I.list hq
  obtain ⟨f0, f1, f2, f3, f4, f5⟩ := hf it (by simp)
  have hl := rv.length
  exact wpAny_pyNext_list_end (I.ok.hd hc) st p.isList (by simp; omega) fun h' eb => ⟨rfl, I.turned (t' := s.toks) (fun b o hb e => eb b o hb e) f0 f1 f3 f4 f5⟩
 self := fun _ _ _ _ _ st h => wpAny_pyIter_listiter st h
theorem turn_range {P : Program} {w : World} {K : PySem.W.Frag} {tg : Expr} (it : Addr) (lo : Int) (n : Nat) : Turn P w K tg (Itr lo n) [it] it (fun i h => IsRangeIter h it (lo + (i : Nat) * 1) ((n : Int) - (i : Nat)) 1) where
 mem := by simp
 obj := fun i h st b hb => by
  have e : b = it := by simpa using hb
  subst e
  exact ⟨_, st, fun v z => by
   have z' : Data.fields _ = Data.cell v := z
   cases z'⟩
 keep := fun i h h' st k => k it (by simp) _ st
 item := by
  intro X hP hw hK hc i pins s σ H E I hf st hg
  subst hP hw hK
  obtain ⟨f0, f1, f2, f3, f4, f5⟩ := hf it (by simp)
  have W := Walks.range (prog := X.prog) (w := X.w) (I.ok.hd hc) it lo 1 n
  refine W.item i s _ _ hg st fun v h' tk hv st' kk => ?_
  obtain ⟨t, rfl⟩ := hv
  have I1 : Inv X pins σ H { s with heap := h', toks := tk } := I.turned (fun b o hb e => kk b o (by simpa using hb) e) f0 f1 f3 f4 f5
  refine ⟨_, rfl, go_of (s := { s with heap := h', toks := tk }) (n := "range_iterator") st' rfl rfl (by decide) ⟨.int (lo + i), H, I1, ⟨t, ?_⟩, ⟨rfl, rfl⟩, st', fun b hb => (hf b hb).1⟩⟩
  rw [Int.mul_one]
 done := by
  intro X hP hw hK hc i pins s σ H E I hf st hg
  subst hP hw hK
  obtain ⟨f0, f1, f2, f3, f4, f5⟩ := hf it (by simp)
  exact wpAny_pyNext_range_end (I.ok.hd hc) st (by have : n <= i := hg; omega) fun h' eb => ⟨rfl, I.turned (t' := s.toks) (fun b o hb e => eb b o hb e) f0 f1 f3 f4 f5⟩
 self := fun _ _ _ _ _ st h => wpAny_pyIter_rangeiter st h
end
section
section
variable {X : Cx} {tg : Expr}
def iList (K : W.Frag) (tl : TE) : TI := fun σ H R => tl σ H fun x H1 => ∃ a, x = .ref a /\ (∃ xs, SqL K H1 a xs) /\ R (Itl K a) H1
theorem pi_list {l : Expr} {tl : TE} (hl : PE X l tl) : PI X tg l (iList X.K tl) := by
 intro pins s σ H R I h
 refine thn (hl pins s σ H _ I h) fun v s1 hpat => ?_
 obtain ⟨x, H1, I1, r1, q1⟩ := hpat
 obtain ⟨a, e, ⟨xs, hq⟩, q⟩ := q1
 subst e
 cases r1
 obtain ⟨its, rv, p, hz⟩ := I1.list hq
 refine wpAny_pyIter_list p.isList ?_
 refine ⟨s1.heap.objs.size, [s1.heap.objs.size], _, _, H1, rfl, I1.kept (t' := s1.toks) fun b o e => Heap.get?_push_of_some _ e, turn_list a _, ⟨_, Heap.get?_push_size _ rfl, rfl, rfl⟩, fun b hb => ?_, q⟩
 have e : b = s1.heap.objs.size := by simpa using hb
 subst e
 exact I1.fpOk (Nat.le_refl _) (I1.hok.fresh (Nat.le_refl _))
theorem range_it {pins : List (Addr × Obj)} {σ : St} {H : Hp} {s : Shared} {R : It -> Hp -> Prop} {E : Value -> Shared -> Prop} {lo hi : Int} {t u v : Tok} {tk : Nat} (I : Inv X pins σ H s) (h1 : -(2 ^ 62) <= lo) (h2 : lo < 2 ^ 62) (h3 : -(2 ^ 62) <= hi) (h4 : hi < 2 ^ 62)
  (q : R (Itr lo (hi - lo).toNat) H) : wpAny (model X.prog X.w) X.A (pyIter (.ref s.heap.objs.size)) (PIE X pins σ tg R) E { s with heap := s.heap.push { cls := .type "range", data := .fields #[.int lo t, .int hi u, .int 1 v] }, toks := tk } := by
 refine wpAny_pyIter_range (IsRange.new ..) (small_one h1 h2 h3 h4) ?_
 have I1 : Inv X pins σ H { s with heap := s.heap.push { cls := .type "range", data := .fields #[.int lo t, .int hi u, .int 1 v] }, toks := tk } := I.kept fun b o e => Heap.get?_push_of_some _ e
 refine ⟨(s.heap.push { cls := .type "range", data := .fields #[.int lo t, .int hi u, .int 1 v] }).objs.size, [(s.heap.push { cls := .type "range", data := .fields #[.int lo t, .int hi u, .int 1 v] }).objs.size], _, _, H, rfl,
  I1.kept (t' := tk) fun b o e => Heap.get?_push_of_some _ e, turn_range _ lo (hi - lo).toNat, ?_, fun b hb => ?_, q⟩
 ·have e1 : lo + ((0 : Nat) : Int) * 1 = lo := by simp
  have e2 : (((hi - lo).toNat : Nat) : Int) - ((0 : Nat) : Int) = Builtin.Range.rangeSize lo hi 1 := by rw [rangeSize_one]; split <;> omega
  show IsRangeIter _ _ (lo + ((0 : Nat) : Int) * 1) ((((hi - lo).toNat : Nat) : Int) - ((0 : Nat) : Int)) 1
  rw [e1, e2]
  exact Heap.get?_push_size _ rfl
 ·have e : b = (s.heap.push { cls := .type "range", data := .fields #[.int lo t, .int hi u, .int 1 v] }).objs.size := by simpa using hb
  subst e
  exact I1.fpOk (Nat.le_refl _) (I1.hok.fresh (Nat.le_refl _))
def iRng1 (ta : TA) : TI := fun σ H R => ta σ H fun vs H1 => ∃ j : Int, vs = [.int j] /\ -(2 ^ 62) <= j /\ j < 2 ^ 62 /\ R (Itr 0 j.toNat) H1
def iRng2 (ta : TA) : TI := fun σ H R => ta σ H fun vs H1 => ∃ i j : Int, vs = [.int i, .int j] /\ (-(2 ^ 62) <= i /\ i < 2 ^ 62 /\ -(2 ^ 62) <= j /\ j < 2 ^ 62) /\ R (Itr i (j - i).toNat) H1
theorem pi_range1 {a : Expr} {ta : TA} {p pos : Pos} (hg : Gl X "range") (hm : X.mg "range" = none) (ha : PA X [a] ta) (hs : starEach [a] X.env = [(false, eval a X.env)] := by rfl) : PI X tg (.Call (.Name "range" p) [a] [] pos) (iRng1 ta) := by
 intro pins s σ H R I h
 refine Call_ (ld_blt I hg hm boot_range (PyProof.Rows.callWith_type1 (thn (ha pos pins s σ H _ I h) fun us s1 hpat => ?_) hs rfl))
 obtain ⟨vs, H1, I1, r1, q1⟩ := hpat
 obtain ⟨j, e, q1, q2, q⟩ := q1
 subst e
 cases r1 with
 | cons r rr =>
  cases rr
  obtain ⟨t, rfl⟩ := r
  exact call_range_1 (range_it I1 (by omega) (by omega) q1 q2 (by simpa using q))
theorem pi_range2 {a b : Expr} {ta : TA} {p pos : Pos} (hg : Gl X "range") (hm : X.mg "range" = none) (ha : PA X [a, b] ta) (hs : starEach [a, b] X.env = [(false, eval a X.env), (false, eval b X.env)] := by rfl) (hs2 : starEach [b] X.env = [(false, eval b X.env)] := by rfl) :
  PI X tg (.Call (.Name "range" p) [a, b] [] pos) (iRng2 ta) := by
 intro pins s σ H R I h
 refine Call_ (ld_blt I hg hm boot_range (PyProof.Rows.callWith_type1 (thn (ha pos pins s σ H _ I h) fun us s1 hpat => ?_) (by rw [hs, hs2]) (by rw [hs2]; rfl)))
 obtain ⟨vs, H1, I1, r1, q1⟩ := hpat
 obtain ⟨i, j, e, ⟨q1, q2, q3, q4⟩, q⟩ := q1
 subst e
 cases r1 with
 | cons r rr =>
  cases rr with
  | cons r' rr =>
   cases rr
   obtain ⟨t, rfl⟩ := r
   obtain ⟨t', rfl⟩ := r'
   exact call_range_2 (range_it I1 q1 q2 q3 q4 q)
def tFor (wi : TI) (g : TG) (tb : TS) : TS := fun D σ H => wi σ H fun J H1 => ∃ W : Nat -> Nat -> St -> Hp -> Prop, (∃ m, W 0 m σ H1) /\ ∀ i m σ H, W i m σ H ->
 (J.stop i H /\ D.nx σ H) \/ (J.go i H /\ ∃ N : St -> Hp -> Prop, (∀ σ' H', N σ' H' -> ∃ m', m' < m /\ W (i + 1) m' σ' H') /\ ∀ x H', J.yld i H x H' -> g x σ H' fun σ2 H2 => tb { D with nx := N, ct := N, bk := D.nx } σ2 H2)
noncomputable def pinsAt (fp : List Addr) (h : Heap) : List (Addr × Obj) := fp.filterMap fun b => (h.get? b).map fun o => (b, o)
theorem mem_pinsAt {fp : List Addr} {h : Heap} {b : Addr} {o : Obj} (hb : b ∈ fp) (e : h.get? b = some o) : (b, o) ∈ pinsAt fp h := List.mem_filterMap.mpr ⟨b, hb, by rw [e]; rfl⟩
theorem of_pinsAt {fp : List Addr} {h : Heap} {p : Addr × Obj} (hp : p ∈ pinsAt fp h) : p.1 ∈ fp /\ h.get? p.1 = some p.2 := by
 obtain ⟨b, hb, e⟩ := List.mem_filterMap.mp hp
 cases q : h.get? b with
 | none => rw [q] at e; cases e
 | some o =>
  rw [q] at e
  have e' : (b, o) = p := Option.some.inj e
  subst e'
  exact ⟨hb, q⟩
theorem Inv.pinned {pins : List (Addr × Obj)} {σ : St} {H : Hp} {s : Shared} {fp : List Addr} (I : Inv X pins σ H s) (hf : ∀ b ∈ fp, FpOk X pins H b) (ho : ∀ b ∈ fp, ∃ o, s.heap.get? b = some o /\ ∀ v, o.data ≠ .cell v) : Inv X (pins ++ pinsAt fp s.heap) σ H s :=
 I.pins_of fun p hp => (List.mem_append.mp hp).elim (fun z => I.pin p (mem_append_right _ z)) fun z => by
  obtain ⟨hb, e⟩ := of_pinsAt z
  obtain ⟨f0, f1, f2, _⟩ := hf p.1 hb
  obtain ⟨o, e', d⟩ := ho p.1 hb
  rw [e] at e'; cases e'
  exact ⟨e, f0, f1, f2, d⟩
theorem Inv.unpinned {pins pl : List (Addr × Obj)} {σ : St} {H : Hp} {s : Shared} (I : Inv X (pins ++ pl) σ H s) : Inv X pins σ H s := I.pins_of fun p hp => I.pin p (mem_append_right _ (mem_append_left _ hp))
theorem ps_for {iter : Expr} {body : List Stmt} {wi : TI} {g : TG} {tb : TS} {pos : Pos} (hp : PassesOwn (model X.prog X.w) X.A X.env X.xe) (hc : X.calm = true) (hi : PI X tg iter wi) (hg : PG X tg g) (hb : PSs X body tb)
  (hs : ∀ x, foldedSetIterable iter X.env x = pure x := by intro _; rfl) : PS X (.For tg iter body [] pos) (tFor wi g tb) := by
 intro pins s σ H D I h
 refine wpAny_For (thn (hi pins s σ H _ I h) fun v s1 h1 => thn h1 fun itv s2 h2 => ?_) hs
 obtain ⟨it, fp, tn, J, H2, e, I2, T, st2, f2, W, ⟨m0, w0⟩, turn⟩ := h2
 subst e
 have stat : ∀ {H' : Hp}, (∀ b ∈ fp, H' b = none) -> ∀ b ∈ fp, FpOk X pins H' b := fun hn b hb => ⟨hn b hb, (f2 b hb).2⟩
 refine codeAny_forLoop_any (fun n s' => ∃ i σ' H', Inv X pins σ' H' s' /\ tn i s'.heap /\ (∀ b ∈ fp, H' b = none) /\ W i n σ' H') ?_ m0 ⟨0, σ, H2, I2, st2, fun b hb => (f2 b hb).1, w0⟩
 rintro n s3 ⟨i, σ3, H3, I3, st3, fr3, w3⟩
 rcases turn i n σ3 H3 w3 with ⟨stop, qn⟩ | ⟨go, N, hN, step⟩
 ·refine wpAny_passesOwn hp (thn (T.done X rfl rfl rfl hc i pins s3 σ3 H3 X.xe I3 (stat fr3) st3 stop) fun r s4 ⟨hr, I4⟩ => ?_)
  subst hr
  exact wpAny_execs_nil ⟨σ3, H3, I4, qn⟩
 ·refine wpAny_passesOwn hp (thn (T.item X rfl rfl rfl hc i pins s3 σ3 H3 X.xe I3 (stat fr3) st3 go) fun r s4 ⟨u, hr, h4⟩ => ?_)
  subst hr
  refine wpAny_passesOwn hp (thn h4 fun _ s5 hpat => ?_)
  obtain ⟨x, H5, I5, r5, y5, st5, fr5⟩ := hpat
  have I5' := I5.pinned (stat fr5) (T.obj _ _ st5)
  refine wpAny_passesOwn hp (thn (hg _ s5 σ3 H5 x u _ I5' r5 (step x H5 y5)) fun _ s6 hpat => ?_)
  obtain ⟨σ6, H6, I6, q6⟩ := hpat
  refine wpAny_passesOwn hp (thn (hb _ s6 σ6 H6 _ I6 q6) fun f s7 q7 => ?_)
  have again : ∀ {σ7 : St} {H7 : Hp}, Inv X (pins ++ pinsAt fp s5.heap) σ7 H7 s7 -> N σ7 H7 -> ∃ m, m < n /\ ∃ i σ' H', Inv X pins σ' H' s7 /\ tn i s7.heap /\ (∀ b ∈ fp, H' b = none) /\ W i m σ' H' := fun {σ7 H7} I7 n7 => by
   obtain ⟨m', hm, w7⟩ := hN σ7 H7 n7
   refine ⟨m', hm, i + 1, σ7, H7, I7.unpinned, T.keep _ _ _ st5 fun b hb o e => (I7.pin (b, o) (mem_append_right _ (mem_append_right _ (mem_pinsAt hb e)))).1, fun b hb => ?_, w7⟩
   obtain ⟨o, e, d⟩ := T.obj _ _ st5 b hb
   exact (I7.pin (b, o) (mem_append_right _ (mem_append_right _ (mem_pinsAt hb e)))).2.1
  cases f with
  | next => obtain ⟨σ7, H7, I7, n7⟩ := q7; exact again I7 n7
  | cont => obtain ⟨σ7, H7, I7, n7⟩ := q7; exact again I7 n7
  | brk => obtain ⟨σ7, H7, I7, q7⟩ := q7; exact ⟨σ7, H7, I7.unpinned, q7⟩
  | ret v => obtain ⟨x7, σ7, H7, I7, r7, q7⟩ := q7; exact ⟨x7, σ7, H7, I7.unpinned, r7, q7⟩
end
end
section
noncomputable abbrev R2 := V -> V -> Hp -> VK -> Prop
def OpR (X : Cx) (f : Value -> Value -> Sem Value) (r : R2) : Prop :=
 ∀ (pins : List (Addr × Obj)) (s : Shared) (σ : St) (H : Hp) (x y : V) (v u : Value) (Q : VK), Inv X pins σ H s -> RelV x v -> RelV y u -> r x y H Q ->
  wpAny (model X.prog X.w) X.A (f v u) (EP X pins σ Q) X.xe s
def UnR (X : Cx) (f : Value -> Sem Value) (r : V -> Hp -> VK -> Prop) : Prop :=
 ∀ (pins : List (Addr × Obj)) (s : Shared) (σ : St) (H : Hp) (x : V) (v : Value) (Q : VK), Inv X pins σ H s -> RelV x v -> r x H Q ->
  wpAny (model X.prog X.w) X.A (f v) (EP X pins σ Q) X.xe s
def CallR (X : Cx) (f : Value) (r : List V -> Hp -> VK -> Prop) : Prop :=
 ∀ (pins : List (Addr × Obj)) (s : Shared) (σ : St) (H : Hp) (xs : List V) (us : List Value) (Q : VK), Inv X pins σ H s -> Vals xs us -> r xs H Q ->
  wpAny (model X.prog X.w) X.A (call f us) (EP X pins σ Q) X.xe s
def TruR (X : Cx) (r : V -> Hp -> (Bool -> Hp -> Prop) -> Prop) : Prop :=
 ∀ (pins : List (Addr × Obj)) (s : Shared) (σ : St) (H : Hp) (x : V) (v : Value) (Q : Bool -> Hp -> Prop), Inv X pins σ H s -> RelV x v -> r x H Q ->
  wpAny (model X.prog X.w) X.A (truthy v) (TP X pins σ Q) X.xe s
def tOp (r : R2) (ta tb : TE) : TE := fun σ H Q => ta σ H fun x H1 => tb σ H1 fun y H2 => r x y H2 Q
def tUn (r : V -> Hp -> VK -> Prop) (ta : TE) : TE := fun σ H Q => ta σ H fun x H1 => r x H1 Q
def rI (C : Int -> Int -> Prop) (g : Int -> Int -> V) : R2 := fun x y H Q => ∃ i j, x = .int i /\ y = .int j /\ C i j /\ Q (g i j) H
def rI0 (g : Int -> Int -> V) : R2 := fun x y H Q => ∃ i j, x = .int i /\ y = .int j /\ Q (g i j) H
def rU (g : Int -> V) : V -> Hp -> VK -> Prop := fun x H Q => ∃ i, x = .int i /\ Q (g i) H
section
variable {X : Cx} {a b c : Expr} {ta tb tc : TE} {pos : Pos}
theorem binT (ha : PE X a ta) (hb : PE X b tb) {pins : List (Addr × Obj)} {s : Shared} {σ : St} {H : Hp} {R : V -> V -> Hp -> Prop} (I : Inv X pins σ H s)
  (h : ta σ H fun x H1 => tb σ H1 fun y H2 => R x y H2) {Q : Value -> Shared -> Prop} {f : Value -> Value -> Sem Value}
  (hf : ∀ v u s2 x y H2, Inv X pins σ H2 s2 -> RelV x v -> RelV y u -> R x y H2 -> wpAny (model X.prog X.w) X.A (f v u) Q X.xe s2) :
  wpAny (model X.prog X.w) X.A (eval a X.env) (fun v s₁ => wpAny (model X.prog X.w) X.A (eval b X.env) (fun u s₂ => wpAny (model X.prog X.w) X.A (f v u) Q X.xe s₂) X.xe s₁) X.xe s := by
 refine thn (ha pins s σ H _ I h) fun v s1 hpat => ?_
 obtain ⟨x, H1, I1, r1, q1⟩ := hpat
 refine thn (hb pins s1 σ H1 _ I1 q1) fun u s2 hpat => ?_
 obtain ⟨y, H2, I2, r2, q2⟩ := hpat
 exact hf v u s2 x y H2 I2 r1 r2 q2
theorem pe_op {op : Operator} {r : R2} (ho : OpR X (binaryOp op) r) (ha : PE X a ta) (hb : PE X b tb) : PE X (.BinOp a op b pos) (tOp r ta tb) := by
 intro pins s σ H Q I h
 exact wpAny_BinOp (binT ha hb I h fun v u s2 x y H2 I2 rx ry q => ho pins s2 σ H2 x y v u Q I2 rx ry q)
theorem pe_un {op : UnaryOp} {r : V -> Hp -> VK -> Prop} (ho : UnR X (unaryOp op) r) (ha : PE X a ta) : PE X (.UnaryOp op a pos) (tUn r ta) := by
 intro pins s σ H Q I h
 exact UnaryOp_ (thn (ha pins s σ H _ I h) fun v s1 ⟨x, H1, I1, r1, q1⟩ => ho pins s1 σ H1 x v Q I1 r1 q1)
theorem opI {f : Value -> Value -> Sem Value} {C : Int -> Int -> Prop} {g : Int -> Int -> Int}
  (rule : ∀ (i j : Int) (t u : Tok) (s : Shared) (Q : Value -> Shared -> Prop) (E : Value -> Shared -> Prop), C i j -> Q (.int (g i j) s.toks) { s with toks := s.toks + 1 } -> wpAny (model X.prog X.w) X.A (f (.int i t) (.int j u)) Q E s) :
  OpR X f (rI C fun i j => .int (g i j)) := by
 intro pins s σ H x y v u Q I rx ry h
 obtain ⟨i, j, rfl, rfl, hc, q⟩ := h
 obtain ⟨t, rfl⟩ := rx
 obtain ⟨t', rfl⟩ := ry
 exact rule i j t t' s _ _ hc ⟨.int (g i j), H, I.tok _, ⟨_, rfl⟩, q⟩
theorem opI0 {f : Value -> Value -> Sem Value} {g : Int -> Int -> Int}
  (rule : ∀ (i j : Int) (t u : Tok) (s : Shared) (Q : Value -> Shared -> Prop) (E : Value -> Shared -> Prop), Q (.int (g i j) s.toks) { s with toks := s.toks + 1 } -> wpAny (model X.prog X.w) X.A (f (.int i t) (.int j u)) Q E s) :
  OpR X f (rI0 fun i j => .int (g i j)) := by
 intro pins s σ H x y v u Q I rx ry h
 obtain ⟨i, j, rfl, rfl, q⟩ := h
 obtain ⟨t, rfl⟩ := rx
 obtain ⟨t', rfl⟩ := ry
 exact rule i j t t' s _ _ ⟨.int (g i j), H, I.tok _, ⟨_, rfl⟩, q⟩
theorem opB0 {f : Value -> Value -> Sem Value} {g : Int -> Int -> Bool}
  (rule : ∀ (i j : Int) (t u : Tok) (s : Shared) (Q : Value -> Shared -> Prop) (E : Value -> Shared -> Prop), Q (.bool (g i j)) s -> wpAny (model X.prog X.w) X.A (f (.int i t) (.int j u)) Q E s) :
  OpR X f (rI0 fun i j => .bl (g i j)) := by
 intro pins s σ H x y v u Q I rx ry h
 obtain ⟨i, j, rfl, rfl, q⟩ := h
 obtain ⟨t, rfl⟩ := rx
 obtain ⟨t', rfl⟩ := ry
 exact rule i j t t' s _ _ ⟨.bl (g i j), H, I, rfl, q⟩
def CDiv (i j : Int) : Prop := 0 < j /\ j < 1073741824
def CPow (i j : Int) : Prop := 0 <= j /\ j <= 1000000 /\ i.natAbs < 2 ^ 64
def CMul (i j : Int) : Prop := (-(2 ^ 64) < i /\ i < 2 ^ 64) \/ (-(2 ^ 64) < j /\ j < 2 ^ 64)
theorem CMul.ok {i j : Int} (h : CMul i j) : IntMulOk i j := by
 rcases h with ⟨h1, h2⟩ | ⟨h1, h2⟩
 ·exact .of_left (intBits_le_64 h1 h2)
 ·exact .of_right (intBits_le_64 h1 h2)
theorem op_add : OpR X (binaryOp .Add) (rI0 fun i j => .int (i + j)) := opI0 fun _ _ _ _ _ _ _ q => add_int q
theorem op_sub : OpR X (binaryOp .Sub) (rI0 fun i j => .int (i - j)) := opI0 fun _ _ _ _ _ _ _ q => sub_int q
theorem op_mul : OpR X (binaryOp .Mult) (rI CMul fun i j => .int (i * j)) := opI fun _ _ _ _ _ _ _ hc q => mul_int q hc.ok
theorem op_fdiv : OpR X (binaryOp .FloorDiv) (rI CDiv fun i j => .int (i / j)) := opI fun i j _ _ _ _ _ hc q => by
 have h1 : (0 : Int) < j := hc.1
 have h2 : j < 1073741824 := hc.2
 exact floordiv_int (by omega) (by rw [Int.fdiv_eq_ediv_of_nonneg i (by omega)]; exact q) (.inl (PyProof.noPylong_small (by omega)))
theorem op_mod : OpR X (binaryOp .Mod) (rI (fun _ j => 0 < j) fun i j => .int (i % j)) := opI fun i j _ _ _ _ _ hc q => by
 have h1 : (0 : Int) < j := hc
 exact mod_int' (by omega) (by rw [Int.fmod_eq_emod_of_nonneg i (by omega)]; exact q)
theorem op_pow : OpR X (binaryOp .Pow) (rI CPow fun i j => .int (i ^ j.toNat)) := opI fun _ _ _ _ _ _ _ hc q => pow_int_small hc.1 hc.2.1 hc.2.2 q
theorem unI {f : Value -> Sem Value} {g : Int -> Int}
  (rule : ∀ (i : Int) (t : Tok) (s : Shared) (Q : Value -> Shared -> Prop) (E : Value -> Shared -> Prop), Q (.int (g i) s.toks) { s with toks := s.toks + 1 } -> wpAny (model X.prog X.w) X.A (f (.int i t)) Q E s) :
  UnR X f (rU fun i => .int (g i)) := by
 intro pins s σ H x v Q I rx h
 obtain ⟨i, rfl, q⟩ := h
 obtain ⟨t, rfl⟩ := rx
 exact rule i t s _ _ ⟨.int (g i), H, I.tok _, ⟨_, rfl⟩, q⟩
theorem un_neg : UnR X (unaryOp .USub) (rU fun i => .int (-i)) := unI fun _ _ _ _ _ q => neg_int q
end
noncomputable def scal : V -> V -> Bool
 | .non, .non => true | .non, .int _ => true | .int _, .non => true | .non, .bl _ => true | .bl _, .non => true | .non, .str _ => true | .str _, .non => true
 | .int _, .int _ => true | .bl _, .bl _ => true | .str _, .str _ => true | .byt _, .byt _ => true
 | .int _, .str _ => true | .str _, .int _ => true | .bl _, .str _ => true | .str _, .bl _ => true
 | _, _ => false
def rEq : R2 := fun x y H Q => scal x y = true /\ Q (.bl (decide (x = y))) H
theorem dec_int {i j : Int} : decide (V.int i = V.int j) = (i == j) := by
 rw [Bool.eq_iff_iff]
 simp
theorem dec_bl {i j : Bool} : decide (V.bl i = V.bl j) = (i == j) := by
 rw [Bool.eq_iff_iff]
 simp
theorem dec_str {i j : Str} : decide (V.str i = V.str j) = (i == j) := by
 rw [Bool.eq_iff_iff]
 simp
theorem dec_byt {i j : Array UInt8} : decide (V.byt i = V.byt j) = (i.toList == j.toList) := by
 rw [Bool.eq_iff_iff]
 cases i
 cases j
 simp
section
variable {X : Cx} {a b c : Expr} {ta tb tc : TE} {pos : Pos}
theorem fin_bl {pins : List (Addr × Obj)} {σ : St} {H : Hp} {s : Shared} {Q : VK} {k k' : Bool} (I : Inv X pins σ H s) (q : Q (.bl k) H) (e : k = k') : EP X pins σ Q (.bool k') s := by
 subst e
 exact ⟨.bl k, H, I, rfl, q⟩
theorem op_eq : OpR X (compareOp .Eq) rEq := by
 intro pins s σ H x y v u Q I rx ry h
 obtain ⟨hs, q⟩ := h
 cases x with
 | non =>
  cases rx
  cases y with
  | non => cases ry; exact PySem.EqNone.eq_none_none (fin_bl I q (by simp))
  | bl j => cases ry; exact PySem.EqNone.eq_none_bool (fin_bl I q (by simp))
  | int j => obtain ⟨t', rfl⟩ := ry; exact PySem.EqNone.eq_none_int (fin_bl I q (by simp))
  | str j => obtain ⟨t', rfl⟩ := ry; exact PySem.EqNone.eq_none_str (fin_bl I q (by simp))
  | _ => exact absurd (show false = true from hs) Bool.false_ne_true
 | bl i =>
  cases rx
  cases y with
  | non => cases ry; exact PySem.EqNone.eq_bool_none (fin_bl I q (by simp))
  | bl j => cases ry; exact eq_bool (fin_bl I q dec_bl)
  | str j => obtain ⟨t', rfl⟩ := ry; exact PySem.EqMixed.eq_bool_str (fin_bl I q (by simp))
  | _ => exact absurd (show false = true from hs) Bool.false_ne_true
 | int i =>
  obtain ⟨t, rfl⟩ := rx
  cases y with
  | non => cases ry; exact PySem.EqNone.eq_int_none (fin_bl I q (by simp))
  | int j => obtain ⟨t', rfl⟩ := ry; exact eq_int (fin_bl I q dec_int)
  | str j => obtain ⟨t', rfl⟩ := ry; exact PySem.EqMixed.eq_int_str (fin_bl I q (by simp))
  | _ => exact absurd (show false = true from hs) Bool.false_ne_true
 | str i =>
  obtain ⟨t, rfl⟩ := rx
  cases y with
  | non => cases ry; exact PySem.EqNone.eq_str_none (fin_bl I q (by simp))
  | bl j => cases ry; exact PySem.EqMixed.eq_str_bool (fin_bl I q (by simp))
  | int j => obtain ⟨t', rfl⟩ := ry; exact PySem.EqMixed.eq_str_int (fin_bl I q (by simp))
  | str j => obtain ⟨t', rfl⟩ := ry; exact eq_str (fin_bl I q dec_str)
  | _ => exact absurd (show false = true from hs) Bool.false_ne_true
 | byt i =>
  obtain ⟨t, rfl⟩ := rx
  cases y with
  | byt j => obtain ⟨t', rfl⟩ := ry; exact W.eq_bytes (fin_bl I q dec_byt)
  | _ => exact absurd (show false = true from hs) Bool.false_ne_true
 | _ => cases y <;> exact absurd (show false = true from hs) Bool.false_ne_true
theorem op_lt : OpR X (compareOp .Lt) (rI0 fun i j => .bl (decide (i < j))) := opB0 fun _ _ _ _ _ _ _ q => lt_int q
theorem op_gt : OpR X (compareOp .Gt) (rI0 fun i j => .bl (decide (j < i))) := opB0 fun _ _ _ _ _ _ _ q => gt_int q
theorem op_ge : OpR X (compareOp .GtE) (rI0 fun i j => .bl (decide (j <= i))) := opB0 fun _ _ _ _ _ _ _ q => ge_int q
theorem op_isN : OpR X (compareOp .Is) (fun x y H Q => y = .non /\ Q (.bl (decide (x = .non))) H) := by
 intro pins s σ H x y v u Q I rx ry h
 obtain ⟨rfl, q⟩ := h
 cases ry
 refine is_none_gen (fin_bl I q ?_)
 cases x <;> first
  | (cases rx; rfl)
  | (obtain ⟨t, rfl⟩ := rx; rfl)
theorem OpR.or {f : Value -> Value -> Sem Value} {r r' : R2} (h : OpR X f r) (h' : OpR X f r') : OpR X f (fun x y H Q => r x y H Q \/ r' x y H Q) := by
 intro pins s σ H x y v u Q I rx ry q
 rcases q with q | q
 ·exact h pins s σ H x y v u Q I rx ry q
 ·exact h' pins s σ H x y v u Q I rx ry q
theorem nomark (b : Expr) {op : CmpOp} (h : op ≠ .In := by decide) (h2 : op ≠ .NotIn := by decide) : behindInMarks op b = false := by
 have e1 : (op == CmpOp.In) = false := by cases op <;> first | rfl | exact absurd rfl h
 have e2 : (op == CmpOp.NotIn) = false := by cases op <;> first | rfl | exact absurd rfl h2
 cases b <;> simp [behindInMarks, e1, e2]
theorem pe_cmpR {op : CmpOp} {r : R2} (ho : OpR X (compareOp op) r) (ha : PE X a ta) (hb : PE X b tb) (hm : behindInMarks op b = false) : PE X (.Compare a [op] [b] pos) (tOp r ta tb) := by
 intro pins s σ H Q I h
 exact wpAny_Compare1 (binT ha hb I h fun v u s2 x y H2 I2 rx ry q => ho pins s2 σ H2 x y v u Q I2 rx ry q) hm
def tTest (t : TE) : TT := fun σ H Q => t σ H fun x H' => ∃ k, x = .bl k /\ Q k H'
theorem pt_cmpR {op : CmpOp} {r : R2} (ho : OpR X (compareOp op) r) (ha : PE X a ta) (hb : PE X b tb) (hm : behindInMarks op b = false) : PT X (.Compare a [op] [b] pos) (tTest (tOp r ta tb)) := by
 intro pins s σ H Q I h
 refine wpAny_isTrue_Compare1 (thn (ha pins s σ H _ I h) fun v s1 ⟨x, H1, I1, r1, q1⟩ => thn (hb pins s1 σ H1 _ I1 q1) fun u s2 ⟨y, H2, I2, r2, q2⟩ =>
  thn (ho pins s2 σ H2 x y v u _ I2 r1 r2 q2) fun c s3 ⟨z, H3, I3, r3, k, e, q3⟩ => ?_) hm
 subst e
 cases r3
 exact wpAny_truthy_bool ⟨H3, I3, q3⟩
def TruV (K : W.Frag) (x : V) (H : Hp) (k : Bool) : Prop :=
 match x with
 | .non => k = false
 | .bl b => k = b
 | .int i => k = (i != 0)
 | .str y => y.length <= sizeLine /\ k = ((y.length : Int) != 0)
 | .byt y => y.size <= sizeLine /\ k = ((y.size : Int) != 0)
 | .ref p => (∃ xs, SqL K H p xs /\ k = !xs.isEmpty) \/ (∃ xs, SqT K H p xs /\ k = !xs.isEmpty) \/ ∃ kvs, H p = some (.dK kvs) /\ k = !kvs.isEmpty
 | _ => False
theorem isEmpty_kv {κ : Type} {kvs : List (κ × V)} {vs : List (κ × Value)} (r : KV kvs vs) : (!vs.isEmpty) = !kvs.isEmpty := by
 cases r <;> rfl
theorem isEmpty_of {xs : List V} {its : List Value} (r : Vals xs its) : (!its.toArray.isEmpty) = !xs.isEmpty := by
 cases r <;> simp
theorem line63 : (sizeLine : Nat) < 2 ^ 63 := by rw [sizeLine_eq]; decide
theorem tru_ok : TruR X (fun x H Q => ∃ k, TruV X.K x H k /\ Q k H) := by
 intro pins s σ H x v Q I rx h
 obtain ⟨k, e, q⟩ := h
 have hl := line63
 have hs : sizeLine = 16777216 := sizeLine_eq
 cases x with
 | non =>
  cases rx
  have e' : k = false := e
  subst e'
  exact truthy_none ⟨H, I, q⟩
 | bl b =>
  cases rx
  have e' : k = b := e
  subst e'
  exact wpAny_truthy_bool ⟨H, I, q⟩
 | int i =>
  obtain ⟨t, rfl⟩ := rx
  have e' : k = (i != 0) := e
  subst e'
  exact PySem.P.truthy_int ⟨H, I, q⟩
 | str y =>
  obtain ⟨t, rfl⟩ := rx
  obtain ⟨hy, e'⟩ : y.length <= sizeLine /\ k = ((y.length : Int) != 0) := e
  subst e'
  exact PySem.P.truthy_str (by omega) ⟨H, I.tok _, q⟩
 | byt y =>
  obtain ⟨t, rfl⟩ := rx
  obtain ⟨hy, e'⟩ : y.size <= sizeLine /\ k = ((y.size : Int) != 0) := e
  subst e'
  exact W.truthy_bytes (by omega) ⟨H, I.tok _, q⟩
 | ref p =>
  cases rx
  have e' : (∃ xs, SqL X.K H p xs /\ k = !xs.isEmpty) \/ (∃ xs, SqT X.K H p xs /\ k = !xs.isEmpty) \/ ∃ kvs, H p = some (.dK kvs) /\ k = !kvs.isEmpty := e
  rcases e' with ⟨xs, hx, e'⟩ | ⟨xs, hx, e'⟩ | ⟨kvs, hx, e'⟩
  ·subst e'
   obtain ⟨its, r, pl, hz⟩ := I.list hx
   have hlen := r.length
   exact wpAny_truthy_list pl.isList (by simp only [size_toArray]; omega) ⟨H, I.tok _, by rw [isEmpty_of r]; exact q⟩
  ·subst e'
   obtain ⟨its, r, pl, hz⟩ := I.tuple hx
   have hlen := r.length
   exact truthy_tuple pl (by simp only [size_toArray]; omega) ⟨H, I.tok _, by rw [isEmpty_of r]; exact q⟩
  ·subst e'
   obtain ⟨hz, hS, vs, r, m⟩ : kvs.length <= sizeLine /\ (p == sysModules) = false /\ ∃ vs, KV kvs vs /\ s.heap.DictOf (mixKind X.prog X.w) p vs := I.hok p _ hx
   have hlen : kvs.length = vs.length := Paired.length r
   exact wpAny_truthy_dict hS m (by omega) ⟨H, I.tok _, by rw [isEmpty_kv r]; exact q⟩
 | _ => exact (show False from e).elim
theorem pt_truth (ha : PE X a ta) (he : ∀ whole, isTrue a X.env whole = (do let v ← whole; standAt a.pos; holding [v] (truthy v))) :
  PT X a (fun σ H Q => ta σ H fun x H' => ∃ k, TruV X.K x H' k /\ Q k H') := by
 intro pins s σ H Q I h
 exact isTrue_plain (thn (ha pins s σ H _ I h) fun v s1 ⟨x, H1, I1, r1, q1⟩ => tru_ok pins s1 σ H1 x v Q I1 r1 q1) (he _)
theorem vals1 {x : V} {us : List Value} (r : Vals [x] us) : ∃ u, us = [u] /\ RelV x u := by
 cases r with
 | cons r1 r2 => cases r2; exact ⟨_, rfl, r1⟩
theorem vals2 {x y : V} {us : List Value} (r : Vals [x, y] us) : ∃ u w', us = [u, w'] /\ RelV x u /\ RelV y w' := by
 cases r with
 | cons r1 r2 =>
  cases r2 with
  | cons r3 r4 => cases r4; exact ⟨_, _, rfl, r1, r3⟩
theorem call_abs : CallR X (.builtin "abs") (fun xs H Q => ∃ i, xs = [.int i] /\ Q (.int (if i < 0 then -i else i)) H) := by
 intro pins s σ H xs us Q I r h
 obtain ⟨i, rfl, q⟩ := h
 obtain ⟨u, rfl, t, rfl⟩ := vals1 r
 exact call_abs_int fun u tk => ⟨.int (if i < 0 then -i else i), H, I.tok _, ⟨_, rfl⟩, q⟩
theorem call_max2 (hc : X.calm = true) : CallR X (.builtin "max") (fun xs H Q => ∃ i j, xs = [.int i, .int j] /\ Q (.int (if j > i then j else i)) H) := by
 intro pins s σ H xs us Q I r h
 obtain ⟨i, j, rfl, q⟩ := h
 obtain ⟨u, w', rfl, ⟨t, rfl⟩, ⟨t', rfl⟩⟩ := vals2 r
 refine max_two_ints (I.ok.hd hc) fun h' tk k => ⟨_, H, I.kept k, ?_, q⟩
 by_cases hj : j > i
 ·rw [if_pos hj, if_pos hj]; exact ⟨_, rfl⟩
 ·rw [if_neg hj, if_neg hj]; exact ⟨_, rfl⟩
theorem call_min2 (hc : X.calm = true) : CallR X (.builtin "min") (fun xs H Q => ∃ i j, xs = [.int i, .int j] /\ Q (.int (if j < i then j else i)) H) := by
 intro pins s σ H xs us Q I r h
 obtain ⟨i, j, rfl, q⟩ := h
 obtain ⟨u, w', rfl, ⟨t, rfl⟩, ⟨t', rfl⟩⟩ := vals2 r
 refine min_two_ints (I.ok.hd hc) fun h' tk k => ⟨_, H, I.kept k, ?_, q⟩
 by_cases hj : j < i
 ·rw [if_pos hj, if_pos hj]; exact ⟨_, rfl⟩
 ·rw [if_neg hj, if_neg hj]; exact ⟨_, rfl⟩
theorem call_int1 : CallR X (.type "int") (fun xs H Q => (∃ i, xs = [.int i] /\ Q (.int i) H) \/ ∃ k, xs = [.bl k] /\ Q (.int (if k then 1 else 0)) H) := by
 intro pins s σ H xs us Q I r h
 rcases h with ⟨i, rfl, q⟩ | ⟨k, rfl, q⟩
 ·obtain ⟨u, rfl, t, rfl⟩ := vals1 r
  exact call_int_int ⟨.int i, H, I, ⟨_, rfl⟩, q⟩
 ·obtain ⟨u, rfl, r1⟩ := vals1 r
  cases r1
  exact call_int_bool ⟨.int (if k then 1 else 0), H, I.tok _, ⟨_, rfl⟩, q⟩
end
end
section
structure ObjM (h : Heap) (x dx C : Addr) (mA : Str -> Option Value) : Prop where
 obj : h.get? x = some (W.instObj C dx)
 ns : h.Ns1 dx mA
 ne : dx ≠ x
theorem lookIn_ns {h : Heap} {dx : Addr} {mA : Str -> Option Value} (n : h.Ns1 dx mA) : ∃ od, h.get? dx = some od /\ ∀ name, W.lookIn name od = some (mA name) := by
 obtain ⟨o, es, ep, ho, hd, hk, _, hm⟩ := n
 refine ⟨o, ho, fun name => ?_⟩
 have e := hm name
 unfold nsFind findBy at e
 rw [<- Array.find?_toList] at e
 unfold W.lookIn
 rw [hd]
 dsimp only
 split
 ·rename_i y q
  rw [q] at e
  exact congrArg some e
 ·rename_i q
  rw [q] at e
  have a : es.toList.any (·.refKey) = false := by
   rw [any_eq_false]
   intro y hy
   obtain ⟨z, t, hkey⟩ := hk y (Array.mem_toList_iff.mp hy)
   simp [DictEntry.refKey, hkey]
  have a' : ¬ es.toList.any (·.refKey) = true := by rw [a]; exact Bool.false_ne_true
  rw [if_neg a']
  exact congrArg some e
theorem ObjM.look {h : Heap} {x dx C : Addr} {mA : Str -> Option Value} (I : ObjM h x dx C mA) : ∃ od, W.InstAt h x (W.instObj C dx) C (some od) /\ ∀ name, W.lookIn name od = some (mA name) :=
 let ⟨od, ho, hl⟩ := lookIn_ns I.ns
 ⟨od, ⟨I.obj, rfl, rfl, ho⟩, hl⟩
section
variable {prog : Program} {w : World} {A : Around} {E : Value -> Shared -> Prop} {s : Shared} {K : W.Frag} {x dx C f : Addr} {mA : Str -> Option Value} {name : Str} {v : Value}
end
section
variable {P : Program} {w : World} {H H' : Hp} {h h' : Heap} {a C dx : Addr} {fs fs' : List (Str × V)}
theorem ins_get (hok : HOk P w H h) (e : H a = some (.ins C dx fs)) : ∃ mA, ObjM h a dx C mA /\ (∀ f, RelO (fs.lookup f) (mA f)) /\ PySem.Within mA (fs.map (·.1)) /\ fs.length <= 1000 /\ H dx = some (.own a) := by
 obtain ⟨d, z, ne, ob, mA, n, r, q⟩ := (show ObjOk P w H h a (.ins C dx fs) from hok a _ e)
 exact ⟨mA, ⟨ob, n, ne⟩, r, q, z, d⟩
end
structure Cls (K : W.Frag) (C : Addr) : Prop where
 pg : W.plainGet K C Str.empty = true
 hd : W.hasDictIn K C = true
 po : W.plainOver K C = true
 sa : W.findIn K (.ref C) "__setattr__" = some (some (.builtin "object.__setattr__"))
theorem Cls.get {K : W.Frag} {C : Addr} (c : Cls K C) (f : Str) : W.plainGet K C f = true := c.pg
structure Con (K : W.Frag) (C : Addr) (f : Str) (v : V) (u : Value) : Prop where
 at_ : W.findIn K (.ref C) f = some (some u)
 rel : RelV v u
 get : W.specialIn K u "__get__" = some none
 cp : W.copiedNames.contains f = false
structure Meth (K : W.Frag) (C : Addr) (m : Str) (f : Addr) : Prop where
 at_ : W.findIn K (.ref C) m = some (some (.ref f))
 fn : W.isFn K (.ref f) = true
 kp : W.keepIn K (.ref f) = true
section
variable {X : Cx} {pins : List (Addr × Obj)} {σ : St} {H : Hp} {s : Shared} {a C dx : Addr} {fs : List (Str × V)} {f : Str} {v : V} {A : Around} {E : Value -> Shared -> Prop}
end
section
variable {X : Cx} {o e value : Expr} {f : Str} {pos pos' tpos : Pos} {ta tv : TE}
end
section
variable {X : Cx} {pins : List (Addr × Obj)} {σ : St} {H : Hp} {s : Shared} {A : Around} {E : Value -> Shared -> Prop} {Q : Value -> Shared -> Prop} {c : Value} {b : Bool}
inductive TyOf (K : W.Frag) (H : Hp) : V -> Value -> Prop where
 | non : TyOf K H .non (.type "NoneType")
 | bl (x : Bool) : TyOf K H (.bl x) (.type "bool")
 | int (i : Int) : TyOf K H (.int i) (.type "int")
 | str (x : Str) : TyOf K H (.str x) (.type "str")
 | flt (x : UInt64) : TyOf K H (.flt x) (.type "float")
 | lst {a : Addr} {xs : List V} (e : H a = some (.lst xs)) : TyOf K H (.ref a) (.type "list")
 | frz {a : Addr} {o : Obj} {xs : List V} (e : H a = some (.frz o (.lst xs))) : TyOf K H (.ref a) (.type "list")
 | tup {a : Addr} {xs : List V} (e : H a = some (.tup xs)) : TyOf K H (.ref a) (.type "tuple")
 | dK {a : Addr} {kvs : List (Key × V)} (e : H a = some (.dK kvs)) : TyOf K H (.ref a) (.type "dict")
 | dT {a : Addr} {kvs : List (List Key × V)} (e : H a = some (.dT kvs)) : TyOf K H (.ref a) (.type "dict")
 | ins {a C dx : Addr} {fs : List (Str × V)} (e : H a = some (.ins C dx fs)) (cl : Cls K C) (ha : W.findIn K (.ref C) "__class__" = some (some (.builtin "object.__class__")))
   (hn : W.specialIn K (.builtin "object.__class__") "__get__" = some (some (.builtin "getset_descriptor.__get__"))) (htk : W.takesIn K (.builtin "object.__class__") = some true)
   (hm : W.mroIn K C (.type "object") = some true) : TyOf K H (.ref a) (.ref C)
theorem isinst_ok {x : V} {u t : Value} (I : Inv X pins σ H s) (rx : RelV x u) (ty : TyOf X.K H x t) (e : W.kitOne X.K t c = some b) (h : ∀ tk, Q (.bool b) { s with toks := tk }) :
  wpAny (model X.prog X.w) A (call (.builtin "isinstance") [u, c]) Q E s := by
 cases ty with
 | non => cases (show u = Value.none from rx); exact W.kia_one W.kitx_none I.kIn True.intro e (fun z => nomatch z) h
 | bl y => cases (show u = Value.bool y from rx); exact W.kia_one W.kitx_bool I.kIn True.intro e (fun z => nomatch z) h
 | int i => obtain ⟨t, q⟩ := (show ∃ t, u = Value.int i t from rx); cases q; exact W.kia_one W.kitx_int I.kIn True.intro e (fun z => nomatch z) h
 | str y => obtain ⟨t, q⟩ := (show ∃ t, u = Value.str y t from rx); cases q; exact W.kia_one W.kitx_str I.kIn True.intro e (fun z => nomatch z) h
 | flt y => obtain ⟨t, q⟩ := (show ∃ t, u = Value.float y t from rx); cases q; exact W.kia_one W.kitx_float I.kIn True.intro e (fun z => nomatch z) h
 | @lst a xs ea =>
  cases (show u = Value.ref a from rx)
  obtain ⟨_, _, n, _, h1⟩ := (show ObjOk X.prog X.w H s.heap a (.lst xs) from I.hok a _ ea)
  exact W.kia_one W.kitx_list I.kIn ⟨_, h1, rfl⟩ e (fun z => nomatch z) h
 | @frz a ob xs ea =>
  cases (show u = Value.ref a from rx)
  obtain ⟨_, _, _, n, _, h1⟩ := (show ObjOk X.prog X.w H s.heap a (.frz ob (.lst xs)) from I.hok a _ ea)
  exact W.kia_one W.kitx_list I.kIn ⟨_, h1, rfl⟩ e (fun z => nomatch z) h
 | @tup a xs ea =>
  cases (show u = Value.ref a from rx)
  obtain ⟨_, _, _, p⟩ := (show ObjOk X.prog X.w H s.heap a (.tup xs) from I.hok a _ ea)
  obtain ⟨o, h1, h2, _⟩ := p
  exact W.kia_one W.kitx_tuple I.kIn ⟨o, h1, h2⟩ e (fun z => nomatch z) h
 | @dK a kvs ea =>
  cases (show u = Value.ref a from rx)
  obtain ⟨_, _, vs, _, p⟩ := (show ObjOk X.prog X.w H s.heap a (.dK kvs) from I.hok a _ ea)
  obtain ⟨o, es, ep, h1, h2, _⟩ := p
  exact W.kia_one W.kitx_dict I.kIn ⟨o, h1, h2.1⟩ e (fun z => nomatch z) h
 | @dT a kvs ea =>
  cases (show u = Value.ref a from rx)
  obtain ⟨_, _, xs, _, o, es, ep, h1, h2, _⟩ := (show ObjOk X.prog X.w H s.heap a (.dT kvs) from I.hok a _ ea)
  exact W.kia_one W.kitx_dict I.kIn ⟨o, h1, h2.1⟩ e (fun z => nomatch z) h
 | @ins a C dx fs ea cl ha hn htk hm =>
  cases (show u = Value.ref a from rx)
  obtain ⟨mA, O, _⟩ := ins_get I.hok ea
  obtain ⟨od, J, _⟩ := O.look
  exact W.kia_one (W.kitx_own (cl.get _) cl.hd ha hn htk hm) I.kIn J e (fun z => nomatch z) h
end
end
section
structure Room (k : Nat) (A : Around) : Prop where
 hd : A.handled = none
 dp : A.depth + 3 * k + 5 < recursionLimit
 un : A.units + 16 * k + 200 < cLine
theorem Room.mono {j k : Nat} {A : Around} (r : Room k A) (h : j <= k) : Room j A := ⟨r.hd, by have := r.dp; omega, by have := r.un; omega⟩
theorem Room.deeper {k : Nat} {A : Around} (r : Room (k + 1) A) (env : Env) : Room k (A.deeper env) :=
 ⟨r.hd, by have := r.dp; show A.depth + 1 + 3 * k + 5 < _; omega, by have := r.un; show A.units + 3 + 16 * k + 200 < _; omega⟩
theorem Room.in1 {k : Nat} {A : Around} (r : Room (k + 1) A) : Room k A.in1 :=
 ⟨r.hd, by have := r.dp; show A.depth + 3 * k + 5 < _; omega, by have := r.un; show A.units + 1 + 16 * k + 200 < _; omega⟩
theorem Room.depth {k : Nat} {A : Around} (r : Room k A) : A.depth < recursionLimit := by have := r.dp; omega
theorem Room.units {k : Nat} {A : Around} (r : Room k A) : A.units + 64 < cLine := by have := r.un; omega
def tNil : TA := fun _ H Q => Q [] H
def tCons (ta : TE) (tr : TA) : TA := fun σ H Q => ta σ H fun x H1 => tr σ H1 fun xs H2 => Q (x :: xs) H2
section
variable {X : Cx} {e : Expr} {es : List Expr} {te : TE} {t : TA} {pos : Pos}
theorem pa_nil : PA X [] tNil := fun _ _ _ _ H Q I h => Calls.spliced_nil ⟨[], H, I, .nil, h⟩
theorem pa_cons (ha : PE X e te) (hr : PA X es t) (hs : starEach (e :: es) X.env = (false, eval e X.env) :: starEach es X.env := by rfl) : PA X (e :: es) (tCons te t) := by
 intro pos pins s σ H Q I h
 rw [hs]
 show wpAny _ _ (spliced ((false, eval e X.env) :: backTo pos (starEach es X.env))) _ _ s
 refine Calls.spliced_cons (thn (ha pins s σ H _ I h) fun u s1 hpat => ?_)
 obtain ⟨x, H1, I1, r1, q1⟩ := hpat
 exact thn (hr pos pins s1 σ H1 _ I1 q1) fun us s2 ⟨xs, H2, I2, r2, q2⟩ => ⟨x :: xs, H2, I2, .cons r1 r2, q2⟩
def tTup (t : TA) : TE := fun σ H Q => t σ H fun xs H1 => xs.length <= sizeLine /\ ∀ p, H1 p = none -> Q (.ref p) (upd H1 p (.tup xs))
def tLst (t : TA) : TE := fun σ H Q => t σ H fun xs H1 => xs.length <= sizeLine /\ ∀ p, H1 p = none -> Q (.ref p) (upd H1 p (.lst xs))
theorem pe_tup {x1} (h : PA X es t) : PE X (.Tuple es x1 pos) (tTup t) := by
 intro pins s σ H Q I hq
 refine wpAny_Tuple_spliced (thn (h pos pins s σ H _ I hq) fun us s1 ⟨xs, H1, I1, r, z, q⟩ => ⟨by rw [<- r.length]; exact z, ?_⟩)
 have hf : H1 s1.heap.objs.size = none := I1.hok.fresh (Nat.le_refl _)
 refine ⟨.ref s1.heap.objs.size, upd H1 s1.heap.objs.size (.tup xs), I1.laid (t' := s1.toks) (fun b u e => Heap.get?_push_of_some _ e) (Nat.le_refl _) ?_, rfl, q _ hf⟩
 exact ⟨z, us, r, ⟨_, Heap.get?_push_size _ rfl, rfl, _, rfl⟩⟩
theorem pe_lst (h : PA X es t) : PE X (.List es pos) (tLst t) := by
 intro pins s σ H Q I hq
 refine wpAny_List_spliced (thn (h pos pins s σ H _ I hq) fun us s1 ⟨xs, H1, I1, r, z, q⟩ => ⟨by rw [<- r.length]; exact z, ?_⟩)
 have hf : H1 s1.heap.objs.size = none := I1.hok.fresh (Nat.le_refl _)
 refine ⟨.ref s1.heap.objs.size, upd H1 s1.heap.objs.size (.lst xs), I1.laid (t' := s1.toks) (fun b u e => Heap.get?_push_of_some _ e) (Nat.le_refl _) ?_, rfl, q _ hf⟩
 exact ⟨z, us, 0, r, Heap.get?_push_size _ rfl⟩
end
noncomputable abbrev Sp := List V -> Hp -> VK -> XK -> Prop
noncomputable abbrev CXT := List Env -> Hp -> Shared -> XK -> Value -> Shared -> Prop
structure Env0 (P : Program) (w : World) (K : W.Frag) (mg : Str -> Option Value) (base : Heap) (A : Around) (outer : List Env) (s : Shared) (H : Hp) : Prop where
 frames : A.frames = some outer
 mod : Mod K mg base
 bs : ∀ b o, base.get? b = some o -> s.heap.get? b = some o /\ H b = none
 bsz : base.objs.size <= s.heap.objs.size
 funs : s.heap.FunFrames base outer
 frf : ∀ b ∈ frs outer, H b = none
 hok : HOk P w H s.heap
 bare : AllBare s.gens
def CE (outer : List Env) (P : Program) (w : World) (H : Hp) (s : Shared) (Q : VK) (u : Value) (s' : Shared) : Prop :=
 ∃ v H', s'.os = s.os /\ AllBare s'.gens /\ Un (frs outer) [] H H' s.heap s'.heap /\ HOk P w H' s'.heap /\ RelV v u /\ Q v H'
def CR (CX : CXT) (outer : List Env) (P : Program) (w : World) (H : Hp) (s : Shared) (Q : VK) (E : XK) (r : Result) (s' : Shared) : Prop :=
 match r with
 | .ok (.ret u) => CE outer P w H s Q u s'
 | .ok _ => False
 | .error e => CX outer H s E e s'
structure FnOk (P : Program) (w : World) (K : W.Frag) (mg : Str -> Option Value) (base : Heap) (CX : CXT) (k : Nat) (f : Addr) (fd : FuncData) (ps : List Str) (sp : Sp) : Prop where
 len : ∀ vs H Q E, sp vs H Q E -> vs.length = ps.length
 run : ∀ (A : Around) (outer : List Env) (s : Shared) (H : Hp) (args : Args) (us : List Value) (vs : List V) (Q : VK) (E : XK), Room k A -> Env0 P w K mg base A outer s H -> BindsTo s fd args (ps.zip us) -> Vals vs us -> sp vs H Q E ->
  codeAny (model P w) A (.call (.ref f) args) (CR CX outer P w H s Q E) s
theorem FnOk.mono {P : Program} {w : World} {K : W.Frag} {mg : Str -> Option Value} {base : Heap} {CX : CXT} {j k : Nat} {f : Addr} {fd : FuncData} {ps : List Str} {sp : Sp} (F : FnOk P w K mg base CX j f fd ps sp) (h : j <= k) :
  FnOk P w K mg base CX k f fd ps sp := ⟨F.len, fun A outer s H args us vs Q E hr => F.run A outer s H args us vs Q E (hr.mono h)⟩
theorem FnOk.imp {P : Program} {w : World} {K : W.Frag} {mg : Str -> Option Value} {base : Heap} {CX : CXT} {k : Nat} {f : Addr} {fd : FuncData} {ps : List Str} {sp sp' : Sp} (F : FnOk P w K mg base CX k f fd ps sp)
  (h : ∀ vs H Q E, sp' vs H Q E -> sp vs H Q E) : FnOk P w K mg base CX k f fd ps sp' :=
 ⟨fun vs H Q E q => F.len vs H Q E (h _ _ _ _ q), fun A outer s H args us vs Q E hr he hb hv hs => F.run A outer s H args us vs Q E hr he hb hv (h _ _ _ _ hs)⟩
section
variable {X : Cx} {pins : List (Addr × Obj)} {σ : St} {H : Hp} {s s' : Shared}
theorem Inv.env0 (I : Inv X pins σ H s) : Env0 X.prog X.w X.K X.mg X.base X.A X.stack s H :=
 ⟨I.ok.frames, I.ok.mod, I.bs, Nat.le_trans I.ok.bsz I.sz, I.stack, I.stkFree, I.hok, I.bare⟩
theorem Inv.after {Q : VK} {u : Value} (I : Inv X pins σ H s) (h : CE X.stack X.prog X.w H s Q u s') : EP X pins σ Q u s' := by
 obtain ⟨v, H', os, bare, un, hok, r, q⟩ := h
 obtain ⟨hh, g, d, t, os'⟩ := s'
 obtain rfl : os' = s.os := os
 exact ⟨v, H', I.call (h' := hh) (g' := g) (d' := d) (t' := t) (ch := []) un hok bare (fun b z => absurd z (by simp)), r, q⟩
end
def tCall (sp : Sp) (dvs : List V) (E : XK) (t : TA) : TE := fun σ H Q => t σ H fun vs H1 => sp (vs ++ dvs) H1 Q E
def Binds (K : W.Frag) (fd : FuncData) (ps : List Str) (ds : List Value) : Prop :=
 ∀ (s : Shared) (us : List Value), K.In s.heap -> (us ++ ds).length = ps.length -> BindsTo s fd ⟨us, []⟩ (ps.zip (us ++ ds))
theorem Binds.all {K : W.Frag} {fd : FuncData} {ps : List Str} (h : ∀ us : List Value, us.length = ps.length -> bindArgs fd ⟨us, []⟩ = pure (ps.zip us)) : Binds K fd ps [] := fun s us _ hl => by
 rw [append_nil] at hl ⊢
 exact .of_eq (h us hl)
def Passes (CX : CXT) (X : Cx) (E : XK) : Prop := ∀ (pins : List (Addr × Obj)) (σ : St) (H : Hp) (s : Shared) (e : Value) (s' : Shared), Inv X pins σ H s -> CX X.stack H s E e s' -> X.xe e s'
section
variable {X : Cx} {CX : CXT} {k : Nat} {f C : Addr} {fd : FuncData} {ps : List Str} {sp : Sp} {dvs : List V} {ds : List Value} {E : XK} {x m : Str} {p pos apos : Pos} {e o : Expr} {es : List Expr} {ta : TE} {t : TA}
theorem run_fn {pins : List (Addr × Obj)} {σ : St} {H : Hp} {s : Shared} {Q : VK} {us : List Value} {vs : List V} (F : FnOk X.prog X.w X.K X.mg X.base CX k f fd ps sp) (hr : Room k X.A) (hb : Binds X.K fd ps ds) (hd : Vals dvs ds) (hx : Passes CX X E)
  (I : Inv X pins σ H s) (r : Vals vs us) (h : sp (vs ++ dvs) H Q E) : wpAny (model X.prog X.w) X.A (call (.ref f) us) (EP X pins σ Q) X.xe s := by
 have r2 : Vals (vs ++ dvs) (us ++ ds) := r.append hd
 have hl : (us ++ ds).length = ps.length := by rw [<- r2.length]; exact F.len _ _ _ _ h
 refine wpAny_call (codeAny_mono (F.run X.A X.stack s H ⟨us, []⟩ (us ++ ds) (vs ++ dvs) Q E hr I.env0 (hb s us I.kIn hl) r2 h) fun r s' hq => ?_)
 cases r with
 | error e => exact hx pins σ H s e s' I hq
 | ok fl =>
  cases fl with
  | ret u => exact I.after hq
  | next => exact False.elim hq
  | brk => exact False.elim hq
  | cont => exact False.elim hq
theorem pe_call (F : FnOk X.prog X.w X.K X.mg X.base CX k f fd ps sp) (hr : Room k X.A) (hg : Gl X x) (hm : X.mg x = some (.ref f)) (hk : W.keepIn X.K (.ref f) = true) (hb : Binds X.K fd ps ds) (hd : Vals dvs ds) (hx : Passes CX X E)
  (ha : PA X (e :: es) t) (hdb : (x == ("__debug__" : Str)) = false := by decide) (he : starEach (e :: es) X.env = (false, eval e X.env) :: starEach es X.env := by rfl) (hpl : (backTo pos (starEach es X.env)).any (·.1) = false := by rfl) :
  PE X (.Call (.Name x p) (e :: es) [] pos) (tCall sp dvs E t) := by
 intro pins s σ H Q I h
 refine wpAny_Call_Name_kw (ld_glob I hg hm ?_ hdb)
 refine W.callWith_K (h₀ := X.base) I.ok.mod.kin hk (thn (ha pos pins s σ H _ I h) fun us s1 ⟨vs, H1, I1, r, q⟩ => ⟨I1.kIn, ?_⟩) he hpl
 exact run_fn F hr hb hd hx I1 r q
structure Mk (K : W.Frag) (C f : Addr) : Prop where
 makes : W.makesIn K C = true
 init : W.findIn K (.ref C) "__init__" = some (some (.ref f))
 fn : W.isFn K (.ref f) = true
 kp : W.keepIn K (.ref C) = true
end
def PK (X : Cx) (kws : List Keyword) (t : TA) : Prop :=
 ∀ (pos : Pos) (pins : List (Addr × Obj)) (s : Shared) (σ : St) (H : Hp) (Q : List V -> Hp -> Prop), Inv X pins σ H s -> t σ H Q -> wpAny (model X.prog X.w) X.A (evalAll ((backToKw pos (keywordEach kws X.env)).map (·.2))) (AP X pins σ Q) X.xe s
section
variable {X : Cx} {CX : CXT} {k : Nat} {f C : Addr} {fd : FuncData} {ps ks : List Str} {sp : Sp} {E : XK} {x m : Str} {p pos apos kpos : Pos} {e o : Expr} {es : List Expr} {kws : List Keyword} {te ta : TE} {t tk : TA} {nm : Option Str}
theorem pk_nil : PK X [] tNil := fun _ _ _ _ H Q I h => wpAny_evalAll_nil ⟨[], H, I, .nil, h⟩
theorem pk_cons (ha : PE X e te) (hr : PK X kws t) : PK X (⟨nm, e, kpos⟩ :: kws) (tCons te t) := by
 intro pos pins s σ H Q I h
 show wpAny _ _ (evalAll ((do let v ← eval e X.env; standAt pos; pure v) :: (backToKw pos (keywordEach kws X.env)).map (·.2))) _ _ s
 refine wpAny_evalAll_cons (wpAny_bind (thn (ha pins s σ H _ I h) fun u s1 ⟨x, H1, I1, r1, q1⟩ => wpAny_bind (wpAny_standAt (wpAny_pure ?_))))
 exact thn (hr pos pins s1 σ H1 _ I1 q1) fun us s2 ⟨xs, H2, I2, r2, q2⟩ => ⟨x :: xs, H2, I2, .cons r1 r2, q2⟩
structure KBinds (K : W.Frag) (fd : FuncData) (ps ks : List Str) (g : List Value -> List Value -> List Value) (gV : List V -> List V -> List V) : Prop where
 to : ∀ (s : Shared) (us ws : List Value), K.In s.heap -> (g us ws).length = ps.length -> BindsTo s fd ⟨us, ks.zip ws⟩ (ps.zip (g us ws))
 rel : ∀ {vs : List V} {us : List Value} {zs : List V} {ws : List Value}, Vals vs us -> Vals zs ws -> Vals (gV vs zs) (g us ws)
variable {g : List Value -> List Value -> List Value} {gV : List V -> List V -> List V}
end
structure FnScope (N P : List Str) (sc : Scope) : Prop where
 kind : sc.kind = .function
 co : sc.isCoroutine = false
 gen : sc.isGenerator = false
 nd : N.Nodup
 pre : N.take P.length = P
 par : ∀ x ∈ P, sc.names.lookup x = some .local \/ sc.names.lookup x = some .cell
 nofree : ∀ y ∈ sc.names, y.2 ≠ .free
theorem bindL_out {kindOf : Str -> Option NameKind} {x : Str} : ∀ {binds : List (Str × Value)} {m : Str -> Option Value}, (∀ v, (x, v) ∉ binds) -> bindL kindOf binds m x = m x
 | [], _, _ => rfl
 | (n, v) :: r, m, h => by
  unfold bindL
  rw [bindL_out fun w hw => h w (mem_cons_of_mem _ hw)]
  split
  ·have : x ≠ n := by rintro rfl; exact h v mem_cons_self
   simp [this]
  ·rfl
theorem bindC_out {kindOf : Str -> Option NameKind} {x : Str} : ∀ {binds : List (Str × Value)} {m : Str -> Option Value}, (∀ v, (x, v) ∉ binds) -> bindC kindOf binds m x = m x
 | [], _, _ => rfl
 | (n, v) :: r, m, h => by
  unfold bindC
  rw [bindC_out fun w hw => h w (mem_cons_of_mem _ hw)]
  split
  ·rfl
  ·have : x ≠ n := by rintro rfl; exact h v mem_cons_self
   simp [this]
theorem bindL_get {kindOf : Str -> Option NameKind} {x : Str} {v : Value} : ∀ {P : List Str} {vs : List Value} {i : Nat} {m : Str -> Option Value}, P.Nodup -> P[i]? = some x -> vs[i]? = some v -> kindOf x = some .local ->
  bindL kindOf (P.zip vs) m x = some v
 | [], _, _, _, _, h, _, _ => by simp at h
 | _ :: _, [], _, _, _, _, h, _ => by simp at h
 | p :: P, w :: vs, 0, m, nd, h1, h2, hk => by
  simp at h1 h2; subst h1; subst h2
  show bindL kindOf ((p, w) :: P.zip vs) m p = _
  unfold bindL
  rw [bindL_out fun v hv => (List.nodup_cons.mp nd).1 (of_mem_zip hv).1, if_pos hk]
  simp
 | p :: P, w :: vs, i + 1, m, nd, h1, h2, hk => by
  show bindL kindOf ((p, w) :: P.zip vs) m x = _
  unfold bindL
  exact bindL_get (i := i) (List.nodup_cons.mp nd).2 (by simpa using h1) (by simpa using h2) hk
theorem bindC_get {kindOf : Str -> Option NameKind} {x : Str} {v : Value} : ∀ {P : List Str} {vs : List Value} {i : Nat} {m : Str -> Option Value}, P.Nodup -> P[i]? = some x -> vs[i]? = some v -> kindOf x ≠ some .local ->
  bindC kindOf (P.zip vs) m x = some v
 | [], _, _, _, _, h, _, _ => by simp at h
 | _ :: _, [], _, _, _, _, h, _ => by simp at h
 | p :: P, w :: vs, 0, m, nd, h1, h2, hk => by
  simp at h1 h2; subst h1; subst h2
  show bindC kindOf ((p, w) :: P.zip vs) m p = _
  unfold bindC
  rw [bindC_out fun v hv => (List.nodup_cons.mp nd).1 (of_mem_zip hv).1, if_neg hk]
  simp
 | p :: P, w :: vs, i + 1, m, nd, h1, h2, hk => by
  show bindC kindOf ((p, w) :: P.zip vs) m x = _
  unfold bindC
  exact bindC_get (i := i) (List.nodup_cons.mp nd).2 (by simpa using h1) (by simpa using h2) hk
noncomputable def start (N : List Str) (vs : List V) : St := vs.map some ++ List.replicate (N.length - vs.length) none
noncomputable def cxOf (CX : CXT) (P : Program) (w : World) (K : W.Frag) (mg : Str -> Option Value) (base : Heap) (N : List Str) (qual : Str) (scope : Scope) (f : Addr) (cd : Value) (A : Around) (outer : List Env) (s : Shared) (H : Hp) (E : XK) : Cx where
 prog := P
 w := w
 K := K
 mg := mg
 base := base
 A := A.deeper (envOfC qual scope s.heap.objs.size f cd)
 N := N
 s₀ := s
 H₀ := H
 env := envOfC qual scope s.heap.objs.size f cd
 outer := outer
 stack := envOfC qual scope s.heap.objs.size f cd :: outer
 ex := []
 calm := true
 fn := fun _ => true
 pn := []
 xe := fun e s' => wpAny (model P w) (A.deeper (envOfC qual scope s.heap.objs.size f cd)) (leaving (envOfC qual scope s.heap.objs.size f cd) e) (fun _ s'' => CX outer H s E e s'') (fun e' s'' => CX outer H s E e' s'') s'
theorem cell_has {sc : Scope} {n : Nat} {x : Str} (h : sc.names.lookup x = some .cell) : ∃ c, (cellsFrom n sc.names []).lookup x = some c := by
 have q := W.cellsFrom_some sc.names n [] (.inl h)
 exact Option.isSome_iff_exists.mp q
theorem inv_start {CX : CXT} {P : Program} {w : World} {K : W.Frag} {mg : Str -> Option Value} {base : Heap} {N ps : List Str} {qual : Str} {scope : Scope} {f : Addr} {cd : Value} {A : Around} {outer : List Env} {s s1 : Shared} {H : Hp} {E : XK} {us : List Value} {vs : List V}
  (S : FnScope N ps scope) (hd : A.handled = none) (e0 : Env0 P w K mg base A outer s H) (hl : vs.length = ps.length) (r : Vals vs us)
  (x : InCallC s s.heap.objs.size (bindL (envOfC qual scope s.heap.objs.size f cd).kindOf (ps.zip us) fun _ => none) (cellsFrom (s.heap.objs.size + 1) scope.names []) (bindC (envOfC qual scope s.heap.objs.size f cd).kindOf (ps.zip us) fun _ => none) s1) :
  Inv (cxOf CX P w K mg base N qual scope f cd A outer s H E) [] (start N vs) H s1 := by
 have hpl : ps.length <= N.length := by have := congrArg List.length S.pre; rw [length_take] at this; omega
 obtain ⟨h1, tk, rfl, hk⟩ := x.done
 have noA : ∀ b : Addr, b ∉ (cxOf CX P w K mg base N qual scope f cd A outer s H E).ex := fun b z => absurd (show b ∈ ([] : List Addr) from z) (by simp)
 refine ⟨⟨e0.mod, S.kind, rfl, rfl, Nat.le_refl _, fun y z c h1 h2 => ?_, fun y hy => ?_, fun y c _ h => ?_, fun _ => hd, Around.frames_deeper e0.frames, .inr ⟨rfl, rfl⟩, fun b z => absurd z (noA b), e0.bs, e0.bsz, fun b _ _ => noA b, fun b z => absurd z (noA b), e0.funs, e0.frf⟩,
  rfl, e0.bare, Un.kept hk, ⟨_, x.toInCall.ns, fun i y v h1 h2 h3 => ?_⟩, fun y c h => ⟨_, x.cell y c h⟩, e0.hok.fresh (Nat.le_refl _), fun y c h => ?_, fun p hp => absurd (show p ∈ ([] : List (Addr × Obj)) from hp) (by simp), e0.hok.kept hk, ?_⟩
 ·exact name_of_addr x.apart (PySem.mem_of_lookup h1) (PySem.mem_of_lookup h2)
 ·have hy : scope.names.lookup y = some .cell \/ scope.names.lookup y = some .free := hy
  rcases hy with hy | hy
  ·exact cell_has hy
  ·exact absurd rfl (S.nofree _ (PySem.mem_of_lookup hy))
 ·exact Nat.le_of_lt (x.above y c (PySem.mem_of_lookup h))
 ·have hi : i < vs.length := by
   unfold start at h2
   by_cases hi : i < vs.length
   ·exact hi
   ·rw [getElem?_append_right (by simpa using hi)] at h2
    rw [getElem?_replicate] at h2
    split at h2 <;> cases h2
  have ha : vs[i]? = some v := by
   unfold start at h2
   rw [getElem?_append_left (by simpa using hi), getElem?_map] at h2
   cases e : vs[i]? with
   | none => rw [e] at h2; cases h2
   | some a => rw [e] at h2; cases h2; rfl
  obtain ⟨u, hu, rv⟩ := r.get ha
  have hp : ps[i]? = some y := by
   rw [<- S.pre, getElem?_take_of_lt (by omega)]; exact h1
  have ndP : ps.Nodup := by rw [<- S.pre]; exact S.nd.sublist (take_sublist _ _)
  refine ⟨u, rv, ?_⟩
  rcases S.par y (mem_of_getElem? hp) with k | k
  ·exact .inl ⟨k, bindL_get ndP hp hu k⟩
  ·obtain ⟨c, e⟩ := cell_has (n := s.heap.objs.size + 1) k
   refine .inr ⟨.inl k, c, e, ?_⟩
   have q := x.cell y c e
   rw [bindC_get ndP hp hu (by show scope.names.lookup y ≠ _; rw [k]; decide)] at q
   exact q
 ·exact e0.hok.fresh (Nat.le_of_lt (x.above y c (PySem.mem_of_lookup h)))
 ·unfold start
  show _ = N.length
  rw [length_append, length_map, length_replicate]
  omega
theorem fn_of {CX : CXT} {P : Program} {w : World} {K : W.Frag} {mg : Str -> Option Value} {base : Heap} {k : Nat} {f : Addr} {name qual : Str} {params : Arguments} {body : List Stmt} {scope : Scope} {dV kV doc pm cdv ct oc : Value} {an od : Option Addr}
  {osl : Array (Option Value)} {N ps : List Str} {sp : Sp} (lk : K.lookup f = some ⟨oc, od, .func (W.fnOf name qual params body scope dV kV doc pm an cdv ct), osl⟩) (hcd : W.codeIn K cdv qual = true) (S : FnScope N ps scope)
  (len : ∀ vs H Q E, sp vs H Q E -> vs.length = ps.length)
  (hbody : ∀ (A : Around) (outer : List Env) (s : Shared) (H : Hp) (vs : List V) (Q : VK) (E : XK), Room k (A.deeper (envOfC qual scope s.heap.objs.size f cdv)) -> sp vs H Q E ->
   ∃ t, PSs (cxOf CX P w K mg base N qual scope f cdv A outer s H E) body t /\ t { nx := fun _ H' => Q .non H', rt := Q } (start N vs) H) :
  FnOk P w K mg base CX (k + 1) f (W.fnOf name qual params body scope dV kV doc pm an cdv ct) ps sp := by
 refine ⟨len, fun A outer s H args us vs Q E hr e0 hb r hsp => ?_⟩
 have hl := len _ _ _ _ hsp
 have KX : K.In s.heap := e0.mod.kin.keeps fun b o e => (e0.bs b o e).1
 have lim : s.heap.NoLimit := e0.mod.nolimit.keeps fun b o e => (e0.bs b o e).1
 have hkind : ∀ y ∈ ps.zip us, scope.names.lookup y.1 = some .local \/ (scope.names.lookup y.1 = some .cell /\ ((cellsFrom (s.heap.objs.size + 1) scope.names []).lookup y.1).isSome = true) := fun ⟨n, v⟩ hy => by
  rcases S.par n (of_mem_zip hy).1 with q | q
  ·exact .inl q
  ·exact .inr ⟨q, W.cellsFrom_some _ _ _ (.inl q)⟩
 refine codeAny_call_function hr.depth (KX _ _ lk) rfl S.co S.gen rfl (W.codeRec_of KX hcd) (hb _ _ _ _ ?_)
 refine wpAny_newFunctionEnv_cells S.kind hkind fun env he s1 x => ?_
 subst he
 refine ⟨lim.keeps x.toInCall.keep, codeAny_func ?_⟩
 obtain ⟨t, ht, hq⟩ := hbody A outer s H vs Q E (hr.deeper _) hsp
 have I : Inv (cxOf CX P w K mg base N qual scope f cdv A outer s H E) [] (start N vs) H s1 := inv_start S hr.hd e0 hl r x
 refine wpAny_mono (ht [] s1 (start N vs) H _ I hq) (fun fl s' hs => ?_) fun e s' hs => hs
 have fin : ∀ {σ' : St} {H' : Hp} {v : V} {u : Value}, Inv (cxOf CX P w K mg base N qual scope f cdv A outer s H E) [] σ' H' s' -> RelV v u -> Q v H' -> CE outer P w H s Q u s' :=
  fun {σ' H' v u} J rv q => ⟨v, H', J.os, J.bare, J.base, J.hok, rv, q⟩
 cases fl with
 | ret u =>
  obtain ⟨v, σ', H', J, rv, q⟩ := hs
  exact fin J rv q
 | next =>
  obtain ⟨σ', H', J, q⟩ := hs
  exact fin (v := V.non) (u := Value.none) J rfl q
 | brk =>
  obtain ⟨_, _, _, q⟩ := hs
  exact False.elim q
 | cont =>
  obtain ⟨_, _, _, q⟩ := hs
  exact False.elim q
end
section
section
variable {X : Cx} {x : Str} {p pos : Pos} {e : Expr} {es : List Expr} {t : TA} {id T : String} {r : List V -> Hp -> VK -> Prop}
def tCB (r : List V -> Hp -> VK -> Prop) (t : TA) : TE := fun σ H Q => t σ H fun vs H1 => r vs H1 Q
theorem pe_callB (hc : CallR X (.builtin id) r) (hg : Gl X x) (hm : X.mg x = none) (hv : bootBuiltins x = some (.builtin id)) (ha : PA X (e :: es) t) (hn : x ≠ "__name__" := by decide) (hdb : (x == ("__debug__" : Str)) = false := by decide)
  (he : starEach (e :: es) X.env = (false, eval e X.env) :: starEach es X.env := by rfl) (hpl : (backTo pos (starEach es X.env)).any (·.1) = false := by rfl) : PE X (.Call (.Name x p) (e :: es) [] pos) (tCB r t) := by
 intro pins s σ H Q I h
 refine wpAny_Call_Name_kw (ld_blt I hg hm hv ?_ hn hdb)
 exact PyProof.Rows.callWith_builtin1 (thn (ha pos pins s σ H _ I h) fun us s1 ⟨vs, H1, I1, r1, q1⟩ => hc pins s1 σ H1 vs us Q I1 r1 q1) he hpl
theorem pe_callTy (hc : CallR X (.type T) r) (hg : Gl X x) (hm : X.mg x = none) (hv : bootBuiltins x = some (.type T)) (ha : PA X (e :: es) t) (hn : x ≠ "__name__" := by decide) (hdb : (x == ("__debug__" : Str)) = false := by decide)
  (he : starEach (e :: es) X.env = (false, eval e X.env) :: starEach es X.env := by rfl) (hpl : (backTo pos (starEach es X.env)).any (·.1) = false := by rfl) : PE X (.Call (.Name x p) (e :: es) [] pos) (tCB r t) := by
 intro pins s σ H Q I h
 refine wpAny_Call_Name_kw (ld_blt I hg hm hv ?_ hn hdb)
 exact PyProof.Rows.callWith_type1 (thn (ha pos pins s σ H _ I h) fun us s1 ⟨vs, H1, I1, r1, q1⟩ => hc pins s1 σ H1 vs us Q I1 r1 q1) he hpl
end
end
end L2
namespace HT
open PySem PyProof.Rows
theorem rcLt_int (A : Around) (s : Shared) (a : Int) (t : Tok) (c : Int) (u : Tok) (prog : Program) (w : World) (E : Value -> Shared -> Prop) (Q : Value -> Shared -> Prop) (h : Q (.bool (decide (a < c))) s) :
  wpAny (model prog w) A (richCompare .Lt (.int a t) (.int c u)) Q E s :=
 (PyProof.Rows.lt_int h : wpAny (model prog w) A (compareOp .Lt (.int a t) (.int c u)) Q E s)
section
open PySem.SeqAt
open PySem.AutoSeq1 (wpAny_loadPart')
open PySem.MeetsSeq PySem.MeetsSeq2 PySem.MeetsSeq3
end
section
variable {prog : Program} {w : World} {A : Around} {E : Value -> Shared -> Prop} {s : Shared}
noncomputable def sIx (n d : Nat) : Option Int -> Nat
 | none => d
 | some v => if v < 0 then (v + (n : Int)).toNat else min v.toNat n
theorem sIx_none (n d : Nat) : sIx n d none = d := rfl
theorem sIx_nat (n d k : Nat) : sIx n d (some (k : Int)) = min k n := by
 show (if (k : Int) < 0 then ((k : Int) + (n : Int)).toNat else min (k : Int).toNat n) = min k n
 rw [if_neg (by omega), Int.toNat_natCast]
end
end HT
namespace L2
open List
open PySem PySem.Spec PyProof.Rows
section
noncomputable abbrev TO := St -> Hp -> (Option Int -> Hp -> Prop) -> Prop
def PO (X : Cx) (e : Option Expr) (t : TO) : Prop :=
 ∀ (pins : List (Addr × Obj)) (s : Shared) (σ : St) (H : Hp) (Q : Option Int -> Hp -> Prop), Inv X pins σ H s -> t σ H Q ->
  wpAny (model X.prog X.w) X.A (evalPart e X.env) (fun u s' => ∃ o H', Inv X pins σ H' s' /\ IsPart u o /\ Q o H') X.xe s
noncomputable def tNoPart : TO := fun _ H Q => Q none H
noncomputable def tPart (t : TE) : TO := fun σ H Q => t σ H fun x H1 => ∃ i, x = .int i /\ Q (some i) H1
section
variable {X : Cx} {e : Expr} {te : TE} {lo hi : Option Expr} {tl th : TO} {pos p2 : Pos}
theorem po_none : PO X none tNoPart := by
 intro pins s σ H Q I h
 rw [evalPart_none]
 exact wpAny_pure ⟨none, H, I, .none, h⟩
theorem po_some (h : PE X e te) : PO X (some e) (tPart te) := by
 intro pins s σ H Q I hw
 rw [evalPart_some]
 refine thn (h pins s σ H _ I hw) fun u s1 hpat => ?_
 obtain ⟨x, H1, I1, r1, q1⟩ := hpat
 obtain ⟨i, rfl, q⟩ := q1
 obtain ⟨t, rfl⟩ := r1
 exact ⟨some i, H1, I1, .int i t, q⟩
def SlR (X : Cx) (r : V -> Option Int -> Option Int -> Hp -> VK -> Prop) : Prop :=
 ∀ (pins : List (Addr × Obj)) (s : Shared) (σ : St) (H : Hp) (x : V) (v vl vu : Value) (lo hi : Option Int) (sl : Addr) (Q : VK), Inv X pins σ H s -> RelV x v -> s.heap.IsSliceOf sl vl vu .none -> IsPart vl lo -> IsPart vu hi -> r x lo hi H Q ->
  ∃ T id, typeLookup (.type T) "__getitem__" = pure (some (.builtin id)) /\ s.TypeIs v T /\ wpAny (model X.prog X.w) X.A (getItem v (.ref sl)) (EP X pins σ Q) X.xe s
def tSl (r : V -> Option Int -> Option Int -> Hp -> VK -> Prop) (te : TE) (tl th : TO) : TE := fun σ H Q => te σ H fun x H1 => tl σ H1 fun l H2 => th σ H2 fun u H3 => r x l u H3 Q
theorem pe_slice {r : V -> Option Int -> Option Int -> Hp -> VK -> Prop} (hr : SlR X r) (he : PE X e te) (hl : PO X lo tl) (hu : PO X hi th) : PE X (.Subscript e (.Slice lo hi none p2) pos) (tSl r te tl th) := by
 intro pins s σ H Q I h
 refine Subscript_ (thn (he pins s σ H _ I h) fun v s1 hpat => ?_)
 obtain ⟨x, H1, I1, r1, q1⟩ := hpat
 refine wpAny_Slice (thn (hl pins s1 σ H1 _ I1 q1) fun vl s2 ⟨l, H2, I2, pl, q2⟩ => thn (hu pins s2 σ H2 _ I2 q2) fun vu s3 hpat => ?_)
 obtain ⟨u, H3, I3, pu, q3⟩ := hpat
 rw [evalPart_none]
 refine wpAny_pure ?_
 have I4 : Inv X pins σ H3 { s3 with heap := s3.heap.push { cls := .type "slice", data := .fields #[vl, vu, .none] } } := I3.kept (t' := s3.toks) fun b ob q => Heap.get?_push_of_some _ q
 obtain ⟨T, id, hT, ht, hg⟩ := hr pins { s3 with heap := s3.heap.push { cls := .type "slice", data := .fields #[vl, vu, .none] } } σ H3 x v vl vu l u s3.heap.objs.size Q I4 r1 (Heap.IsSliceOf.new ..) pl pu q3
 show wpAny (model X.prog X.w) X.A (subscriptTail e (.Slice lo hi none p2) v (.ref s3.heap.objs.size)) (EP X pins σ Q) X.xe { s3 with heap := s3.heap.push { cls := .type "slice", data := .fields #[vl, vu, .none] } }
 exact tail_any (ops := [.ref s3.heap.objs.size, v]) ht hT hg (by with_unfolding_all rfl)
noncomputable def cutV (xs : List V) (lo hi : Option Int) : List V := (xs.drop (HT.sIx xs.length 0 lo)).take (HT.sIx xs.length xs.length hi - HT.sIx xs.length 0 lo)
theorem cutV_length (xs : List V) (lo hi : Option Int) : (cutV xs lo hi).length <= xs.length := by
 unfold cutV
 rw [length_take, length_drop]
 omega
end
end
section
noncomputable def ixN (n : Nat) (i : Int) : Option Nat := if 0 <= i then (if i < n then some i.toNat else none) else if -(n : Int) <= i then some (i + n).toNat else none
noncomputable def atI {α : Type} (xs : List α) (i : Int) : Option α := (ixN xs.length i).bind fun j => xs[j]?
theorem ixN_seq {n : Nat} {i : Int} {j : Nat} (h : ixN n i = some j) : seqIndex? i n = some j /\ j < n /\ -(n : Int) <= i /\ i < n := by
 unfold ixN at h
 by_cases h0 : 0 <= i
 ·rw [if_pos h0] at h
  by_cases h1 : i < n
  ·rw [if_pos h1] at h
   have e : i.toNat = j := Option.some.inj h
   exact ⟨by rw [seqIndex_of h0 h1, e], by omega, by omega, h1⟩
  ·rw [if_neg h1] at h; cases h
 ·rw [if_neg h0] at h
  by_cases h1 : -(n : Int) <= i
  ·rw [if_pos h1] at h
   have e : (i + n).toNat = j := Option.some.inj h
   exact ⟨by rw [seqIndex_neg (by omega) h1, e], by omega, h1, by omega⟩
  ·rw [if_neg h1] at h; cases h
theorem atI_get {α : Type} {xs : List α} {i : Int} {v : α} (h : atI xs i = some v) : ∃ j, seqIndex? i xs.length = some j /\ xs[j]? = some v /\ j < xs.length /\ -(xs.length : Int) <= i /\ i < xs.length := by
 unfold atI at h
 cases e : ixN xs.length i with
 | none => rw [e] at h; cases h
 | some j =>
  rw [e] at h
  obtain ⟨h1, h2, h3, h4⟩ := ixN_seq e
  exact ⟨j, h1, h, h2, h3, h4⟩
theorem atI_last {α : Type} (xs : List α) (v : α) : atI (xs ++ [v]) (-1) = some v := by
 have hl : (xs ++ [v]).length = xs.length + 1 := by simp
 have e : ixN (xs ++ [v]).length (-1) = some xs.length := by
  unfold ixN
  rw [hl, if_neg (by decide), if_pos (by omega)]
  congr 1
  omega
 unfold atI
 rw [e]
 show (xs ++ [v])[xs.length]? = some v
 simp
def PlainIx (b : Expr) : Prop := ∀ o i, subscripted b false o i = operate [o, i] (getItem o i)
def IxR (X : Cx) (r : R2) : Prop :=
 ∀ (value slice : Expr) (pins : List (Addr × Obj)) (s : Shared) (σ : St) (H : Hp) (x y : V) (v u : Value) (Q : VK), Inv X pins σ H s -> RelV x v -> RelV y u -> r x y H Q ->
  subscripted slice false v u = operate [v, u] (getItem v u) -> wpAny (model X.prog X.w) X.A (subscriptTail value slice v u) (EP X pins σ Q) X.xe s
def MtR (X : Cx) (id : String) (r : V -> List V -> Hp -> VK -> Prop) : Prop :=
 ∀ (pins : List (Addr × Obj)) (s : Shared) (σ : St) (H : Hp) (x : V) (xs : List V) (v : Value) (us : List Value) (Q : VK), Inv X pins σ H s -> RelV x v -> Vals xs us -> r x xs H Q ->
  wpAny (model X.prog X.w) X.A (call (.builtin id) (v :: us)) (EP X pins σ Q) X.xe s
section
variable {X : Cx} {a b : Expr} {ta tb : TE} {pos : Pos}
theorem pe_ix {r : R2} (hr : IxR X r) (ha : PE X a ta) (hb : PE X b tb) (hs : PlainIx b) : PE X (.Subscript a b pos) (tOp r ta tb) := by
 intro pins s σ H Q I h
 exact Subscript_ (binT ha hb I h fun v u s2 x y H2 I2 rx ry q => hr a b pins s2 σ H2 x y v u Q I2 rx ry q (hs _ _))
def rIxL (K : W.Frag) : R2 := fun x y H Q => ∃ p xs i v, x = .ref p /\ y = .int i /\ SqL K H p xs /\ atI xs i = some v /\ Q v H
theorem ix_list : IxR X (rIxL X.K) := by
 intro value slice pins s σ H x y v u Q I rx ry h hs
 obtain ⟨p, xs, i, z, rfl, rfl, hq, he, q⟩ := h
 cases rx
 obtain ⟨t, rfl⟩ := ry
 obtain ⟨its, r, pl, hz⟩ := I.list hq
 obtain ⟨j, h1, h2, h3, h4, h5⟩ := atI_get he
 obtain ⟨w, ew, rw'⟩ := r.get h2
 have hl := r.length
 have hn := line63
 have fin : EP X pins σ Q w s := ⟨z, H, I, rw', q⟩
 by_cases h0 : 0 <= i
 ·have hj : i.toNat = j := by
   rw [seqIndex_of h0 h5] at h1
   exact Option.some.inj h1
  exact item_listR pl.isList h0 (by omega) (by rw [hj]; simpa using ew) fin hs
 ·have hj : (i + (its.toArray.size : Int)).toNat = j := by
   rw [seqIndex_neg (by omega) h4] at h1
   rw [size_toArray, <- hl]
   exact Option.some.inj h1
  exact subscriptTail_builtinR (x := w) pl.isList.typeIs slot_list_getitem.lookup
   (wpAny_getItem_list_neg (Q := fun r s' => r = w /\ EP X pins σ Q r s') pl.isList (by omega) (by rw [size_toArray] <;> omega) (by omega) (by rw [hj]; simpa using ew) ⟨rfl, fin⟩) hs
theorem mapSeq_set (its : List Value) (n j : Nat) (u : Value) : Obj.mapSeq (·.setIfInBounds j u) { cls := .type "list", data := .seq its.toArray n } = { cls := .type "list", data := .seq (its.set j u).toArray n } := by
 simp [Obj.mapSeq]
theorem Inv.lst {pins : List (Addr × Obj)} {σ : St} {H : Hp} {s : Shared} {p : Addr} {xs : List V} (I : Inv X pins σ H s) (h : H p = some (.lst xs)) :
  ∃ (its : List Value) (n : Nat), Vals xs its /\ s.heap.get? p = some { cls := .type "list", data := .seq its.toArray n } /\ xs.length <= sizeLine := by
 obtain ⟨z, its, n, r, e⟩ := I.hok p _ h
 exact ⟨its, n, r, e, z⟩
theorem Inv.lstUpd {pins : List (Addr × Obj)} {σ : St} {H : Hp} {s : Shared} {p : Addr} {xs ys : List V} {its its' : List Value} {n n' : Nat} {f : Obj -> Obj} (I : Inv X pins σ H s) (h : H p = some (.lst xs))
  (ho : s.heap.get? p = some { cls := .type "list", data := .seq its.toArray n }) (hf : f { cls := .type "list", data := .seq its.toArray n } = { cls := .type "list", data := .seq its'.toArray n' }) (r : Vals ys its') (hz : ys.length <= sizeLine) (t : Nat) :
  Inv X pins σ (upd H p (.lst ys)) { s with heap := s.heap.update p f, toks := t } := by
 have e : (s.heap.update p f).get? p = some { cls := .type "list", data := .seq its'.toArray n' } := by
  rw [Heap.get?_update_self f ho (by rw [hf] <;> rfl), hf]
 refine I.write (x := p) (e := p) (by rw [h]; trivial) (.inl rfl) (fun b u hb q => (Heap.get?_update_other _ _ (Ne.symm hb)).trans q) ⟨_, e⟩ ?_
 exact ⟨hz, its', n', r, e⟩
def rSetL : V -> V -> V -> Hp -> (Hp -> Prop) -> Prop := fun o i v H Q => ∃ p xs k j, o = .ref p /\ i = .int k /\ H p = some (.lst xs) /\ ixN xs.length k = some j /\ Q (upd H p (.lst (xs.set j v)))
theorem set_list : PSet X rSetL := by
 intro pins s σ H o i v ov iv u Q I ro ri rv h
 obtain ⟨p, xs, k, j, rfl, rfl, hp, hj, q⟩ := h
 cases ro
 obtain ⟨t, rfl⟩ := ri
 obtain ⟨its, n, r, ho, hz⟩ := I.lst hp
 obtain ⟨h1, h2, h3, h4⟩ := ixN_seq hj
 have hl := r.length
 have hn := line63
 have I' : Inv X pins σ (upd H p (.lst (xs.set j v))) { s with heap := s.heap.update p (Obj.mapSeq (·.setIfInBounds j u)) } :=
  I.lstUpd hp ho (mapSeq_set its n j u) (r.set rv j) (by rw [length_set]; exact hz) s.toks
 by_cases h0 : 0 <= k
 ·have hk : k.toNat = j := by
   rw [seqIndex_of h0 h4] at h1
   exact Option.some.inj h1
  exact W.ki_setAt ho h0 (by omega) (by rw [size_toArray, <- hl]; exact h4) (by rw [hk]; exact ⟨_, I', q⟩)
 ·have hk : (k + (its.toArray.size : Int)).toNat = j := by
   rw [seqIndex_neg (by omega) h3] at h1
   rw [size_toArray, <- hl]
   exact Option.some.inj h1
  exact W.ki_setBack ho (by omega) (by rw [size_toArray, <- hl]; exact h3) (by omega) (by rw [hk]; exact ⟨_, I', q⟩)
theorem slice_bounds (lo hi : Option Int) (n : Nat) : (sliceBounds lo hi none n).1 = ((HT.sIx n 0 lo : Nat) : Int) /\ (sliceBounds lo hi none n).2.1 = ((HT.sIx n n hi : Nat) : Int) /\ (sliceBounds lo hi none n).2.2 = 1 := by
 refine ⟨?_, ?_, rfl⟩
 ·cases lo with
  | none => simp [sliceBounds, HT.sIx]
  | some i =>
   simp only [sliceBounds, HT.sIx, Option.getD_none, show (1 : Int) > 0 by decide, if_true]
   by_cases h : i < 0
   ·simp only [h, if_true] <;> omega
   ·simp only [h, if_false] <;> omega
 ·cases hi with
  | none => simp [sliceBounds, HT.sIx]
  | some i =>
   simp only [sliceBounds, HT.sIx, Option.getD_none, show (1 : Int) > 0 by decide, if_true]
   by_cases h : i < 0
   ·simp only [h, if_true] <;> omega
   ·simp only [h, if_false] <;> omega
theorem slicePick_cut (its : List Value) (lo hi : Option Int) : slicePick its.toArray lo hi none = ((its.drop (HT.sIx its.length 0 lo)).take (HT.sIx its.length its.length hi - HT.sIx its.length 0 lo)).toArray := by
 obtain ⟨h1, h2, h3⟩ := slice_bounds lo hi its.toArray.size
 unfold slicePick
 rw [h1, h2, h3]
 simp only [sliceRange_one, pick_run, size_toArray] <;> rfl
def rSlL (K : W.Frag) : V -> Option Int -> Option Int -> Hp -> VK -> Prop := fun x lo hi H Q => ∃ a xs, x = .ref a /\ SqL K H a xs /\ ∀ p, H p = none -> Q (.ref p) (upd H p (.lst (cutV xs lo hi)))
theorem sl_list : SlR X (rSlL X.K) := by
 intro pins s σ H x v vl vu lo hi sl Q I rx hs pl pu h
 obtain ⟨a, xs, rfl, hx, q⟩ := h
 cases rx
 obtain ⟨its, r, ht, hz⟩ := I.list hx
 have hlen := r.length
 refine ⟨"list", _, slot_list_getitem.lookup, ht.isList.typeIs, ?_⟩
 refine wpAny_getItem_list_slice ht.isList hs pl pu .none (by simp) ?_ (by rw [size_toArray] <;> omega)
 rw [slicePick_cut, <- hlen]
 refine ⟨.ref s.heap.objs.size, _, I.laid (t' := s.toks) (o := .lst (cutV xs lo hi)) (fun b ob q => Heap.get?_push_of_some _ q) (Nat.le_refl _) ?_, rfl, q _ (I.hok.fresh (Nat.le_refl _))⟩
 exact ⟨Nat.le_trans (cutV_length xs lo hi) hz, _, 0, (r.drop (HT.sIx xs.length 0 lo)).take (HT.sIx xs.length xs.length hi - HT.sIx xs.length 0 lo), Heap.get?_push_size _ rfl⟩
noncomputable def flatV : V -> Bool
 | .non => true
 | .bl _ => true
 | .int _ => true
 | .str _ => true
 | _ => false
noncomputable def eqV : V -> V -> Bool
 | .non, .non => true
 | .bl a, .bl b => a == b
 | .bl a, .int b => (if a then 1 else 0) == b
 | .int a, .bl b => a == (if b then 1 else 0)
 | .int a, .int b => a == b
 | .str a, .str b => a == b
 | _, _ => false
theorem eqAt_V {A : Around} {s : Shared} {y x : V} {u v : Value} (ry : RelV y u) (rx : RelV x v) (fy : flatV y = true) (fx : flatV x = true) : SeqAt.EqAt A s u v (eqV y x) := by
 cases y with
 | non =>
  cases ry
  cases x with
  | non => cases rx; exact SeqAt.EqAt.same _
  | bl b => cases rx; exact SeqAt.EqAt.none_bool b
  | int b => obtain ⟨t, rfl⟩ := rx; exact SeqAt.EqAt.none_int b t
  | str b => obtain ⟨t, rfl⟩ := rx; exact SeqAt.EqAt.none_str b t
  | _ => exact absurd (show false = true from fx) Bool.false_ne_true
 | bl a =>
  cases ry
  cases x with
  | non => cases rx; exact SeqAt.EqAt.bool_none a
  | bl b => cases rx; exact SeqAt.EqAt.bool_bool a b
  | int b => obtain ⟨t, rfl⟩ := rx; exact SeqAt.EqAt.bool_int a b t
  | str b => obtain ⟨t, rfl⟩ := rx; exact SeqAt.EqAt.bool_str a b t
  | _ => exact absurd (show false = true from fx) Bool.false_ne_true
 | int a =>
  obtain ⟨t', rfl⟩ := ry
  cases x with
  | non => cases rx; exact SeqAt.EqAt.int_none a t'
  | bl b => cases rx; exact SeqAt.EqAt.int_bool a t' b
  | int b => obtain ⟨t, rfl⟩ := rx; exact SeqAt.EqAt.int_int a t' b t
  | str b => obtain ⟨t, rfl⟩ := rx; exact SeqAt.EqAt.int_str a t' b t
  | _ => exact absurd (show false = true from fx) Bool.false_ne_true
 | str a =>
  obtain ⟨t', rfl⟩ := ry
  cases x with
  | non => cases rx; exact SeqAt.EqAt.str_none a t'
  | bl b => cases rx; exact SeqAt.EqAt.str_bool a t' b
  | int b => obtain ⟨t, rfl⟩ := rx; exact SeqAt.EqAt.str_int a t' b t
  | str b => obtain ⟨t, rfl⟩ := rx; exact SeqAt.EqAt.str_str a t' b t
  | _ => exact absurd (show false = true from fx) Bool.false_ne_true
 | _ => exact absurd (show false = true from fy) Bool.false_ne_true
noncomputable def eqU (x : V) (u : Value) : Bool := match u with
 | .none => eqV .non x
 | .bool b => eqV (.bl b) x
 | .int i _ => eqV (.int i) x
 | .str z _ => eqV (.str z) x
 | _ => false
theorem eqU_of {x y : V} {u : Value} (r : RelV y u) (f : flatV y = true) : eqU x u = eqV y x := by
 cases y with
 | non => cases r; rfl
 | bl b => cases r; rfl
 | int i => obtain ⟨t, rfl⟩ := r; rfl
 | str z => obtain ⟨t, rfl⟩ := r; rfl
 | _ => exact absurd (show false = true from f) Bool.false_ne_true
theorem any_eqU {x : V} : ∀ {xs : List V} {us : List Value}, Vals xs us -> xs.all flatV = true -> us.any (eqU x) = xs.any fun y => eqV y x
 | _, _, .nil, _ => rfl
 | y :: xs, u :: us, .cons r t, f => by
  rw [all_cons, Bool.and_eq_true] at f
  rw [any_cons, any_cons, eqU_of r f.1, any_eqU t f.2]
theorem mem_eqAt {A : Around} {s : Shared} {x : V} {v : Value} (rx : RelV x v) (fx : flatV x = true) : ∀ {xs : List V} {us : List Value}, Vals xs us -> xs.all flatV = true -> ∀ u ∈ us, SeqAt.EqAt A s u v (eqU x u)
 | _, _, .nil, _ => fun u hu => by cases hu
 | y :: xs, u :: us, .cons r t, f => fun u' hu => by
  rw [all_cons, Bool.and_eq_true] at f
  rcases List.mem_cons.mp hu with rfl | hu
  ·rw [eqU_of r f.1]; exact eqAt_V r rx f.1 fx
  ·exact mem_eqAt rx fx t f.2 u' hu
noncomputable def inV (x : V) (xs : List V) : Bool := xs.any fun y => eqV y x
def rIn (K : W.Frag) (neg : Bool) : R2 := fun x y H Q => ∃ p xs, y = .ref p /\ (SqL K H p xs \/ SqT K H p xs) /\ flatV x = true /\ xs.all flatV = true /\ Q (.bl (if neg then !inV x xs else inV x xs)) H
theorem op_in_seq : OpR X (compareOp .In) (rIn X.K false) := by
 intro pins s σ H x y v u Q I rx ry h
 obtain ⟨p, xs, rfl, hq, fx, fs, q⟩ := h
 cases ry
 rcases hq with hq | hq
 ·obtain ⟨its, r, pl, hz⟩ := I.list hq
  refine SeqAt.in_listAt (eqU x) pl.isList (fun w hw => mem_eqAt rx fx r fs w (by simpa using hw)) ⟨.bl _, H, I, rfl, ?_⟩
  rw [show its.toArray.any (eqU x) = its.any (eqU x) by simp, any_eqU r fs]
  exact q
 ·obtain ⟨its, r, pl, hz⟩ := I.tuple hq
  refine SeqAt.in_tupleAt (eqU x) pl (fun w hw => mem_eqAt rx fx r fs w (by simpa using hw)) ⟨.bl _, H, I, rfl, ?_⟩
  rw [show its.toArray.any (eqU x) = its.any (eqU x) by simp, any_eqU r fs]
  exact q
theorem call_len_seq : CallR X (.builtin "len") (fun xs H Q => ∃ p ys, xs = [.ref p] /\ (SqL X.K H p ys \/ SqT X.K H p ys) /\ Q (.int ys.length) H) := by
 intro pins s σ H xs us Q I r h
 obtain ⟨p, ys, rfl, hq, q⟩ := h
 obtain ⟨u, rfl, rx⟩ := vals1 r
 cases rx
 have hn := line63
 rcases hq with hq | hq
 ·obtain ⟨its, r', pl, hz⟩ := I.list hq
  have hlen := r'.length
  exact Calls.call_len_list pl.isList (by simp only [size_toArray] <;> omega) ⟨.int ys.length, H, I.tok _, ⟨s.toks + 1, by rw [size_toArray, hlen]⟩, q⟩
 ·obtain ⟨its, r', pl, hz⟩ := I.tuple hq
  have hlen := r'.length
  exact len_tuple pl (by simp only [size_toArray] <;> omega) ⟨.int ys.length, H, I.tok _, ⟨s.toks + 1, by rw [size_toArray, hlen]⟩, q⟩
theorem call_list_of : CallR X (.type "list") (fun xs H Q => ∃ p ys, xs = [.ref p] /\ (SqL X.K H p ys \/ SqT X.K H p ys) /\ ∀ l, H l = none -> Q (.ref l) (upd H l (.lst ys))) := by
 intro pins s σ H xs us Q I r h
 obtain ⟨p, ys, rfl, hq, q⟩ := h
 obtain ⟨u, rfl, rx⟩ := vals1 r
 cases rx
 have fin : ∀ (its : List Value), Vals ys its -> ys.length <= sizeLine -> ∀ (h' : Heap) (c' : Nat), (∀ b o', s.heap.get? b = some o' -> h'.get? b = some o') ->
   h'.get? s.heap.objs.size = some { cls := .type "list", dict := none, data := .seq its.toArray c', slots := #[] } -> EP X pins σ Q (.ref s.heap.objs.size) { s with heap := h' } := fun its r' hz h' c' kp e =>
  ⟨.ref s.heap.objs.size, _, I.laid (t' := s.toks) kp (Nat.le_refl _) (show ObjOk X.prog X.w _ h' _ (.lst ys) from ⟨hz, its, c', r', e⟩), rfl, q _ (I.hok.fresh (Nat.le_refl _))⟩
 rcases hq with hq | hq
 ·obtain ⟨its, r', pl, hz⟩ := I.list hq
  have hlen := r'.length
  obtain ⟨o, ho, hc, n, hd⟩ := pl.isList
  exact call_list_seq p (.inl rfl) ho hc hd (fun h' c' kp e => fin its r' hz h' c' kp e) (by simp only [size_toArray] <;> omega)
 ·obtain ⟨its, r', pl, hz⟩ := I.tuple hq
  have hlen := r'.length
  obtain ⟨o, ho, hc, n, hd⟩ := pl
  exact call_list_seq p (.inr rfl) ho hc hd (fun h' c' kp e => fin its r' hz h' c' kp e) (by simp only [size_toArray] <;> omega)
def tyV (K : W.Frag) (T : String) (x : V) (H : Hp) : Prop := match x with
 | .str _ => T = "str"
 | .int _ => T = "int"
 | .ref p => (T = "list" /\ ∃ xs, SqL K H p xs) \/ (T = "tuple" /\ ∃ o, K.lookup p = some o /\ o.cls = .type "tuple" /\ o.dict = none) \/
   (T = "dict" /\ ((∃ kvs, H p = some (.dK kvs)) \/ ∃ kvs, H p = some (.dT kvs))) \/ (T = "set" /\ ∃ S n, H p = some (.set S n))
 | _ => False
theorem tyV_is {pins : List (Addr × Obj)} {σ : St} {H : Hp} {s : Shared} {T : String} {x : V} {v : Value} (I : Inv X pins σ H s) (r : RelV x v) (ty : tyV X.K T x H) :
  s.TypeIs v T /\ ∀ a, v = .ref a -> ∃ ob, s.heap.get? a = some ob /\ ob.dict = none := by
 cases x with
 | str z =>
  obtain ⟨t, rfl⟩ := r
  cases (show T = "str" from ty)
  exact ⟨typeIs_str s z t, fun _ e => nomatch e⟩
 | int i =>
  obtain ⟨t, rfl⟩ := r
  cases (show T = "int" from ty)
  exact ⟨typeIs_int s i t, fun _ e => nomatch e⟩
 | ref p =>
  cases r
  rcases ty with ⟨rfl, xs, hq⟩ | ⟨rfl, o, hk, hc, hd⟩ | ⟨rfl, hk⟩ | ⟨rfl, S, n, hk⟩
  ·obtain ⟨its, _, pl, _⟩ := I.list hq
   refine ⟨pl.isList.typeIs, fun a e => ?_⟩
   cases e
   obtain ⟨o, n, e, c, hd, _⟩ := pl
   exact ⟨o, e, hd⟩
  ·refine ⟨⟨o, I.kIn p o hk, hc⟩, fun a e => ?_⟩
   cases e
   exact ⟨o, I.kIn _ o hk, hd⟩
  ·have z : ∃ o, s.heap.get? p = some o /\ o.ExactDict := by
    rcases hk with ⟨kvs, hk⟩ | ⟨kvs, hk⟩
    ·obtain ⟨_, _, _, _, o, _, _, e, ex, _⟩ := I.hok p _ hk
     exact ⟨o, e, ex⟩
    ·obtain ⟨_, _, _, _, o, _, _, e, ex, _⟩ := I.hok p _ hk
     exact ⟨o, e, ex⟩
   obtain ⟨o, e, ex⟩ := z
   refine ⟨⟨o, e, ex.1⟩, fun a e2 => ?_⟩
   cases e2
   exact ⟨o, e, ex.2.1⟩
  ·obtain ⟨o, _, _, _, e, ex, _⟩ := I.hok p _ hk
   refine ⟨⟨o, e, ex.1⟩, fun a e2 => ?_⟩
   cases e2
   exact ⟨o, e, ex.2.1⟩
 | _ => exact False.elim ty
def tBM (K : W.Frag) (T : String) (r : V -> List V -> Hp -> VK -> Prop) (to : TE) (t : TA) : TE := fun σ H Q => to σ H fun x H1 => tyV K T x H1 /\ t σ H1 fun xs H2 => r x xs H2 Q
variable {o e : Expr} {es : List Expr} {to : TE} {t : TA} {name : Str} {apos cpos : Pos} {T id : String} {r : V -> List V -> Hp -> VK -> Prop}
theorem pe_bm (pa : PlainAttrs T) (slot : Slot T name id) (hty : typeOf (.builtin id) = pure (.type "method_descriptor")) (hm : MtR X id r) (ho : PE X o to) (ha : PA X (e :: es) t)
  (hbase : attributeBase o name X.env (eval o X.env) = eval o X.env := by rfl)
  (hfew : ((backTo cpos (starEach (e :: es) X.env)).all (fun x => !x.1) && (backToKw cpos (keywordEach [] X.env)).all (fun x => x.1.isSome)
   && decide ((e :: es).length + ([] : List Keyword).length + (if ([] : List Keyword).isEmpty then 0 else 1) < 30)) = true := by rfl)
  (hline : (apos.endLine == cpos.line) = true := by rfl) (hs : starEach (e :: es) X.env = (false, eval e X.env) :: starEach es X.env := by rfl) (hplain : (backTo cpos (starEach es X.env)).any (·.1) = false := by rfl) :
  PE X (.Call (.Attribute o name apos) (e :: es) [] cpos) (tBM X.K T r to t) := by
 intro pins s σ H Q I h
 refine wpAny_Call_method_late hbase hfew hline rfl (thn (ho pins s σ H _ I h) fun v s1 hpat => ?_)
 obtain ⟨x, H1, I1, r1, ty, q1⟩ := hpat
 obtain ⟨h1, h2⟩ := tyV_is I1 r1 ty
 refine ⟨T, id, pa, slot, hty, h1, h2, ?_⟩
 have hA := ha cpos pins s1 σ H1 _ I1 q1
 rw [hs] at hA ⊢
 refine Calls.callWith_builtin (by show (false || (backTo cpos (starEach es X.env)).any (·.1)) = false; rw [hplain] <;> rfl) (Calls.evalArgs_plain ?_)
 exact thn hA fun us s2 ⟨vs, H2, I2, r2, q2⟩ => hm pins s2 σ H2 x vs v us Q I2 r1 r2 q2
end
end
section
def MtM (X : Cx) (id : String) (r : V -> List V -> Hp -> VK -> Prop) : Prop :=
 ∀ (pins : List (Addr × Obj)) (s : Shared) (σ : St) (H : Hp) (x : V) (xs : List V) (v : Value) (us : List Value) (Q : VK), Inv X pins σ H s -> RelV x v -> Vals xs us -> r x xs H Q ->
  wpAny (model X.prog X.w) X.A (call (.builtin id) (v :: us)) (EP X pins σ Q) X.xe s
theorem Vals.one : ∀ {x : V} {us : List Value}, Vals [x] us -> ∃ u, us = [u] /\ RelV x u
 | _, _, .cons r .nil => ⟨_, rfl, r⟩
theorem Vals.rep {xs : List V} {us : List Value} (h : Vals xs us) : ∀ k : Nat, Vals (List.replicate k xs).flatten (List.replicate k us).flatten
 | 0 => .nil
 | k + 1 => by
  rw [replicate_succ, replicate_succ, flatten_cons, flatten_cons]
  exact Vals.append h (Vals.rep h k)
theorem foldl_rep (its : List Value) : ∀ (k : Nat) (acc : List Value),
  List.foldl (fun x1 x2 => x1 ++ x2) acc.toArray (List.replicate k its.toArray) = (acc ++ (List.replicate k its).flatten).toArray
 | 0, acc => by simp
 | k + 1, acc => by
  have e : acc.toArray ++ its.toArray = (acc ++ its).toArray := by simp
  have e2 : (acc ++ its) ++ (List.replicate k its).flatten = acc ++ (List.replicate (k + 1) its).flatten := by
   rw [replicate_succ, flatten_cons, append_assoc]
  rw [<- e2, <- foldl_rep its k (acc ++ its), <- e, replicate_succ, foldl_cons]
section
variable {X : Cx} {pins : List (Addr × Obj)} {σ : St} {H : Hp} {s : Shared} {l b : Addr} {xs ys zs : List V}
theorem Inv.lset {its its' : List Value} {n : Nat} {f : Array Value -> Array Value} {t' : Nat} (I : Inv X pins σ H s) (hH : H l = some (.lst xs))
  (e : s.heap.get? l = some { cls := .type "list", data := .seq its.toArray n }) (hf : f its.toArray = its'.toArray) (hv : Vals ys its') (hz : ys.length <= sizeLine) :
  Inv X pins σ (upd H l (.lst ys)) { s with heap := s.heap.update l (Obj.mapSeq f), toks := t' } := by
 have q := PySem.IsL.update e f
 rw [hf] at q
 refine I.write (x := l) (e := l) (by rw [hH]; exact trivial) (.inl rfl) (fun b' u hb hu => (Heap.get?_update_other s.heap (Obj.mapSeq f) (Ne.symm hb)).trans hu) ⟨_, q⟩ ?_
 exact ⟨hz, its', _, hv, q⟩
theorem Inv.lnew {its : List Value} {t' : Nat} (I : Inv X pins σ H s) (hv : Vals ys its) (hz : ys.length <= sizeLine) :
  Inv X pins σ (upd H s.heap.objs.size (.lst ys)) { s with heap := s.heap.push { cls := .type "list", data := .seq its.toArray }, toks := t' } :=
 I.laid (fun _ _ q => Heap.get?_push_of_some _ q) (Nat.le_refl _) ⟨hz, its, 0, hv, Heap.get?_push_size _ rfl⟩
theorem Inv.fresh (I : Inv X pins σ H s) : H s.heap.objs.size = none := I.hok.fresh (Nat.le_refl _)
theorem Inv.lstM (I : Inv X pins σ H s) (hH : H l = some (.lst xs)) : xs.length <= sizeLine /\ ∃ (its : List Value) (n : Nat), Vals xs its /\ xs.length = its.length /\ s.heap.get? l = some { cls := .type "list", data := .seq its.toArray n } := by
 obtain ⟨z, its, n, r, e⟩ := I.hok l _ hH
 exact ⟨z, its, n, r, r.length, e⟩
theorem notLongL {n : Nat} (h : n <= sizeLine) : Builtin.List.listTooLong n = false := by
 unfold Builtin.List.listTooLong
 exact decide_eq_false (by omega)
end
section
variable {X : Cx}
def rAppend : V -> List V -> Hp -> VK -> Prop := fun x vs H Q => ∃ l xs y, x = .ref l /\ vs = [y] /\ H l = some (.lst xs) /\ xs.length < sizeLine /\ Q .non (upd H l (.lst (xs ++ [y])))
theorem mt_append : MtM X "list.append" rAppend := by
 intro pins s σ H x vs v us Q I rx rv h
 obtain ⟨l, xs, y, rfl, rfl, hH, hz, q⟩ := h
 cases rx
 obtain ⟨u, rfl, ru⟩ := rv.one
 obtain ⟨z, its, n, r, hl, e⟩ := I.lstM hH
 refine call_meets F.slot_list_append ⟨_, e, rfl⟩ F.entry_list_append (F.args_list_append_2 _ _) (PySem.list_append l its.toArray n u (by rw [size_toArray]; omega)) ⟨e, ?_⟩
 refine ⟨.non, _, I.lset (its' := its ++ [u]) hH e (by simp) (r.append (.cons ru .nil)) ?_, rfl, q⟩
 rw [length_append, length_singleton]
 omega
def rRep : R2 := fun x y H Q => ∃ l k xs, x = .ref l /\ y = .int k /\ H l = some (.lst xs) /\ -(2 ^ 63) <= k /\ k < 2 ^ 63 /\ xs.length * k.toNat <= sizeLine /\
 ∀ p, H p = none -> Q (.ref p) (upd H p (.lst (List.replicate k.toNat xs).flatten))
theorem len_rep {α : Type} (xs : List α) (k : Nat) : (List.replicate k xs).flatten.length = k * xs.length := by
 induction k with
 | zero => simp
 | succ k ih => rw [replicate_succ, flatten_cons, length_append, ih, Nat.succ_mul, Nat.add_comm]
theorem op_rep : OpR X (binaryOp .Mult) rRep := by
 intro pins s σ H x y v u Q I rx ry h
 obtain ⟨l, k, xs, rfl, rfl, hH, h1, h2, hz, q⟩ := h
 cases rx
 obtain ⟨t, rfl⟩ := ry
 obtain ⟨z, its, n, r, hl, e⟩ := I.lstM hH
 have hlen : its.toArray.size * k.toNat <= sizeLine := by rw [size_toArray, <- hl]; exact hz
 have hcap : ¬ its.toArray.size * k.toNat > (2 ^ 63 - 1) / 8 := by
  have : (sizeLine : Nat) <= (2 ^ 63 - 1) / 8 := by decide
  omega
 have hfit : ¬ (!Builtin.List.listFitsIndex k) = true := by
  rw [fitsIndex_both h1 h2]
  exact Bool.false_ne_true
 have hlong : ¬ Builtin.List.listTooLong (its.toArray.size * k.toNat) = true := by
  rw [notLongL hlen]
  exact Bool.false_ne_true
 have hnew : List.foldl (fun x1 x2 => x1 ++ x2) #[] (List.replicate (if its.toArray.isEmpty = true then 0 else k.toNat) its.toArray) = (List.replicate k.toNat its).flatten.toArray := by
  have f0 : ∀ m : Nat, List.foldl (fun x1 x2 => x1 ++ x2) #[] (List.replicate m its.toArray) = (List.replicate m its).flatten.toArray := fun m => by
   have := foldl_rep its m []
   rw [nil_append] at this
   exact this
  rw [f0]
  cases its with
  | nil => simp
  | cons a r' => rw [if_neg (by simp)]
 refine wpAny_binaryOp_repeat_ref (T := "list") (U := "int") (by decide) ⟨_, e, rfl⟩ (fun s' => typeIs_int s' k t) noFill_list_mul F.fills_int_mul F.slot_int_rmul repeat_list F.slot_int_index.lookup
  (call_meets F.slot_int_rmul (typeIs_int s k t) F.entry_int_rmul (F.args_int_rmul_2 _ _) (int___rmul___int_list k t l its.toArray n)
   ⟨e, rfl, ⟨_, e, rfl⟩, call_meets F.slot_list_mul ⟨_, e, rfl⟩ F.entry_list_mul (F.args_list_mul_2 _ _) (AutoListH.list___mul___list_int_3 l its.toArray n k t hfit hcap hlong) ⟨e, ?_⟩⟩)
 rw [hnew]
 exact ⟨.ref _, _, I.lnew (t' := s.toks) (r.rep k.toNat) (by rw [len_rep, Nat.mul_comm]; exact hz), rfl, q _ I.fresh⟩
end
section
variable {prog : Program} {w : World} {A : Around} {E : Value -> Shared -> Prop} {s : Shared}
end
section
variable {X : Cx}
end
end
end L2
namespace Att
open PySem PySem.W PySem.Calls PyProof.Rows
theorem ints_of_wellAll {P : Params} {h : Heap} : ∀ (ns : List Int) (vs : List Value), WellAll P h vs (ns.map WData.int) -> IntsAre vs ns := by
 intro ns
 induction ns with
 | nil =>
  intro vs w
  rw [List.map_nil] at w
  cases w
  exact .nil
 | cons n ns ih =>
  intro vs w
  rw [List.map_cons] at w
  cases w with
  | cons a b =>
   cases a
   exact .cons _ _ (ih _ b)
theorem script_of {l : OpenLaw} {n : Nat} (hn : l.most = some n) {P : Params} {h : Heap} {args : List WData} {vals : List Value}
  (hpre : l.row.toRowW.claim.pre args = true) (hwl : WellAll P h vals args) :
  ∃ a vs ns, vals = [Value.ref a] /\ args = [WData.list (ns.map WData.int)] /\ h.get? a = some { cls := .type "list", data := .seq vs.toArray } /\ IntsAre vs ns /\ ns.length <= n := by
 have hsh : WShape.hasAll [] args [.list .int] = true := (pre_splitW hpre).1
 have hc : l.pre.holds [] { args := args } = true := (pre_splitW hpre).2
 obtain ⟨d, r, rfl, h1, h2⟩ := hasAllW_cons hsh
 obtain rfl := hasAllW_nil h2
 obtain ⟨xs, rfl, h3⟩ := hasW_list h1
 obtain ⟨ns, rfl⟩ := items_int h3
 have hlen : ns.length <= n := by
  unfold OpenLaw.pre at hc
  have h4 : (WTm.not (.lt (.lit (.int (n : Int))) (.len (.arg 0)))).holds [] { args := [.list (ns.map .int)] } = true := by
   have h4 := (holds_andW hc).1
   rw [hn] at h4
   exact h4
  have h5 := condW_of h4 (w_not (w_lt w_lit (w_len_list (w_arg rfl))))
  rw [List.length_map] at h5
  refine Nat.le_of_not_lt fun q => ?_
  have q' : (n : Int) < ((ns.length : Nat) : Int) := by omega
  first
   | (rw [decide_eq_true q'] at h5; exact absurd h5 (by decide))
   | (simp at h5; omega)
 cases hwl with
 | cons w1 w2 =>
  cases w2
  cases w1 with
  | list ho hall => exact ⟨_, _, ns, rfl, rfl, ho, ints_of_wellAll ns _ hall, hlen⟩
theorem post_true (l : OpenLaw) (args : List WData) : l.row.toRowW.claim.post args (.bool true) args = true :=
 postW_of (r := l.row.toRowW) (X := (true == true))
  (show WShape.has [] (.bool true) .bool = true by first | rfl | decide | simp [WShape.has, WShape.arms, WShape.armsAll])
  (show (WTm.eq .res (.lit (.bool true))).value [] { args := args, res := some (.bool true), after := args } = some (.bool (true == true)) from w_eq_bool (w_res rfl) w_lit) rfl
theorem attach_call {l : OpenLaw} {n : Nat} {q : Program} {loose : List Str} {XP : (Str -> Option Value) -> Heap -> Prop} {YP : World -> Heap -> Prop} {d : DefRec}
  (hn : l.most = some n) (hdf : d.params.defaults = [])
  (call : ∀ (w : World) (s₀ s₁ : Shared) (mg mb : Str -> Option Value) (fa : Addr) (o : Obj) (pm cd doc : Value) (a : Addr) (vs : List Value) (ns : List Int),
   Ground q loose [] XP w s₀ mg mb s₁.heap -> YP w s₁.heap ->
   s₁.heap.get? fa = some o -> o.data = .func (docDef d.name d.params d.body d.scope pm cd doc) -> s₁.heap.CodeRec cd d.name -> mg d.name = some (.ref fa) ->
   s₁.heap.get? a = some { cls := .type "list", data := .seq vs.toArray } -> IntsAre vs ns -> ns.length <= n -> s₁.gens = #[] ->
   codeAny (model l.prog w) callerA (.call (.ref fa) ⟨[.ref a], []⟩) (fun r s' => r = .ok (.ret (.bool true)) /\ OldK s₁.heap s'.heap /\ s'.os = s₁.os /\ AllBare s'.gens) s₁) :
  WalkO q loose XP YP l.row.toRowW d [] (fun f vs => PySem.call f vs) := by
 intro w s₀ s₁ mg mb G Y fa o pm cd doc dV kV ho hd hcd hD hmg hg args vals as hpre hlay hrd hwl hlo
 obtain rfl : dV = .none := Dflts.none hD hdf
 obtain rfl : kV = .none := Dflts.noKw hD
 obtain ⟨a, vs, ns, rfl, rfl, hobj, hints, hlen⟩ := script_of hn hpre hwl
 refine enter_call (codeAny_mono (call w s₀ s₁ mg mb fa o pm cd doc a vs ns G Y ho (fd_plain hd) hcd hmg hobj hints hlen hg) fun r s' hq => ?_)
 obtain ⟨rfl, h2, h3, h4⟩ := hq
 exact ⟨.inl ⟨.bool true, .bool true, [], rfl, fun _ => rfl, .bool true, post_true l _, fun _ => ⟨List.Pairwise.nil, fun _ hm => (nomatch hm)⟩⟩, h2, h3, h4⟩
section
variable {prog : Program} {w : World} {A : Around} {E : Value -> Shared -> Prop} {s : Shared} {K : Frag}
end
end Att
namespace L2
open List
open PySem PySem.Spec PyProof.Rows
section
theorem vals_ints : ∀ {vs : List Value} {ns : List Int}, IntsAre vs ns -> Vals (ns.map V.int) vs
 | _, _, .nil => .nil
 | _, _, .cons n t h => .cons ⟨t, rfl⟩ (vals_ints h)
def Only (H : Hp) : Prop := ∀ b, H b = none \/ ∃ o xs, H b = some (.frz o (.lst xs))
theorem law_call {P : Program} {w : World} {K : W.Frag} {mg mb : Str -> Option Value} {CX : CXT} {k : Nat} {fa a : Addr} {fd : FuncData} {x : Str} {sp : Sp} {s₁ : Shared} {vs : List Value} {ns : List Int}
  (KX : K.In s₁.heap) (hns : s₁.heap.Ns mainGlobals mg) (hb : s₁.heap.Ns builtinsNs mb) (hbb : ∀ x : Str, x ≠ "__name__" -> mb x = bootBuiltins x) (hlim : s₁.heap.NoLimit) (hg : s₁.gens = #[])
  (ha : s₁.heap.get? a = some { cls := .type "list", data := .seq vs.toArray }) (hi : IntsAre vs ns) (hl : ns.length <= sizeLine) (hr : Room k callerA)
  (F : ∀ base : Heap, K.In base -> base.Ns mainGlobals mg -> FnOk P w K mg base CX k fa fd [x] sp) (hbind : ∀ (s : Shared) (u : Value), BindsTo s fd ⟨[u], []⟩ [(x, u)])
  (hsp : ∀ H : Hp, Only H -> SqL K H a (ns.map V.int) -> sp [.ref a] H (fun v _ => v = .bl true) fun _ _ _ => False)
  (hCX : ∀ H e s', CX [] H s₁ (fun _ _ _ => False) e s' -> False) :
  codeAny (model P w) callerA (.call (.ref fa) ⟨[.ref a], []⟩) (fun r s' => r = .ok (.ret (.bool true)) /\ OldK s₁.heap s'.heap /\ s'.os = s₁.os /\ AllBare s'.gens) s₁ := by
 have rv := vals_ints hi
 have lenV := hi.length
 have core : ∀ H : Hp, Only H -> SqL K H a (ns.map V.int) -> HOk P w H s₁.heap -> (∀ b, H b ≠ none -> b = a) -> (H a ≠ none -> K.lookup a = none) ->
   codeAny (model P w) callerA (.call (.ref fa) ⟨[.ref a], []⟩) (fun r s' => r = .ok (.ret (.bool true)) /\ OldK s₁.heap s'.heap /\ s'.os = s₁.os /\ AllBare s'.gens) s₁ := by
  intro H hO hS hok hA hK
  have base_of : ∀ {b : Addr} {o : Obj}, s₁.heap.get? b = some o -> H b = none -> (hidT s₁.heap H).get? b = some o := fun e n => hidT_get e n
  have noA : ∀ {b : Addr} {o : Obj} {es : Array DictEntry} {ep : Nat}, s₁.heap.get? b = some o -> o.data = .dict es ep -> H b = none := fun {b o es ep} e d => by
   cases q : H b with
   | none => rfl
   | some u =>
    have e' : b = a := hA b (by rw [q]; simp)
    subst e'
    rw [ha] at e; cases e
    have d' : Data.seq vs.toArray _ = Data.dict es ep := d
    cases d'
  have nsK : ∀ {b : Addr} {m : Str -> Option Value}, s₁.heap.Ns b m -> (hidT s₁.heap H).Ns b m := fun {b m} ⟨o, es, ep, e, d, r⟩ => ⟨o, es, ep, base_of e (noA e d), d, r⟩
  have hKb : K.In (hidT s₁.heap H) := fun b o e => base_of (KX b o e) (by
   cases q : H b with
   | none => rfl
   | some u =>
    have e' : b = a := hA b (by rw [q]; simp)
    subst e'
    rw [hK (by rw [q]; simp)] at e; cases e)
  have hM : Mod K mg (hidT s₁.heap H) := ⟨hKb, nsK hns, ⟨mb, nsK hb, hbb⟩, let ⟨mc, h1, h2⟩ := hlim; ⟨mc, nsK h1, h2⟩⟩
  have e0 : Env0 P w K mg (hidT s₁.heap H) callerA [] s₁ H := ⟨rfl, hM, fun b o e => of_hidT e, Nat.le_of_eq (hidT_size _ _), trivial, fun b hb => absurd (show b ∈ ([] : List Addr) from hb) (by simp), hok, .of_eq hg⟩
  refine codeAny_mono ((F _ hKb (nsK hns)).run callerA [] s₁ H ⟨[.ref a], []⟩ [.ref a] [.ref a] _ _ hr e0 (hbind s₁ (.ref a)) (.cons rfl .nil) (hsp H hO hS)) fun r s' h => ?_
  cases r with
  | error e => exact (hCX H e s' h).elim
  | ok fl =>
   cases fl with
   | next => exact False.elim h
   | brk => exact False.elim h
   | cont => exact False.elim h
   | ret u =>
    obtain ⟨v, H', os, bare, un, hok', r', q⟩ := h
    have q' : v = .bl true := q
    subst q'
    obtain rfl : u = Value.bool true := r'
    refine ⟨rfl, OldK.of_keep fun b o e => ?_, os, bare⟩
    cases q : H b with
    | none => exact un.keep b o e q (by intro z; exact absurd (show b ∈ ([] : List Addr) from z) (by simp)) (by simp)
    | some u =>
     rcases hO b with z | ⟨ob, xs, z⟩
     ·rw [q] at z; cases z
     ·have z2 := un.frzs b ob _ z
      obtain ⟨e1, _⟩ := hok b _ z
      obtain ⟨e2, _⟩ := hok' b _ z2
      rw [e] at e1; cases e1
      exact e2
 cases hk : K.lookup a with
 | some o =>
  have e := KX a o hk
  rw [ha] at e
  cases e
  refine core (fun _ => none) (fun _ => .inl rfl) (.inr ⟨_, vs.toArray, _, hk, rfl, rfl, rfl, by rw [size_toArray, lenV]; exact hl, by simpa using rv⟩) (fun b u z => by have z' : (none : Option HO) = some u := z; cases z') (fun b z => absurd rfl z) fun z => absurd rfl z
 | none =>
  refine core (fun b => if b = a then some (.frz { cls := .type "list", data := .seq vs.toArray } (.lst (ns.map V.int))) else none) (fun b => ?_) (.inl (.inr ⟨{ cls := .type "list", data := .seq vs.toArray }, if_pos rfl⟩)) (fun b u z => ?_) (fun b z => ?_) fun _ => hk
  ·by_cases hb : b = a
   ·exact .inr ⟨_, _, if_pos hb⟩
   ·exact .inl (if_neg hb)
  ·by_cases hb : b = a
   ·have z' := (if_pos hb).symm.trans z
    cases z'
    subst hb
    exact ⟨ha, by rw [length_map]; exact hl, vs, _, rv, ha⟩
   ·have z' := (if_neg hb).symm.trans z
    cases z'
  ·by_cases hb : b = a
   ·exact hb
   ·exact absurd (if_neg hb) z
end
section
theorem walk_of {l : W.OpenLaw} {n k : Nat} {q : Program} {loose : List Str} {XP : (Str -> Option Value) -> Heap -> Prop} {YP : World -> Heap -> Prop} {d : DefRec} {K : Params -> W.Frag} {CX : World -> CXT} {sp : World -> Sp} {x : Str}
  (hn : l.most = some n) (hn2 : n <= sizeLine) (hdf : d.params.defaults = []) (hr : Room k callerA)
  (hY : ∀ (w : World) (h : Heap), YP w h -> (K w.params).In h)
  (F : ∀ (w : World) (mg : Str -> Option Value) (fa : Addr) (h : Heap), (K w.params).In h -> h.Ns mainGlobals mg -> mg d.name = some (.ref fa) ->
   ∃ fd : FuncData, (∀ (s : Shared) (u : Value), BindsTo s fd ⟨[u], []⟩ [(x, u)]) /\
    ∀ base : Heap, (K w.params).In base -> base.Ns mainGlobals mg -> FnOk l.prog w (K w.params) mg base (CX w) k fa fd [x] (sp w))
  (hsp : ∀ (w : World) (H : Hp) (a : Addr) (ns : List Int), ns.length <= n -> Only H -> SqL (K w.params) H a (ns.map V.int) -> sp w [.ref a] H (fun v _ => v = .bl true) fun _ _ _ => False)
  (hCX : ∀ (w : World) (H : Hp) (s : Shared) (e : Value) (s' : Shared), CX w [] H s (fun _ _ _ => False) e s' -> False) :
  W.WalkO q loose XP YP l.row.toRowW d [] (fun f vs => PySem.call f vs) := by
 refine Att.attach_call hn hdf fun w s₀ s₁ mg mb fa o pm cd doc a vs ns G Y ho hd hcd hmg hobj hints hlen hg => ?_
 have KX := hY w _ Y
 obtain ⟨fd, hb, hF⟩ := F w mg fa _ KX G.T.g hmg
 exact law_call KX G.T.g G.T.b G.T.builtins G.T.nolimit hg hobj hints (Nat.le_trans hlen hn2) hr hF hb (fun H hO hS => hsp w H a ns hlen hO hS) fun H e s' => hCX w H s₁ e s'
end
section
noncomputable def defArgs (s : Stmt) : Arguments := match s with
 | .FunctionDef _ a _ _ _ _ _ _ _ _ => a
 | _ => { posonlyargs := [], args := [], vararg := none, kwonlyargs := [], kw_defaults := [], kwarg := none, defaults := [] }
noncomputable def defBody (s : Stmt) : List Stmt := match s with
 | .FunctionDef _ _ b _ _ _ _ _ _ _ => b
 | _ => []
noncomputable def defScope (s : Stmt) : Scope := match s with
 | .FunctionDef _ _ _ _ _ _ sc _ _ _ => sc
 | _ => { kind := .function, names := [], isGenerator := false, isCoroutine := false }
abbrev CX0 : CXT := fun _ _ _ _ _ _ => False
abbrev E0 : XK := fun _ _ _ => False
theorem pass0 {X : Cx} : Passes CX0 X E0 := fun _ _ _ _ _ _ _ h => h.elim
structure Fun (K : W.Frag) (x qual : Str) (st : Stmt) (f : Addr) (fd : FuncData) : Prop where
 ex : ∃ (oc : Value) (od : Option Addr) (kV doc pm : Value) (an : Option Addr) (cdv ct : Value) (osl : Array (Option Value)),
  fd = W.fnOf x qual (defArgs st) (defBody st) (defScope st) .none kV doc pm an cdv ct /\ K.lookup f = some ⟨oc, od, .func fd, osl⟩ /\ W.codeIn K cdv qual = true
 kp : W.keepIn K (.ref f) = true
section
variable {P : Program} {w : World} {K : W.Frag} {mg : Str -> Option Value} {base : Heap}
theorem Fun.ok {x qual : Str} {st : Stmt} {f : Addr} {fd : FuncData} {N ps : List Str} {k : Nat} {sp : Sp} (F : Fun K x qual st f fd) (S : FnScope N ps (defScope st)) (len : ∀ vs H Q E, sp vs H Q E -> vs.length = ps.length)
  (hbody : ∀ (cdv : Value) (A : Around) (outer : List Env) (s : Shared) (H : Hp) (vs : List V) (Q : VK) (E : XK), Room k (A.deeper (envOfC qual (defScope st) s.heap.objs.size f cdv)) -> sp vs H Q E ->
   ∃ t, PSs (cxOf CX0 P w K mg base N qual (defScope st) f cdv A outer s H E).nox (defBody st) t /\ t { nx := fun _ H' => Q .non H', rt := Q } (start N vs) H) : FnOk P w K mg base CX0 (k + 1) f fd ps sp := by
 obtain ⟨oc, od, kV, doc, pm, an, cdv, ct, osl, rfl, lk, hcd⟩ := F.ex
 refine fn_of lk hcd S len fun A outer s H vs Q E hr hsp => ?_
 obtain ⟨t, h, q⟩ := hbody cdv A outer s H vs Q E hr hsp
 exact ⟨t, h.nox, q⟩
theorem Fun.binds {x qual : Str} {st : Stmt} {f : Addr} {fd : FuncData} {ps : List Str} (F : Fun K x qual st f fd)
  (h : ∀ (kV doc pm : Value) (an : Option Addr) (cdv ct : Value) (us : List Value), us.length = ps.length -> bindArgs (W.fnOf x qual (defArgs st) (defBody st) (defScope st) .none kV doc pm an cdv ct) ⟨us, []⟩ = pure (ps.zip us)) : Binds K fd ps [] := by
 obtain ⟨oc, od, kV, doc, pm, an, cdv, ct, osl, rfl, lk, hcd⟩ := F.ex
 exact .all (h kV doc pm an cdv ct)
theorem fun_mk {x qual : Str} {st : Stmt} {f : Addr} {oc : Value} {od an : Option Addr} {osl : Array (Option Value)} {kV doc pm cdv ct : Value} (l : K.lookup f = some ⟨oc, od, .func (W.fnOf x qual (defArgs st) (defBody st) (defScope st) .none kV doc pm an cdv ct), osl⟩)
  (c : W.codeIn K cdv qual = true) (k : W.keepIn K (.ref f) = true) : Fun K x qual st f (W.fnOf x qual (defArgs st) (defBody st) (defScope st) .none kV doc pm an cdv ct) := ⟨⟨oc, od, kV, doc, pm, an, cdv, ct, osl, rfl, l, c⟩, k⟩
end
section
variable {X : Cx}
theorem pv (i : Nat) {x : Str} {pos : Pos} (hN : X.N[i]? = some x := by rfl) (hv : Vis X.env.scope x := by first | exact Or.inl rfl | exact Or.inr (Or.inl rfl) | exact Or.inr (Or.inr rfl)) (hd : (x == ("__debug__" : Str)) = false := by decide)
  (hcd : (x == ("__classdict__" : Str)) = false := by decide) : PE X (.Name x pos) (tVar i) := pe_var hN hv hd hcd
end
theorem iteF {A B : Prop} (h : B) : if false = true then A else B := by
 rw [if_neg Bool.false_ne_true]
 exact h
theorem iteT {A B : Prop} (h : A) : if true = true then A else B := by
 rw [if_pos rfl]
 exact h
def Same (H H' : Hp) : Prop := ∀ b o, H b = some o -> H' b = some o
theorem Same.refl (H : Hp) : Same H H := fun _ _ h => h
theorem Same.trans {H H1 H2 : Hp} (a : Same H H1) (b : Same H1 H2) : Same H H2 := fun c o h => b c o (a c o h)
theorem Same.free {H H' : Hp} (e : Same H H') {l : Addr} (h : H' l = Option.none) : H l = Option.none := by
 cases q : H l with
 | none => rfl
 | some o =>
  rw [e l o q] at h
  cases h
theorem Same.seq {K : W.Frag} {H H' : Hp} {a : Addr} {xs : List V} (e : Same H H') (h : SqL K H a xs) : SqL K H' a xs := by
 rcases h with (h | ⟨o, h⟩) | h
 ·exact .inl (.inl (e _ _ h))
 ·exact .inl (.inr ⟨o, e _ _ h⟩)
 ·exact .inr h
end
section
noncomputable def clOf (cells : List (Str × Addr)) : List (Str × NameKind) -> List (Str × Addr) -> List (Str × Addr)
 | [], cs => cs
 | (n, k) :: r, cs => if k = .free then (match cells.lookup n with | some c => clOf cells r ((n, c) :: cs) | none => clOf cells r cs) else clOf cells r cs
theorem closure_run {env : Env} : ∀ (names : List (Str × NameKind)) (cs : List (Str × Addr)), (∀ x ∈ names, x.2 = .free -> ∃ c, env.cells.lookup x.1 = some c) ->
  (forIn names cs fun x r => if (x.2 == NameKind.free) = true then do let c ← cellOf env x.1; pure (ForInStep.yield ((x.1, c) :: r)) else pure (ForInStep.yield r) : Sem (List (Str × Addr))) = pure (clOf env.cells names cs)
 | [], cs, _ => rfl
 | (n, k) :: r, cs, h => by
  have hr : ∀ x ∈ r, x.2 = .free -> ∃ c, env.cells.lookup x.1 = some c := fun x hx => h x (mem_cons_of_mem _ hx)
  rw [forIn_cons]
  by_cases hk : k = .free
  ·subst hk
   obtain ⟨c, hc⟩ := h (n, .free) mem_cons_self rfl
   have hc' : env.cells.lookup n = some c := hc
   have e : cellOf env n = pure c := by unfold cellOf; rw [hc']
   simp only [beq_self_eq_true, if_true, e, pure_bind]
   rw [closure_run r _ hr]
   simp only [clOf, if_true, hc']
  ·have hb : (k == NameKind.free) = false := by simpa using hk
   simp only [hb, Bool.false_eq_true, if_false, pure_bind]
   rw [closure_run r cs hr]
   simp only [clOf, hk, if_false]
theorem closureFor_clOf {env : Env} {scope : Scope} (h : ∀ x ∈ scope.names, x.2 = .free -> ∃ c, env.cells.lookup x.1 = some c) : closureFor scope env = pure (clOf env.cells scope.names []) := by
 have q := closure_run (env := env) scope.names [] h
 simp only [closureFor]
 refine Eq.trans ?_ q
 have e : ∀ (m : Sem (List (Str × Addr))), (m >>= fun cs => pure cs) = m := fun m => by simp
 first | (rw [e]; rfl) | rfl | simp
theorem clOf_sub {cells : List (Str × Addr)} {x : Str} {c : Addr} : ∀ (names : List (Str × NameKind)) (cs : List (Str × Addr)), (∀ y d, cs.lookup y = some d -> cells.lookup y = some d) -> (clOf cells names cs).lookup x = some c -> cells.lookup x = some c
 | [], cs, h, e => h x c e
 | (n, k) :: r, cs, h, e => by
  unfold clOf at e
  split at e
  ·split at e
   ·rename_i d hd
    refine clOf_sub r _ (fun y d' q => ?_) e
    rw [lookup_cons] at q
    split at q
    ·rename_i hy
     have : y = n := by simpa using hy
     subst this
     cases q; exact hd
    ·exact h y d' q
   ·exact clOf_sub r cs h e
  ·exact clOf_sub r cs h e
theorem clOf_mono {cells : List (Str × Addr)} {x : Str} : ∀ (names : List (Str × NameKind)) (cs : List (Str × Addr)), (cs.lookup x).isSome = true -> ((clOf cells names cs).lookup x).isSome = true
 | [], cs, h => h
 | (n, k) :: r, cs, h => by
  unfold clOf
  split
  ·split
   ·refine clOf_mono r _ ?_
    rw [lookup_cons]; split
    ·rfl
    ·exact h
   ·exact clOf_mono r cs h
  ·exact clOf_mono r cs h
theorem clOf_has {cells : List (Str × Addr)} {x : Str} {c : Addr} (hc : cells.lookup x = some c) : ∀ (names : List (Str × NameKind)) (cs : List (Str × Addr)), (x, NameKind.free) ∈ names -> ((clOf cells names cs).lookup x).isSome = true
 | [], cs, h => absurd h (by simp)
 | (n, k) :: r, cs, h => by
  unfold clOf
  rcases List.mem_cons.mp h with e | h
  ·cases e
   rw [if_pos rfl, hc]
   refine clOf_mono r _ ?_
   simp [lookup_cons]
  ·split
   ·split
    ·exact clOf_has hc r _ h
    ·exact clOf_has hc r cs h
   ·exact clOf_has hc r cs h
theorem lookup_relabel_free {env : Env} : ∀ {names : List (Str × NameKind)} {x : Str}, names.lookup x = some .free ->
  (names.map fun (n, k) => if (k == NameKind.free && env.scope.kind == .function && env.kindOf n == some .cell) then (n, NameKind.cell) else (n, k)).lookup x = some .cell \/
  (names.map fun (n, k) => if (k == NameKind.free && env.scope.kind == .function && env.kindOf n == some .cell) then (n, NameKind.cell) else (n, k)).lookup x = some .free
 | [], _, h => by simp at h
 | (n, k) :: r, x, h => by
  have ih := @lookup_relabel_free env r x
  show List.lookup x ((if (k == NameKind.free && env.scope.kind == .function && env.kindOf n == some .cell) = true then (n, NameKind.cell) else (n, k)) :: _) = _ \/ List.lookup x ((if (k == NameKind.free && env.scope.kind == .function && env.kindOf n == some .cell) = true then (n, NameKind.cell) else (n, k)) :: _) = _
  by_cases hc : (k == NameKind.free && env.scope.kind == .function && env.kindOf n == some .cell) = true
  ·rw [if_pos hc]
   cases hx : x == n with
   | true => left; simp only [lookup_cons, hx]
   | false => simp only [lookup_cons, hx] at h ⊢; exact ih h
  ·rw [if_neg hc]
   cases hx : x == n with
   | true => right; simp only [lookup_cons, hx] at h ⊢; exact h
   | false => simp only [lookup_cons, hx] at h ⊢; exact ih h
theorem relabel_free_mem {env : Env} : ∀ {names : List (Str × NameKind)} {x : Str} {k : NameKind}, (∀ y ∈ names, y.2 ≠ .cell) ->
  (names.map fun (n, k) => if (k == NameKind.free && env.scope.kind == .function && env.kindOf n == some .cell) then (n, NameKind.cell) else (n, k)).lookup x = some k -> (k = .cell \/ k = .free) -> (x, NameKind.free) ∈ names
 | [], _, _, _, h, _ => by simp at h
 | (n, k') :: r, x, k, hc0, h, hk => by
  have ih := @relabel_free_mem env r x k (fun y hy => hc0 y (mem_cons_of_mem _ hy))
  have h : List.lookup x ((if (k' == NameKind.free && env.scope.kind == .function && env.kindOf n == some .cell) = true then (n, NameKind.cell) else (n, k')) :: _) = _ := h
  by_cases hc : (k' == NameKind.free && env.scope.kind == .function && env.kindOf n == some .cell) = true
  ·rw [if_pos hc] at h
   have hf : k' = .free := by
    have := hc; simp only [Bool.and_eq_true] at this; simpa using this.1.1
   cases hx : x == n with
   | true =>
    have hxn : x = n := by simpa using hx
    subst hxn; subst hf; exact mem_cons_self
   | false => simp only [lookup_cons, hx] at h; exact mem_cons_of_mem _ (ih h hk)
  ·rw [if_neg hc] at h
   cases hx : x == n with
   | true =>
    have hxn : x = n := by simpa using hx
    subst hxn
    simp only [lookup_cons, hx] at h
    have e : k' = k := Option.some.inj h
    subst e
    rcases hk with hk | hk
    ·exact absurd hk (hc0 _ mem_cons_self)
    ·subst hk; exact mem_cons_self
   | false => simp only [lookup_cons, hx] at h; exact mem_cons_of_mem _ (ih h hk)
end
section
structure Blk (X : Cx) (sc : Scope) (N : List Str) (src : List (Option Nat)) : Prop where
 kind : sc.kind = .function
 nocell : ∀ y ∈ sc.names, y.2 ≠ .cell
 names : ∀ y ∈ sc.names, y.2 = .local -> sc.names.lookup y.1 = some .local
 free : ∀ y ∈ sc.names, y.2 = .free -> X.env.kindOf y.1 = some .cell \/ X.env.kindOf y.1 = some .free
 fv : ∀ (j i : Nat), src[j]? = some (some i) -> ∃ x, N[j]? = some x /\ X.N[i]? = some x /\ sc.names.lookup x = some .free
 len : src.length = N.length
noncomputable def blk0 (src : List (Option Nat)) (σ : St) : St := src.map fun o => o.bind fun i => (σ[i]?).join
noncomputable def blkCx (X : Cx) (sc : Scope) (C : Addr) (N : List Str) (fp : List Addr) (s : Shared) (H : Hp) : Cx where
 prog := X.prog
 w := X.w
 K := X.K
 mg := X.mg
 base := X.base
 A := X.A
 N := N
 s₀ := s
 H₀ := H
 env := compEnvC sc (clOf X.env.cells sc.names []) C X.env
 outer := X.stack
 stack := X.stack
 ex := fp
 fn := fun _ => false
 calm := X.calm
 pn := []
 xe := fun _ _ => False
section
variable {X : Cx} {pins : List (Addr × Obj)} {σ : St} {H : Hp} {s : Shared}
theorem Blk.cl {sc : Scope} {N : List Str} {src : List (Option Nat)} (B : Blk X sc N src) (ok : X.Ok) : closureFor sc X.env = pure (clOf X.env.cells sc.names []) :=
 closureFor_clOf fun x hx hk => ok.has x.1 (B.free x hx hk)
theorem cl_sub {sc : Scope} {x : Str} {c : Addr} (h : (clOf X.env.cells sc.names []).lookup x = some c) : X.env.cells.lookup x = some c :=
 clOf_sub sc.names [] (fun y d e => by simp at e) h
theorem blk_start {sc : Scope} {N : List Str} {src : List (Option Nat)} {fp : List Addr} {D C : Addr} {h4 : Heap} {t : Nat} {m : Str -> Option Value}
  (B : Blk X sc N src) (I : Inv X pins σ H s) (hf : ∀ b ∈ fp, FpOk X pins H b) (hfo : ∀ b ∈ fp, ∃ o, s.heap.get? b = some o)
  (hk : ∀ b o, s.heap.get? b = some o -> h4.get? b = some o) (hD : s.heap.objs.size <= D) (hDl : h4.get? D = some { cls := .type "list", data := .seq #[] 0 })
  (hn : h4.Ns C m) (hC : s.heap.objs.size <= C) (hDC : D ≠ C) :
  Inv (blkCx X sc C N fp s H) [] (blk0 src σ) (upd H D (.lst [])) { s with heap := h4, toks := t } := by
 have hHD : H D = none := I.hok.fresh hD
 have hHC : H C = none := I.hok.fresh hC
 have new : ObjOk X.prog X.w (upd H D (.lst [])) h4 D (.lst []) := ⟨Nat.zero_le _, [], 0, .nil, hDl⟩
 have cC : ∀ x c, X.env.cells.lookup x = some c -> c ≠ C := fun x c e z => by
  obtain ⟨v, q⟩ := I.cell x c e
  exact absurd (Nat.lt_of_lt_of_le q.lt (by rw [z]; exact hC)) (Nat.lt_irrefl _)
 have cD : ∀ x c, X.env.cells.lookup x = some c -> c ≠ D := fun x c e z => by
  obtain ⟨v, q⟩ := I.cell x c e
  exact absurd (Nat.lt_of_lt_of_le q.lt (by rw [z]; exact hD)) (Nat.lt_irrefl _)
 refine ⟨⟨I.ok.mod, ?_, I.ok.glob, I.ok.blt, hC, fun x y c h1 h2 => ?_, fun x hx => ?_, fun x c h _ => (by cases h), I.ok.hd, I.ok.frames, .inl rfl, fun b hb => ⟨?_, fun x c e => ?_⟩, I.bs, Nat.le_trans I.ok.bsz I.sz, fun b o e hb => ?_, fun b hb z => ?_, I.stack, I.stkFree⟩,
  rfl, I.bare, Un.laid hk hD hHD, ⟨m, hn, fun i x v e1 e2 e3 => ?_⟩, fun x c e => ?_, ?_, fun x c e => ?_, fun p hp => ?_, I.hok.laid hk hD new, ?_⟩
 ·show (relabel sc X.env).kind = _
  exact B.kind
 ·exact I.ok.inj x y c (cl_sub h1) (cl_sub h2)
 ·have hx' : (∃ k, (relabel sc X.env).names.lookup x = some k /\ (k = .cell \/ k = .free)) := by
   rcases hx with hx | hx
   ·exact ⟨_, hx, .inl rfl⟩
   ·exact ⟨_, hx, .inr rfl⟩
  obtain ⟨k, e, hk'⟩ := hx'
  have hm := relabel_free_mem B.nocell e hk'
  obtain ⟨c, hc'⟩ := I.ok.has x (B.free _ hm rfl)
  exact Option.isSome_iff_exists.mp (clOf_has hc' sc.names [] hm)
 ·obtain ⟨o, e⟩ := hfo b hb
  exact Nat.ne_of_lt (Nat.lt_of_lt_of_le (Heap.lt_size e) hC)
 ·exact (hf b hb).2.2.2.2.1 x c (cl_sub e)
 ·rcases (hf b hb).2.2.2.1 with z | z
  ·exact I.ok.noex b o e z
  ·exact absurd (Nat.lt_of_lt_of_le (Heap.lt_size e) (Nat.le_trans I.ok.bsz z)) (Nat.lt_irrefl _)
 ·rcases List.mem_cons.mp (I.stkSub b z) with z | z
  ·exact (hf b hb).2.1 z
  ·exact (hf b hb).2.2.1 z
 ·have e2' : ∃ k, src[i]? = some (some k) /\ σ[k]? = some (some v) := by
   unfold blk0 at e2
   rw [getElem?_map] at e2
   cases q : src[i]? with
   | none => rw [q] at e2; cases e2
   | some o =>
    rw [q] at e2
    cases o with
    | none => cases e2
    | some k =>
     refine ⟨k, rfl, ?_⟩
     have e2 : (σ[k]?).join = some v := Option.some.inj e2
     cases qq : σ[k]? with
     | none => rw [qq] at e2; cases e2
     | some z => rw [qq] at e2; exact congrArg some e2
  obtain ⟨k, ek, ev⟩ := e2'
  obtain ⟨x', n1, n2, n3⟩ := B.fv i k ek
  have : x' = x := by
   have e1 : N[i]? = some x := e1
   rw [n1] at e1; exact Option.some.inj e1
  subst this
  obtain ⟨m0, hn0, hl0⟩ := I.loc
  have hfk := B.free (x', .free) (PySem.mem_of_lookup n3) rfl
  obtain ⟨u, r, l⟩ := hl0 k x' v n2 ev (by rcases hfk with z | z; exact .inr (.inl z); exact .inr (.inr z))
  refine ⟨u, r, .inr ⟨?_, ?_⟩⟩
  ·exact lookup_relabel_free n3
  ·rcases l with ⟨l, _⟩ | ⟨_, c, ec, z⟩
   ·rcases hfk with q | q <;> (rw [q] at l; cases l)
   ·obtain ⟨c', ec'⟩ := Option.isSome_iff_exists.mp (clOf_has ec sc.names [] (PySem.mem_of_lookup n3))
    have := cl_sub ec'
    rw [ec] at this; cases this
    obtain ⟨o, ho, hd⟩ := z
    exact ⟨c, ec', o, hk c o ho, hd⟩
 ·obtain ⟨v, o, ho, hd⟩ := I.cell x c (cl_sub e)
  exact ⟨v, o, hk c o ho, hd⟩
 ·show upd H D _ C = none
  rw [upd_ne (Ne.symm hDC)]; exact hHC
 ·rw [upd_ne (cD x c (cl_sub e))]; exact I.freeC x c (cl_sub e)
 ·exact absurd (show p ∈ ([] : List (Addr × Obj)) ++ [] from hp) (by simp)
 ·show (blk0 src σ).length = N.length
  unfold blk0; rw [length_map]; exact B.len
end
end
section
abbrev noE : Value -> Shared -> Prop := fun _ _ => False
theorem toE {α : Type} {t : Sem α} {Q Q' : α -> Shared -> Prop} {M : Model} {A : Around} {E : Value -> Shared -> Prop} {s : Shared} (h : wpAny M A t Q noE s) (hQ : ∀ a s, Q a s -> Q' a s) : wpAny M A t Q' E s :=
 wpAny_mono h hQ fun _ _ x => x.elim
noncomputable abbrev compTests (ifs : List Expr) (env : Env) : Sem Bool := forIn ifs true fun c r => if r = true then do let ok ← isTrue c env (eval c env); pure (ForInStep.yield ok) else pure (ForInStep.yield r)
theorem compLoop_any {prog : Program} {w : World} {A : Around} {R : Result -> Shared -> Prop} {s : Shared} {elt target iter : Expr} {ifs : List Expr} {scope : Scope} {pos : Pos} {it acc : Value} {env : Env} (I : Nat -> Shared -> Prop)
  (turn : ∀ n s, I n s -> wpAny (model prog w) A (pyNext it) (fun r s₁ => match r with
   | none => R (.ok .next) s₁
   | some v => wpAny (model prog w) A (letOwnedTupleGo target it v) (fun _ s₁' => wpAny (model prog w) A (assign target env v) (fun _ s₂ =>
     wpAny (model prog w) A (compTests ifs env) (fun ok s₃ =>
      if ok = true then wpAny (model prog w) A (eval elt env) (fun x s₄ =>
       wpAny (model prog w) A (call (.builtin "list.append") [acc, x]) (fun _ s₅ => ∃ m, m < n /\ I m s₅) noE s₄) noE s₃
      else ∃ m, m < n /\ I m s₃) noE s₂) noE s₁') noE s₁) noE s)
  (n : Nat) (h : I n s) :
  codeAny (model prog w) A (.compLoop (.ListComp elt [⟨target, iter, ifs, 0⟩] scope pos) 0 it acc env) R s := by
 refine codeAny_loop rfl I (fun n s hI => ?_) n h
 show wpAny _ A ((compTurn (.ListComp elt [⟨target, iter, ifs, 0⟩] scope pos) 0 it acc env).onRaise (fun x => do noteFrame x env; theTreesLotGoes x)) _ _ s
 refine wpAny_noted ?_
 rw [compTurn_list]
 refine wpAny_bind (wpAny_standAt (wpAny_bind (toE (turn n s hI) (fun r s₁ h₁ => ?_))))
 cases r with
 | none => exact wpAny_pure h₁
 | some v =>
  refine wpAny_bind (toE h₁ fun _ s₁' h₁' => ?_)
  refine wpAny_bind (toE h₁' (fun _ s₂ h₂ => wpAny_bind (toE h₂ (fun ok s₃ h₃ => ?_))))
  cases ok with
  | false => exact wpAny_pure ⟨rfl, h₃⟩
  | true =>
   exact wpAny_bind (wpAny_bind (toE h₃ (fun x s₄ h₄ => wpAny_bind (toE h₄ (fun _ s₅ h₅ => wpAny_pure (wpAny_pure ⟨rfl, h₅⟩))))))
def PTs (X : Cx) (ifs : List Expr) (t : TT) : Prop :=
 ∀ (pins : List (Addr × Obj)) (s : Shared) (σ : St) (H : Hp) (Q : Bool -> Hp -> Prop), Inv X pins σ H s -> t σ H Q -> wpAny (model X.prog X.w) X.A (compTests ifs X.env) (TP X pins σ Q) X.xe s
def tYes : TT := fun _ H Q => Q true H
theorem pts_nil {X : Cx} : PTs X [] tYes := fun pins s σ H Q I h => wpAny_pure ⟨H, I, h⟩
theorem pts_one {X : Cx} {c : Expr} {t : TT} (h : PT X c t) : PTs X [c] t := fun pins s σ H Q I q => wpAny_tests_one (h pins s σ H Q I q)
def tComp (src : List (Option Nat)) (wi : TI) (g : TG) (tc : TT) (te : TE) : TE := fun σ H Q => wi σ H fun J H1 => ∀ D, H1 D = none -> ∃ W : Nat -> Nat -> St -> Hp -> Prop, (∃ m, W 0 m (blk0 src σ) (upd H1 D (.lst []))) /\ ∀ i m σ' H', W i m σ' H' ->
 (J.stop i H' /\ Q (.ref D) H') \/ (J.go i H' /\ ∃ N : St -> Hp -> Prop, (∀ σ2 H2, N σ2 H2 -> ∃ m', m' < m /\ W (i + 1) m' σ2 H2) /\ ∀ x H2, J.yld i H' x H2 -> g x σ' H2 fun σ3 H3 => tc σ3 H3 fun b H4 =>
  if b = true then te σ3 H4 fun y H5 => ∃ xs, H5 D = some (.lst xs) /\ xs.length < sizeLine /\ N σ3 (upd H5 D (.lst (xs ++ [y]))) else N σ3 H4)
section
variable {X : Cx}
theorem comp_block {sc : Scope} {N : List Str} {src : List (Option Nat)} {tg elt iter : Expr} {ifs : List Expr} {pos : Pos} {g : TG} {tc : TT} {te : TE} {cx : Cx -> Prop} (B : Blk X sc N src) (hc : ∀ C fp s H, cx (blkCx X sc C N fp s H))
  (hg : ∀ C fp s H, PG (blkCx X sc C N fp s H) tg g) (ht : ∀ C fp s H, PTs (blkCx X sc C N fp s H) ifs tc) (he : ∀ C fp s H, PE (blkCx X sc C N fp s H) elt te)
  {pins : List (Addr × Obj)} {σ : St} {H : Hp} {s : Shared} {it : Addr} {fp : List Addr} {tn : Nat -> Heap -> Prop} {J : It} {Q : VK} {E : Value -> Shared -> Prop}
  (I : Inv X pins σ H s) (T : TurnC cx X.prog X.w X.K tg J fp it tn) (st : tn 0 s.heap) (hf : ∀ b ∈ fp, FpOk X pins H b)
  (hW : ∀ D, H D = none -> ∃ W : Nat -> Nat -> St -> Hp -> Prop, (∃ m, W 0 m (blk0 src σ) (upd H D (.lst []))) /\ ∀ i m σ' H', W i m σ' H' ->
   (J.stop i H' /\ Q (.ref D) H') \/ (J.go i H' /\ ∃ N : St -> Hp -> Prop, (∀ σ2 H2, N σ2 H2 -> ∃ m', m' < m /\ W (i + 1) m' σ2 H2) /\ ∀ x H2, J.yld i H' x H2 -> g x σ' H2 fun σ3 H3 => tc σ3 H3 fun b H4 =>
    if b = true then te σ3 H4 fun y H5 => ∃ xs, H5 D = some (.lst xs) /\ xs.length < sizeLine /\ N σ3 (upd H5 D (.lst (xs ++ [y]))) else N σ3 H4))
  {RR : Value -> Addr -> Result -> Shared -> Prop}
  (hRR : ∀ D C H' s' m', Inv X pins σ H' s' -> s'.heap.Ns C m' -> H' C = none -> s.heap.objs.size <= C -> Q (.ref D) H' -> RR (.ref D) C (.ok .next) s') :
  wpAny (model X.prog X.w) X.A (newList []) (fun acc s₃ => wpAny (model X.prog X.w) X.A (newFunctionEnv sc X.env.globals (clOf X.env.cells sc.names []) [] X.env.qual none .none (some X.env)) (fun cenv s₄ =>
   codeAny (model X.prog X.w) X.A (.compStart (.ListComp elt [⟨tg, iter, ifs, 0⟩] sc pos) 0 (.ref it) acc { cenv with scope := relabel sc X.env }) (RR acc cenv.locals) s₄) E s₃) E s := by
 refine wpAny_newObj_type (wpAny_newFunctionEnv B.nocell (by intro y hy; simp at hy) (fun h₁ hns₁ hsb₁ => ?_) B.kind)
 dsimp only at hns₁ hsb₁ ⊢
 generalize hH2 : s.heap.push { cls := .type "list", dict := none, data := .seq ([] : List Value).toArray } = H2 at hns₁ hsb₁ ⊢
 have hC : H2.objs.size = s.heap.objs.size + 1 := by rw [<- hH2, Heap.size_push]
 have hDC : s.heap.objs.size ≠ H2.objs.size := by rw [hC]; exact Nat.ne_of_lt (Nat.lt_succ_self _)
 have hCle : s.heap.objs.size <= H2.objs.size := by rw [hC]; exact Nat.le_succ _
 have below : ∀ b, b < s.heap.objs.size -> b ≠ H2.objs.size := fun b hb => by rw [hC]; exact Nat.ne_of_lt (Nat.lt_succ_of_lt hb)
 have old : ∀ b o, s.heap.get? b = some o -> h₁.get? b = some o := fun b o e => hsb₁.extBut b o (below b (Heap.lt_size e)) (Heap.get?_push_of_some _ (hH2 ▸ Heap.get?_push_of_some _ e))
 have hacc : h₁.get? s.heap.objs.size = some { cls := .type "list", data := .seq #[] 0 } := hsb₁.extBut _ _ hDC (Heap.get?_push_of_some _ (hH2 ▸ Heap.get?_push_size _ rfl))
 have hfo : ∀ b ∈ fp, ∃ o, s.heap.get? b = some o := fun b hb => by obtain ⟨o, e, _⟩ := T.obj _ _ st b hb; exact ⟨o, e⟩
 have st1 : tn 0 h₁ := T.keep _ _ _ st fun b _ o e => old b o e
 obtain ⟨W, ⟨m0, w0⟩, turn⟩ := hW s.heap.objs.size I.fresh
 have I1 := blk_start (t := s.toks + ([] : List (Str × Value)).length) B I hf hfo old (Nat.le_refl _) hacc hns₁ hCle hDC
 have stat : ∀ {H' : Hp}, (∀ b ∈ fp, H' b = none) -> ∀ b ∈ fp, FpOk (blkCx X sc H2.objs.size N fp s H) [] H' b := fun {H'} hn b hb => by
  obtain ⟨f0, f1, f2, f3, f4, f5⟩ := hf b hb
  refine ⟨hn b hb, I1.ok.exf b hb |>.1, I1.ok.exfs b hb, .inl hb, fun x c e => f4 x c (cl_sub e), fun p hp => absurd (show p ∈ ([] : List (Addr × Obj)) ++ [] from hp) (by simp)⟩
 have hfD : ∀ b ∈ fp, b ≠ s.heap.objs.size := fun b hb z => by
  obtain ⟨o, e⟩ := hfo b hb
  exact absurd (Heap.lt_size e) (by rw [z]; exact Nat.lt_irrefl _)
 have loop : ∀ s₃ : Shared, s₃ = { s with heap := h₁, toks := s.toks + ([] : List (Str × Value)).length } ->
   codeAny (model X.prog X.w) X.A (.compLoop (.ListComp elt [⟨tg, iter, ifs, 0⟩] sc pos) 0 (.ref it) (.ref s.heap.objs.size) (compEnvC sc (clOf X.env.cells sc.names []) H2.objs.size X.env))
    (RR (.ref s.heap.objs.size) H2.objs.size) s₃ := by
  rintro s₃ rfl
  refine compLoop_any (fun n s' => ∃ i σ' H', Inv (blkCx X sc H2.objs.size N fp s H) [] σ' H' s' /\ tn i s'.heap /\ (∀ b ∈ fp, H' b = none) /\ W i n σ' H') ?_ m0
   ⟨0, _, _, I1, st1, fun b hb => by rw [upd_ne (hfD b hb)]; exact (hf b hb).1, w0⟩
  rintro n s3 ⟨i, σ3, H3, I3, st3, fr3, w3⟩
  rcases turn i n σ3 H3 w3 with ⟨stop, qn⟩ | ⟨go, N', hN', step⟩
  ·refine thn (T.done (blkCx X sc H2.objs.size N fp s H) rfl rfl rfl (hc _ _ _ _) i [] s3 σ3 H3 noE I3 (stat fr3) st3 stop) fun r s4 ⟨hr, I4⟩ => ?_
   subst hr
   obtain ⟨m4, hn4, _⟩ := id I4.loc
   refine hRR _ _ H3 s4 m4 ?_ hn4 I4.free hCle qn
   exact I.call' (ch := fp) I4.os I4.base I4.hok I4.bare fun b hb => ⟨(hf b hb).2.2.2.1, (hf b hb).2.1, (hf b hb).2.2.2.2.1, (hf b hb).2.2.2.2.2⟩
  ·refine thn (T.item (blkCx X sc H2.objs.size N fp s H) rfl rfl rfl (hc _ _ _ _) i [] s3 σ3 H3 noE I3 (stat fr3) st3 go) fun r s4 ⟨u, hr, h4⟩ => ?_
   subst hr
   refine thn h4 fun _ s5 hpat => ?_
   obtain ⟨x, H5, I5, r5, y5, st5, fr5⟩ := hpat
   have I5' := I5.pinned (stat fr5) (T.obj _ _ st5)
   have again : ∀ {s7 : Shared} {σ7 : St} {H7 : Hp}, Inv (blkCx X sc H2.objs.size N fp s H) ([] ++ pinsAt fp s5.heap) σ7 H7 s7 -> N' σ7 H7 -> ∃ m, m < n /\ ∃ i σ' H', Inv (blkCx X sc H2.objs.size N fp s H) [] σ' H' s7 /\ tn i s7.heap /\ (∀ b ∈ fp, H' b = none) /\ W i m σ' H' := fun {s7 σ7 H7} I7 n7 => by
    obtain ⟨m', hm, w7⟩ := hN' σ7 H7 n7
    refine ⟨m', hm, i + 1, σ7, H7, I7.unpinned, T.keep _ _ _ st5 fun b hb o e => (I7.pin (b, o) (mem_append_right _ (mem_append_right _ (mem_pinsAt hb e)))).1, fun b hb => ?_, w7⟩
    obtain ⟨o, e, d⟩ := T.obj _ _ st5 b hb
    exact (I7.pin (b, o) (mem_append_right _ (mem_append_right _ (mem_pinsAt hb e)))).2.1
   refine thn (hg _ _ _ _ _ s5 σ3 H5 x u _ I5' r5 (step x H5 y5)) fun _ s6 hpat => ?_
   obtain ⟨σ6, H6, I6, q6⟩ := hpat
   refine thn (ht _ _ _ _ _ s6 σ6 H6 _ I6 q6) fun ok s7 hpat => ?_
   obtain ⟨H7, I7, q7⟩ := hpat
   cases ok with
   | false =>
    rw [if_neg Bool.false_ne_true] at q7 ⊢
    exact again I7 q7
   | true =>
    rw [if_pos rfl] at q7 ⊢
    refine thn (he _ _ _ _ _ s7 σ6 H7 _ I7 q7) fun y s8 hpat => ?_
    obtain ⟨v8, H8, I8, r8, q8⟩ := hpat
    obtain ⟨xs, hD8, hz8, n8⟩ := q8
    refine thn (mt_append _ s8 σ6 H8 (.ref s.heap.objs.size) [v8] (.ref s.heap.objs.size) [y] (fun _ H9 => H9 = upd H8 s.heap.objs.size (.lst (xs ++ [v8]))) I8 rfl (.cons r8 .nil) ⟨_, xs, v8, rfl, rfl, hD8, hz8, rfl⟩) fun _ s9 hpat => ?_
    obtain ⟨v9, H9, I9, r9, q9⟩ := hpat
    subst q9
    exact again I9 n8
 refine codeAny_compStart_list (loop _ rfl) (toE (T.self X.A 0 { s with heap := h₁, toks := s.toks + ([] : List (Str × Value)).length } (fun v s' => v = .ref it /\ s' = { s with heap := h₁, toks := s.toks + ([] : List (Str × Value)).length }) noE st1 ⟨rfl, rfl⟩) fun v s' hpat => ?_)
 obtain ⟨e1, e2⟩ := hpat
 subst e1; subst e2
 exact loop _ rfl
theorem Inv.letGo {pins : List (Addr × Obj)} {σ : St} {H : Hp} {s s0 : Shared} {C : Addr} {h' : Heap} (I : Inv X pins σ H s) (I0 : ∃ σ0 H0, Inv X pins σ0 H0 s0) (hC : s0.heap.objs.size <= C) (hn : H C = none) (hs : Heap.SameBut C s.heap h') : Inv X pins σ H { s with heap := h' } := by
 obtain ⟨σ0, H0, I0⟩ := I0
 refine I.turned (t' := s.toks) (it := C) (fun b o hb e => (hs.2 b hb).trans e) hn (Nat.ne_of_gt (Nat.lt_of_lt_of_le I0.lt hC)) (.inr (Nat.le_trans I0.sz hC)) (fun x c e z => ?_) fun p hp z => ?_
 ·obtain ⟨v, q⟩ := I0.cell x c e
  exact absurd (Nat.lt_of_lt_of_le q.lt (by rw [z]; exact hC)) (Nat.lt_irrefl _)
 ·exact absurd (Nat.lt_of_lt_of_le (Heap.lt_size (I0.pin p hp).1) (by rw [z]; exact hC)) (Nat.lt_irrefl _)
theorem pe_comp {sc : Scope} {N : List Str} {src : List (Option Nat)} {tg elt iter : Expr} {ifs : List Expr} {pos : Pos} {wi : TI} {g : TG} {tc : TT} {te : TE} (B : Blk X sc N src) (hc : X.calm = true)
  (hi : PI X tg iter wi) (hg : ∀ C fp s H, PG (blkCx X sc C N fp s H) tg g) (ht : ∀ C fp s H, PTs (blkCx X sc C N fp s H) ifs tc) (he : ∀ C fp s H, PE (blkCx X sc C N fp s H) elt te)
  (hs : ∀ x, foldedSetIterable iter X.env x = pure x := by intro _; rfl) :
  PE X (.ListComp elt [⟨tg, iter, ifs, 0⟩] sc pos) (tComp src wi g tc te) := by
 intro pins s σ H Q I h
 rw [eval_ListComp]
 refine wpAny_comprehension_free (use := none) rfl hs (B.cl I.ok) B.kind B.names (wpAny_mono (hi pins s σ H _ I h) (fun xv s₁ h₁ => wpAny_mono h₁ (fun itv s₂ h₂ => ?_) fun _ _ e => e) fun _ _ e => e)
 obtain ⟨it, fp, tn, J, H2, rfl, I2, T, st2, f2, hW⟩ := h₂
 refine comp_block (RR := fun acc C => compPost (model X.prog X.w) X.A X.xe none (EP X pins σ Q) acc C) (Q := Q) B (fun _ _ _ _ => hc) hg ht he I2 T st2 f2 hW ?_
 intro D C H' s' m' I' hn hC hCs q
 exact ⟨m', hn, fun h'' hs'' => ⟨.ref D, H', I'.letGo ⟨_, _, I2⟩ hCs hC hs'', rfl, q⟩⟩
theorem ps_setC {i : Nat} {y : Str} {py : Pos} {sc : Scope} {N : List Str} {src : List (Option Nat)} {tg elt iter : Expr} {ifs : List Expr} {pos spos : Pos} {wi : TI} {g : TG} {tc : TT} {te : TE} (hN : X.N.Nodup) (hi' : X.N[i]? = some y) (hx : Loc X.env.scope y)
  (B : Blk X sc N src) (hc : X.calm = true)
  (hi : PI X tg iter wi) (hg : ∀ C fp s H, PG (blkCx X sc C N fp s H) tg g) (ht : ∀ C fp s H, PTs (blkCx X sc C N fp s H) ifs tc) (he : ∀ C fp s H, PE (blkCx X sc C N fp s H) elt te)
  (hsw : swapsWith (.ListComp elt [⟨tg, iter, ifs, 0⟩] sc pos) (some (.Name y py)) spos.line X.env = pure true := by rfl)
  (hs : ∀ x, foldedSetIterable iter X.env x = pure x := by intro _; rfl) (hf : X.fn y = true \/ X.env.scope.names.lookup y = some .local := by first | exact .inl rfl | exact .inr rfl | assumption) :
  PS X (.Assign [.Name y py] (.ListComp elt [⟨tg, iter, ifs, 0⟩] sc pos) spos) (tAsg (tComp src wi g tc te) (gName i)) := by
 intro pins s σ H Dn I h
 rw [exec_Assign_Name_used _ _ _ _ hsw]
 refine wpAny_bind (wpAny_standAt (wpAny_bind ?_))
 show wpAny _ _ (do let _ ← comprehension (.ListComp elt [⟨tg, iter, ifs, 0⟩] sc pos) sc X.env _ (newList []) false (eval iter X.env) (some (assign (.Name y py) X.env))) _ _ s
 refine wpAny_bind (wpAny_mono (wpAny_comprehension_free (use := some (assign (.Name y py) X.env)) (Q := fun _ s' => SP X pins Dn .next s') rfl hs (B.cl I.ok) B.kind B.names
  (wpAny_mono (hi pins s σ H _ I h) (fun xv s₁ h₁ => wpAny_mono h₁ (fun itv s₂ h₂ => ?_) fun _ _ e => e) fun _ _ e => e)) (fun _ s' hq => wpAny_pure (wpAny_pure hq)) fun _ _ e => e)
 obtain ⟨it, fp, tn, J, H2, rfl, I2, T, st2, f2, hW⟩ := h₂
 refine comp_block (RR := fun acc C => compPost (model X.prog X.w) X.A X.xe (some (assign (.Name y py) X.env)) (fun _ s' => SP X pins Dn .next s') acc C) (Q := fun x H1 => gName i x σ H1 Dn.nx) B (fun _ _ _ _ => hc) hg ht he I2 T st2 f2 hW ?_
 intro D C H' s' m' I' hn hC hCs q
 show wpAny _ _ (assign (.Name y py) X.env (.ref D)) _ _ _
 refine wpAny_assign_Name (store_ok2 I' hN hi' hx (v := .ref D) rfl (fun s'' I'' hpat => ?_) hf)
 obtain ⟨a, hsb, ha⟩ := hpat
 have hCa : C ≠ a := fun z => by
  rcases ha with ha | ha
  ·have := I2.lt; rw [<- ha, <- z] at this
   exact absurd (Nat.lt_of_lt_of_le this hCs) (Nat.lt_irrefl _)
  ·obtain ⟨v, qv⟩ := I2.cell y a ha
   exact absurd (Nat.lt_of_lt_of_le qv.lt (by rw [<- z]; exact hCs)) (Nat.lt_irrefl _)
 exact ⟨m', hn.sameBut hsb hCa, fun h'' hs'' => ⟨_, H', I''.letGo ⟨_, _, I2⟩ hCs hC hs'', q⟩⟩
end
end
section
section
variable {X : Cx} {pins : List (Addr × Obj)} {σ : St} {H : Hp} {s : Shared} {h' : Heap}
theorem Inv.turnedL {t' : Nat} {fp : List Addr} (I : Inv X pins σ H s) (k : ∀ b o, b ∉ fp -> s.heap.get? b = some o -> h'.get? b = some o) (hf : ∀ b ∈ fp, FpOk X pins H b) : Inv X pins σ H { s with heap := h', toks := t' } := by
 have nit : ∀ b u, H b = some u -> b ∉ fp := fun b u e z => by rw [(hf b z).1] at e; cases e
 refine I.step (g' := s.gens) (d' := s.drawn) (ch := fp) (fun b hb => ⟨(hf b hb).2.2.2.1, (hf b hb).2.1, (hf b hb).2.2.2.2.1, (hf b hb).2.2.2.2.2⟩) (fun b o _ _ hc e _ => k b o hc e) (fun b o _ _ hc e _ => ⟨o.slots, k b o hc e⟩) (fun _ _ _ _ n => n)
  (fun b o hc e => ⟨o, k b o hc e⟩) (fun _ _ e => e) (fun _ _ _ e => e) (fun b ps e => ⟨#[], by rw [e]; simp⟩) (fun m hm => ?_) (fun b u e => ?_) I.bare
 ·obtain ⟨o, es, ep, ho, r⟩ := hm
  exact ⟨o, es, ep, k _ o (fun z => (hf _ z).2.1 rfl) ho, r⟩
 ·refine (I.hok b u e).stay (fun c v hc q => k c v ?_ q) (fun _ q => q) fun _ _ q => q
  rcases hc with z | z
  ·rw [z]; exact nit b u e
  ·exact nit c _ z
theorem Inv.turnedN {t' : Nat} {fp : List Addr} {T : Addr} {o : HO} (I : Inv X pins σ H s) (k : ∀ b o, b ∉ fp -> s.heap.get? b = some o -> h'.get? b = some o) (hf : ∀ b ∈ fp, FpOk X pins H b) (hT : s.heap.objs.size <= T)
  (new : ObjOk X.prog X.w (upd H T o) h' T o) : Inv X pins σ (upd H T o) { s with heap := h', toks := t' } := by
 have hn : H T = none := I.hok.fresh hT
 have ne : ∀ b u, s.heap.get? b = some u -> b ≠ T := fun b u e z => absurd (Nat.lt_of_lt_of_le (Heap.lt_size e) (by rw [z]; exact hT)) (Nat.lt_irrefl _)
 have nit : ∀ b u, H b = some u -> b ∉ fp := fun b u e z => by rw [(hf b z).1] at e; cases e
 refine I.step (g' := s.gens) (d' := s.drawn) (ch := fp) (fun b hb => ⟨(hf b hb).2.2.2.1, (hf b hb).2.1, (hf b hb).2.2.2.2.1, (hf b hb).2.2.2.2.2⟩) (fun b o _ _ hc e _ => k b o hc e) (fun b o _ _ hc e _ => ⟨o.slots, k b o hc e⟩) (fun b o _ e n => by rw [upd_ne (ne b o e)]; exact n)
  (fun b o hc e => ⟨o, k b o hc e⟩) (fun b xs e => by rw [upd_ne (ne_of_none e hn)]; exact e) (fun b _ _ e => by rw [upd_ne (ne_of_none e hn)]; exact e) (fun b ps e => ⟨#[], by rw [upd_ne (ne_of_none e hn), e]; simp⟩) (fun m hm => ?_) (fun b u e => ?_) I.bare
 ·obtain ⟨o, es, ep, ho, r⟩ := hm
  exact ⟨o, es, ep, k _ o (fun z => (hf _ z).2.1 rfl) ho, r⟩
 ·by_cases hb : b = T
  ·subst hb; rw [upd_same] at e; cases e; exact new
  ·rw [upd_ne hb] at e
   refine (I.hok b u e).stay (fun c v hc q => k c v ?_ q) (fun c q => by rw [upd_ne (ne_of_none q hn)]; exact q) fun c xs q => by rw [upd_ne (ne_of_none q hn)]; exact q
   rcases hc with z | z
   ·rw [z]; exact nit b u e
   ·exact nit c _ z
end
structure Zip2 (z TI TO i1 i2 : Addr) : Prop where
 TIz : TI ≠ z
 TOz : TO ≠ z
 i1z : i1 ≠ z
 i2z : i2 ≠ z
 TITO : TI ≠ TO
 TIi1 : TI ≠ i1
 TIi2 : TI ≠ i2
 TOi1 : TO ≠ i1
 TOi2 : TO ≠ i2
 i12 : i1 ≠ i2
section
variable {X : Cx}
end
end
section
structure Zip3 (z TI TO i1 i2 i3 : Addr) : Prop where
 TIz : TI ≠ z
 TOz : TO ≠ z
 i1z : i1 ≠ z
 i2z : i2 ≠ z
 i3z : i3 ≠ z
 TITO : TI ≠ TO
 TIi1 : TI ≠ i1
 TIi2 : TI ≠ i2
 TIi3 : TI ≠ i3
 TOi1 : TO ≠ i1
 TOi2 : TO ≠ i2
 TOi3 : TO ≠ i3
 i12 : i1 ≠ i2
 i13 : i1 ≠ i3
 i23 : i2 ≠ i3
structure Apart3 (z TO i1 i2 i3 l : Addr) : Prop where
 lz : l ≠ z
 lTO : l ≠ TO
 l1 : l ≠ i1
 l2 : l ≠ i2
 l3 : l ≠ i3
section
variable {prog : Program} {w : World} {A : Around} {E : Value -> Shared -> Prop} {s : Shared}
end
section
variable {X : Cx}
end
noncomputable def Ite (K : W.Frag) (l : Addr) : It :=
 ⟨fun i H => ∃ xs x, SqL K H l xs /\ xs[i]? = some x,
  fun i H v H' => ∃ t x, v = .ref t /\ H t = none /\ H' = upd H t (.tup [.int i, x]) /\ (∀ xs, SqL K H l xs -> xs[i]? = some x),
  fun i H => ∃ xs, SqL K H l xs /\ xs.length <= i⟩
theorem turn_enum {P : Program} {w : World} {K : W.Frag} {es : List Expr} {tk : Nat} {tp : Pos} (e it l : Addr) (hne : e ≠ it) :
  Turn P w K (.Tuple es tk tp) (Ite K l) [e, it] e (fun i h => (∃ old, IsEnum h e it (i : Nat) old) /\ h.IsListIter it l i) where
 mem := by simp
 obj := fun i h st b hb => by
  obtain ⟨⟨old, he⟩, ⟨o1, e1, _, d1⟩⟩ := st
  simp only [mem_cons, not_mem_nil, or_false] at hb
  rcases hb with rfl | rfl
  ·exact ⟨_, he, fun v q => by cases q⟩
  ·exact ⟨_, e1, fun v q => by rw [d1] at q; cases q⟩
 keep := fun i h h' st k => by
  obtain ⟨⟨old, he⟩, h1⟩ := st
  exact ⟨⟨old, k e (by simp) _ he⟩, h1.at fun o q => k it (by simp) o q⟩
 item := by
  intro X hP hw hK hc i pins s σ H E I hf st hg
  subst hP hw hK
  obtain ⟨xs, x, hq1, hx⟩ := hg
  obtain ⟨its1, rv1, p1, _⟩ := I.list hq1
  obtain ⟨u1, hu1, ru1⟩ := rv1.get hx
  obtain ⟨⟨old, he⟩, h1⟩ := st
  refine wpAny_pyNext_enum_item he h1 p1.isList (x := u1) (by simpa using hu1) hne fun h' a1 a2 a3 a4 hk => ?_
  refine ⟨_, rfl, ?_⟩
  refine wpAny_letOwnedTupleGo_enum a1 fun h'' he'' hs'' => ?_
  have hzs : e < s.heap.objs.size := Heap.lt_size he
  have kk : ∀ c o, c ∉ [e, it] -> s.heap.get? c = some o -> h''.get? c = some o := fun c o hc q => by
   simp only [mem_cons, not_mem_nil, or_false, not_or] at hc
   exact hs''.extBut _ _ hc.1 (hk c o hc.1 hc.2 q)
  have hT : h''.get? s.heap.objs.size = some { cls := .type "tuple", data := .seq #[.int i s.toks, u1] } := hs''.extBut _ _ (Nat.ne_of_gt hzs) a3
  have I2 : Inv X pins σ (upd H s.heap.objs.size (.tup [.int i, x])) { s with heap := h'', toks := s.toks + 1 } :=
   I.turnedN (T := s.heap.objs.size) (o := .tup [.int i, x]) kk hf (Nat.le_refl _) ⟨by show 2 <= sizeLine; decide, [.int i s.toks, u1], .cons ⟨_, rfl⟩ (.cons ru1 .nil), ⟨_, hT, rfl, _, rfl⟩⟩
  refine ⟨.ref s.heap.objs.size, _, I2, rfl, ⟨_, x, rfl, I.fresh, rfl, fun zs hzs' => by rw [I.list_inj hzs' hq1]; exact hx⟩,
   ⟨⟨_, he''⟩, a2.extBut hs''.extBut hne.symm⟩, fun c hc' => ?_⟩
  have hlt : c < s.heap.objs.size := by
   obtain ⟨o1, e1, _⟩ := h1
   simp only [mem_cons, not_mem_nil, or_false] at hc'
   rcases hc' with rfl | rfl
   ·exact hzs
   ·exact Heap.lt_size e1
  rw [upd_ne (Nat.ne_of_lt hlt)]
  exact (hf c hc').1
 done := by
  intro X hP hw hK hc i pins s σ H E I hf st hg
  subst hP hw hK
  obtain ⟨xs, hq1, hl⟩ := hg
  obtain ⟨its1, rv1, p1, _⟩ := I.list hq1
  obtain ⟨⟨old, he⟩, h1⟩ := st
  have l1' := rv1.length
  refine wpAny_pyNext_enum_end (I.ok.hd hc) he h1 p1.isList (by simp; omega) fun h' hk => ⟨rfl, ?_⟩
  exact I.turnedL (t' := s.toks) (fun c o hc q => by
   simp only [mem_cons, not_mem_nil, or_false, not_or] at hc
   exact hk c o hc.2 q) hf
 self := fun A i s Q E st h => by
  obtain ⟨⟨old, he⟩, h1⟩ := st
  have hT : s.TypeIs (.ref e) "enumerate" := ⟨_, he, rfl⟩
  refine wpAny_pyIter_slot hT F.slot_enumerate_iter (wpAny_call_entry F.slot_enumerate_iter hT F.entry_enumerate_iter ?_ (F.args_enumerate_iter_1 _))
  show wpAny _ _ (ret (.ref e)) _ _ s
  exact wpAny_pure ⟨_, rfl, "enumerate", _, hT, F.slot_enumerate_next.lookup, h⟩
section
variable {X : Cx}
def iEnum (K : W.Frag) (ta : TA) : TI := fun σ H R => ta σ H fun vs H1 => ∃ a xs, vs = [.ref a] /\ SqL K H1 a xs /\ R (Ite K a) H1
theorem pi_enum {a : Expr} {ta : TA} {p pos : Pos} {es : List Expr} {tk : Nat} {tp : Pos} (hg : Gl X "enumerate") (hm : X.mg "enumerate" = none) (ha : PA X [a] ta) (hs : starEach [a] X.env = [(false, eval a X.env)] := by rfl) :
  PI X (.Tuple es tk tp) (.Call (.Name "enumerate" p) [a] [] pos) (iEnum X.K ta) := by
 intro pins s σ H R I h
 refine Call_ (ld_blt I hg hm boot_enumerate (PyProof.Rows.callWith_type1 (thn (ha pos pins s σ H _ I h) fun us s1 hpat => ?_) hs rfl))
 obtain ⟨vs, H1, I1, r1, q1⟩ := hpat
 obtain ⟨l, xs, e, q1, q⟩ := q1
 subst e
 cases r1 with
 | cons r rr =>
  cases rr
  cases r
  obtain ⟨its1, rv1, p1, _⟩ := I1.list q1
  refine call_enumerate_list p1.isList fun h' he hit hsz hk => ?_
  have I2 : Inv X pins σ H1 { s1 with heap := h', toks := s1.toks } := I1.kept hk
  have hT : ({ s1 with heap := h' } : Shared).TypeIs (.ref (s1.heap.objs.size + 1)) "enumerate" := ⟨_, he, rfl⟩
  refine (turn_enum (P := X.prog) (w := X.w) (K := X.K) (es := es) (tk := tk) (tp := tp) (s1.heap.objs.size + 1) s1.heap.objs.size l (Nat.ne_of_gt (Nat.lt_succ_self _))).self X.A 0 { s1 with heap := h' } _ _ ⟨⟨_, he⟩, hit⟩ ?_
  refine ⟨_, [s1.heap.objs.size + 1, s1.heap.objs.size], _, _, H1, rfl, I2, turn_enum _ _ l (Nat.ne_of_gt (Nat.lt_succ_self _)), ⟨⟨_, he⟩, hit⟩, fun b hb => ?_, q⟩
  have hb' : s1.heap.objs.size <= b := by
   simp only [mem_cons, not_mem_nil, or_false] at hb
   rcases hb with rfl | rfl
   ·exact Nat.le_succ _
   ·exact Nat.le_refl _
  exact I1.fpOk hb' (I1.hok.fresh hb')
end
end
section
def XAt (a C : Addr) (h : Heap) : Prop := ∃ o vs, h.get? a = some o /\ o.cls = .ref C /\ o.data = .fields vs /\ vs[2]? = some .none
noncomputable def xName (K : W.Frag) (C : Addr) : Option Str := match K.lookup C with
 | some ⟨_, _, .cls cd, _⟩ => some cd.name
 | _ => none
inductive D where
 | non | bl (b : Bool) | int (i : Int) | str (x : Str) | lst (ds : List D) | tup (ds : List D) | exc (c : Str)
 | ptr (a : Addr) | obj (c : Str) (ns : List Str) (ds : List D)
mutual
inductive Rep (K : W.Frag) (F : Hp) : V -> D -> Prop
 | non : Rep K F .non .non
 | bl (b : Bool) : Rep K F (.bl b) (.bl b)
 | int (i : Int) : Rep K F (.int i) (.int i)
 | str (x : Str) : Rep K F (.str x) (.str x)
 | lst {a : Addr} {xs : List V} {ds : List D} : SqL K F a xs -> Reps K F xs ds -> Rep K F (.ref a) (.lst ds)
 | tup {a : Addr} {xs : List V} {ds : List D} : SqT K F a xs -> Reps K F xs ds -> Rep K F (.ref a) (.tup ds)
 | exc {a C : Addr} {c : Str} : (W.nsIn K mainGlobals c = some (some (.ref C)) /\ xName K C = some c) -> F a = some (.ext (XAt a C)) -> Rep K F (.ref a) (.exc c)
 | ptr (a : Addr) : Rep K F (.ref a) (.ptr a)
 | obj {a dx C : Addr} {c : Str} {ns : List Str} {xs : List V} {ds : List D} : W.nsIn K mainGlobals c = some (some (.ref C)) -> ns.length = xs.length -> F a = some (.ins C dx (ns.zip xs)) -> F dx = some (.own a) -> Reps K F xs ds -> Rep K F (.ref a) (.obj c ns ds)
inductive Reps (K : W.Frag) (F : Hp) : List V -> List D -> Prop
 | nil : Reps K F [] []
 | cons {v : V} {d : D} {vs : List V} {ds : List D} : Rep K F v d -> Reps K F vs ds -> Reps K F (v :: vs) (d :: ds)
end
theorem Same.seqT {K : W.Frag} {H H' : Hp} {a : Addr} {xs : List V} (e : Same H H') (h : SqT K H a xs) : SqT K H' a xs := by
 rcases h with (h | ⟨o, h⟩) | h
 ·exact .inl (.inl (e _ _ h))
 ·exact .inl (.inr ⟨o, e _ _ h⟩)
 ·exact .inr h
section
variable {K : W.Frag} {F F' : Hp}
mutual
theorem Rep.mono (e : Same F F') : ∀ {v : V} {d : D}, Rep K F v d -> Rep K F' v d
 | _, _, .non => .non
 | _, _, .bl b => .bl b
 | _, _, .int i => .int i
 | _, _, .str x => .str x
 | _, _, .lst h r => .lst (e.seq h) (Reps.mono e r)
 | _, _, .tup h r => .tup (e.seqT h) (Reps.mono e r)
 | _, _, .exc h r => .exc h (e _ _ r)
 | _, _, .ptr a => .ptr a
 | _, _, .obj c l h h2 r => .obj c l (e _ _ h) (e _ _ h2) (Reps.mono e r)
theorem Reps.mono (e : Same F F') : ∀ {vs : List V} {ds : List D}, Reps K F vs ds -> Reps K F' vs ds
 | _, _, .nil => .nil
 | _, _, .cons h r => .cons (Rep.mono e h) (Reps.mono e r)
end
theorem Reps.length : ∀ {vs : List V} {ds : List D}, Reps K F vs ds -> vs.length = ds.length
 | _, _, .nil => rfl
 | _, _, .cons _ r => congrArg (· + 1) (Reps.length r)
theorem Reps.get : ∀ {vs : List V} {ds : List D} {i : Nat} {d : D}, Reps K F vs ds -> ds[i]? = some d -> ∃ v, vs[i]? = some v /\ Rep K F v d
 | _, _, _, _, .nil, e => by simp at e
 | _, _, 0, _, .cons h _, e => by simp at e; subst e; exact ⟨_, rfl, h⟩
 | _, _, i + 1, d, .cons _ r, e => by
  obtain ⟨v, h1, h2⟩ := Reps.get (i := i) (d := d) r (by simpa using e)
  exact ⟨v, by simpa using h1, h2⟩
theorem Reps.get' : ∀ {vs : List V} {ds : List D} {i : Nat} {v : V}, Reps K F vs ds -> vs[i]? = some v -> ∃ d, ds[i]? = some d /\ Rep K F v d
 | _, _, _, _, .nil, e => by simp at e
 | _, _, 0, _, .cons h _, e => by simp at e; subst e; exact ⟨_, rfl, h⟩
 | _, _, i + 1, d, .cons _ r, e => by
  obtain ⟨v, h1, h2⟩ := Reps.get' (i := i) (v := d) r (by simpa using e)
  exact ⟨v, by simpa using h1, h2⟩
theorem Reps.append : ∀ {vs ws : List V} {ds es : List D}, Reps K F vs ds -> Reps K F ws es -> Reps K F (vs ++ ws) (ds ++ es)
 | _, _, _, _, .nil, s => s
 | _, _, _, _, .cons h r, s => .cons h (Reps.append r s)
theorem Reps.take : ∀ {vs : List V} {ds : List D} (n : Nat), Reps K F vs ds -> Reps K F (vs.take n) (ds.take n)
 | _, _, 0, _ => .nil
 | _, _, _ + 1, .nil => .nil
 | _, _, n + 1, .cons h r => .cons h (Reps.take n r)
theorem Reps.drop : ∀ {vs : List V} {ds : List D} (n : Nat), Reps K F vs ds -> Reps K F (vs.drop n) (ds.drop n)
 | _, _, 0, r => r
 | _, _, _ + 1, .nil => .nil
 | _, _, n + 1, .cons _ r => Reps.drop n r
theorem Reps.set {v : V} {d : D} (h : Rep K F v d) : ∀ {vs : List V} {ds : List D} (i : Nat), Reps K F vs ds -> Reps K F (vs.set i v) (ds.set i d)
 | _, _, _, .nil => .nil
 | _, _, 0, .cons _ r => .cons h r
 | _, _, i + 1, .cons q r => .cons q (Reps.set h i r)
end
structure Ext (F H F' H' : Hp) : Prop where
 ff : Same F F'
 hh : Same H H'
 fh : Same F' H'
 new : ∀ b, F b = none -> F' b ≠ none -> H b = none
 nf : ∀ b o u, F' b = some (.frz o u) -> F b = some (.frz o u)
theorem Ext.refl {F H : Hp} (h : Same F H) : Ext F H F H := ⟨Same.refl _, Same.refl _, h, fun b e n => absurd e n, fun _ _ _ z => z⟩
theorem Ext.trans {F H F1 H1 F2 H2 : Hp} (a : Ext F H F1 H1) (b : Ext F1 H1 F2 H2) : Ext F H F2 H2 :=
 ⟨a.ff.trans b.ff, a.hh.trans b.hh, b.fh, fun c e n => by
  by_cases h : F1 c = none
  ·exact a.hh.free (b.new c h n)
  ·exact a.new c e h, fun c o u z => a.nf c o u (b.nf c o u z)⟩
theorem Same.put {F H : Hp} {p : Addr} {o : HO} (h : Same F H) (hp : F p = none) : Same F (upd H p o) := fun b u e => by
 rw [upd_ne (ne_of_none e hp)]; exact h b u e
theorem Same.put2 {F H : Hp} {p : Addr} {o : HO} (h : Same F H) : Same (upd F p o) (upd H p o) := fun b u e => by
 by_cases hb : b = p
 ·subst hb; rw [upd_same] at e ⊢; exact e
 ·rw [upd_ne hb] at e ⊢; exact h b u e
theorem Ext.laid {F H : Hp} {p : Addr} {o : HO} (h : Same F H) (hp : H p = none) (hz : ∀ a u, o ≠ .frz a u := by intro _ _ z; cases z) : Ext F H (upd F p o) (upd H p o) :=
 ⟨(Same.refl F).put (h.free hp), (Same.refl H).put hp, h.put2, fun b e n => by
  by_cases hb : b = p
  ·subst hb; exact hp
  ·rw [upd_ne hb] at n; exact absurd e n, fun b a u z => by
  by_cases hb : b = p
  ·subst hb; rw [upd_same] at z; exact absurd (Option.some.inj z) (hz a u)
  ·rw [upd_ne hb] at z; exact z⟩
theorem Ext.own {F H : Hp} {p : Addr} {o : HO} (h : Same F H) (hp : H p = none) : Ext F H F (upd H p o) :=
 ⟨Same.refl F, (Same.refl H).put hp, h.put (h.free hp), fun b e n => absurd e n, fun _ _ _ z => z⟩
theorem Ext.freeze {F H F' H' : Hp} {p : Addr} {o : HO} (a : Ext F H F' H') (hp' : F' p = none) (hp : H p = none) (ho : H' p = some o) (hz : ∀ a u, o ≠ .frz a u := by intro _ _ z; cases z) : Ext F H (upd F' p o) H' :=
 ⟨a.ff.put (a.ff.free hp'), a.hh, fun b u e => by
   by_cases hb : b = p
   ·subst hb; rw [upd_same] at e; cases e; exact ho
   ·rw [upd_ne hb] at e; exact a.fh b u e, fun b e n => by
   by_cases hb : b = p
   ·subst hb; exact hp
   ·rw [upd_ne hb] at n; exact a.new b e n, fun b c u z => by
   by_cases hb : b = p
   ·subst hb; rw [upd_same] at z; exact absurd (Option.some.inj z) (hz c u)
   ·rw [upd_ne hb] at z; exact a.nf b c u z⟩
inductive S where
 | sh (d : D) | own (ds : List D) | ob (p : Addr) (ds : List D)
noncomputable abbrev Ro := List (Option S)
structure Rl (K : W.Frag) (F0 H0 F H : Hp) (σ : St) (ρ : Ro) : Prop where
 ext : Ext F0 H0 F H
 len : σ.length = ρ.length
 sh : ∀ (i : Nat) d, ρ[i]? = some (some (.sh d)) -> ∃ v, σ[i]? = some (some v) /\ Rep K F v d
 own : ∀ (i : Nat) ds, ρ[i]? = some (some (.own ds)) -> ∃ p xs, σ[i]? = some (some (.ref p)) /\ F p = none /\ H p = some (.lst xs) /\ Reps K F xs ds /\ H0 p = none
 inj : ∀ (i j : Nat) p ds es, i ≠ j -> ρ[i]? = some (some (.own ds)) -> ρ[j]? = some (some (.own es)) -> σ[i]? = some (some (.ref p)) -> σ[j]? = some (some (.ref p)) -> False
 ob : ∀ (i : Nat) p ds, ρ[i]? = some (some (.ob p ds)) -> σ[i]? = some (some (.ref p)) /\ F p = none /\ H0 p = none /\ ∃ xs, H p = some (.lst xs) /\ Reps K F xs ds
 obn : ∀ (i j : Nat) p ds es, ρ[i]? = some (some (.ob p ds)) -> ρ[j]? = some (some (.own es)) -> σ[j]? = some (some (.ref p)) -> False
 ob1 : ∀ (i j : Nat) p q ds es, ρ[i]? = some (some (.ob p ds)) -> ρ[j]? = some (some (.ob q es)) -> i = j
noncomputable def nob : Option S -> Prop
 | some (.ob _ _) => False
 | _ => True
theorem set_ob {ρ : Ro} {i j : Nat} {x : Option S} {p : Addr} {ds : List D} (e : (ρ.set i x)[j]? = some (some (.ob p ds))) (hx : nob x := by exact True.intro) : i ≠ j /\ ρ[j]? = some (some (.ob p ds)) := by
 by_cases hj : i = j
 ·subst hj
  rcases Nat.lt_or_ge i ρ.length with z | z
  ·rw [getElem?_set_self z] at e; cases e; exact hx.elim
  ·rw [getElem?_eq_none (by simpa using z)] at e; cases e
 ·rw [getElem?_set_ne hj] at e; exact ⟨hj, e⟩
section
variable {K : W.Frag} {F0 H0 F H F' H' : Hp} {σ : St} {ρ : Ro}
theorem Rl.fh (r : Rl K F0 H0 F H σ ρ) : Same F H := r.ext.fh
theorem Rl.go (r : Rl K F0 H0 F H σ ρ) (e : Ext F H F' H') : Rl K F0 H0 F' H' σ ρ where
 ext := r.ext.trans e
 len := r.len
 sh := fun i d h => let ⟨v, a, b⟩ := r.sh i d h; ⟨v, a, b.mono e.ff⟩
 own := fun i ds h => by
  obtain ⟨p, xs, a, b, c, d, z⟩ := r.own i ds h
  refine ⟨p, xs, a, ?_, e.hh _ _ c, d.mono e.ff, z⟩
  cases q : F' p with
  | none => rfl
  | some o => have := e.new p b (by rw [q]; simp); rw [this] at c; cases c
 inj := r.inj
 ob := fun i p ds h => by
  obtain ⟨a, b, c, xs, d, z⟩ := r.ob i p ds h
  refine ⟨a, ?_, c, xs, e.hh _ _ d, z.mono e.ff⟩
  cases q : F' p with
  | none => rfl
  | some o => have := e.new p b (by rw [q]; simp); rw [this] at d; cases d
 obn := r.obn
 ob1 := r.ob1
theorem Rl.set (r : Rl K F0 H0 F H σ ρ) {i : Nat} {v : V} {d : D} (h : Rep K F v d) : Rl K F0 H0 F H (σ.set i (some v)) (ρ.set i (some (.sh d))) where
 ext := r.ext
 len := by simp [r.len]
 sh := fun j d' e => by
  by_cases hj : i = j
  ·subst hj
   have hl : i < ρ.length := by
    rcases Nat.lt_or_ge i ρ.length with z | z
    ·exact z
    ·rw [getElem?_eq_none (by simpa using z)] at e; cases e
   rw [getElem?_set_self hl] at e
   cases e
   exact ⟨v, by rw [getElem?_set_self (by rw [r.len]; exact hl)], h⟩
  ·rw [getElem?_set_ne hj] at e ⊢
   exact r.sh j d' e
 own := fun j ds e => by
  by_cases hj : i = j
  ·subst hj
   have hl : i < ρ.length := by
    rcases Nat.lt_or_ge i ρ.length with z | z
    ·exact z
    ·rw [getElem?_eq_none (by simpa using z)] at e; cases e
   rw [getElem?_set_self hl] at e
   cases e
  ·rw [getElem?_set_ne hj] at e ⊢
   exact r.own j ds e
 inj := fun j k p ds es hjk e1 e2 e3 e4 => by
  have n1 : i ≠ j := fun z => by
   subst z
   have hl : i < ρ.length := by
    rcases Nat.lt_or_ge i ρ.length with z | z
    ·exact z
    ·rw [getElem?_eq_none (by simpa using z)] at e1; cases e1
   rw [getElem?_set_self hl] at e1; cases e1
  have n2 : i ≠ k := fun z => by
   subst z
   have hl : i < ρ.length := by
    rcases Nat.lt_or_ge i ρ.length with z | z
    ·exact z
    ·rw [getElem?_eq_none (by simpa using z)] at e2; cases e2
   rw [getElem?_set_self hl] at e2; cases e2
  rw [getElem?_set_ne n1] at e1 e3
  rw [getElem?_set_ne n2] at e2 e4
  exact r.inj j k p ds es hjk e1 e2 e3 e4
 ob := fun j p ds e => by
  obtain ⟨n, e⟩ := set_ob e
  rw [getElem?_set_ne n]; exact r.ob j p ds e
 obn := fun j k p ds es e1 e2 e3 => by
  obtain ⟨n, e1⟩ := set_ob e1
  have n2 : i ≠ k := fun z => by
   subst z
   have hl : i < ρ.length := by
    rcases Nat.lt_or_ge i ρ.length with z | z
    ·exact z
    ·rw [getElem?_eq_none (by simpa using z)] at e2; cases e2
   rw [getElem?_set_self hl] at e2; cases e2
  rw [getElem?_set_ne n2] at e2 e3
  exact r.obn j k p ds es e1 e2 e3
 ob1 := fun j k p q ds es e1 e2 => r.ob1 j k p q ds es (set_ob e1).2 (set_ob e2).2
theorem Rl.setOwn (r : Rl K F0 H0 F H σ ρ) {i : Nat} {p : Addr} {xs : List V} {ds : List D} (hF : F p = none) (hH : H p = some (.lst xs)) (h : Reps K F xs ds) (h0 : H0 p = none)
  (fr : ∀ (j : Nat) es, i ≠ j -> ρ[j]? = some (some (.own es)) -> σ[j]? = some (some (.ref p)) -> False) (fo : ∀ (j : Nat) q es, ρ[j]? = some (some (.ob q es)) -> q ≠ p) : Rl K F0 H0 F H (σ.set i (some (.ref p))) (ρ.set i (some (.own ds))) where
 ext := r.ext
 len := by simp [r.len]
 sh := fun j d' e => by
  by_cases hj : i = j
  ·subst hj
   have hl : i < ρ.length := by
    rcases Nat.lt_or_ge i ρ.length with z | z
    ·exact z
    ·rw [getElem?_eq_none (by simpa using z)] at e; cases e
   rw [getElem?_set_self hl] at e
   cases e
  ·rw [getElem?_set_ne hj] at e ⊢
   exact r.sh j d' e
 own := fun j es e => by
  by_cases hj : i = j
  ·subst hj
   have hl : i < ρ.length := by
    rcases Nat.lt_or_ge i ρ.length with z | z
    ·exact z
    ·rw [getElem?_eq_none (by simpa using z)] at e; cases e
   rw [getElem?_set_self hl] at e
   cases e
   exact ⟨p, xs, by rw [getElem?_set_self (by rw [r.len]; exact hl)], hF, hH, h, h0⟩
  ·rw [getElem?_set_ne hj] at e ⊢
   exact r.own j es e
 inj := fun j k q es es' hjk e1 e2 e3 e4 => by
  by_cases n1 : i = j
  ·subst n1
   rw [getElem?_set_ne hjk] at e2 e4
   have hl : i < σ.length := by
    rcases Nat.lt_or_ge i σ.length with z | z
    ·exact z
    ·rw [getElem?_eq_none (by simpa using z)] at e3; cases e3
   rw [getElem?_set_self hl] at e3
   cases e3
   exact fr k es' hjk e2 e4
  ·rw [getElem?_set_ne n1] at e1 e3
   by_cases n2 : i = k
   ·subst n2
    have hl : i < σ.length := by
     rcases Nat.lt_or_ge i σ.length with z | z
     ·exact z
     ·rw [getElem?_eq_none (by simpa using z)] at e4; cases e4
    rw [getElem?_set_self hl] at e4
    cases e4
    exact fr j es n1 e1 e3
   ·rw [getElem?_set_ne n2] at e2 e4
    exact r.inj j k q es es' hjk e1 e2 e3 e4
 ob := fun j q es e => by
  obtain ⟨n, e⟩ := set_ob e
  rw [getElem?_set_ne n]; exact r.ob j q es e
 obn := fun j k q es es' e1 e2 e3 => by
  obtain ⟨n, e1⟩ := set_ob e1
  by_cases n2 : i = k
  ·subst n2
   have hl : i < σ.length := by
    rcases Nat.lt_or_ge i σ.length with z | z
    ·exact z
    ·rw [getElem?_eq_none (by simpa using z)] at e3; cases e3
   rw [getElem?_set_self hl] at e3
   cases e3
   exact fo j p es e1 rfl
  ·rw [getElem?_set_ne n2] at e2 e3
   exact r.obn j k q es es' e1 e2 e3
 ob1 := fun j k p q ds es e1 e2 => r.ob1 j k p q ds es (set_ob e1).2 (set_ob e2).2
theorem Rl.freeze (r : Rl K F0 H0 F H σ ρ) {i : Nat} {ds : List D} (h : ρ[i]? = some (some (.own ds))) : ∃ F', Rl K F0 H0 F' H σ (ρ.set i (some (.sh (.lst ds)))) /\ Same F F' := by
 obtain ⟨p, xs, a, b, c, d, z⟩ := r.own i ds h
 have hl : i < ρ.length := (List.getElem?_eq_some_iff.mp h).1
 have e : Ext F0 H0 (upd F p (.lst xs)) H := r.ext.freeze b z c
 have ff : Same F (upd F p (.lst xs)) := (Same.refl F).put b
 refine ⟨upd F p (.lst xs), ⟨e, by simp [r.len], fun j d' q => ?_, fun j es q => ?_, fun j k q es es' hjk e1 e2 e3 e4 => ?_, fun j q es e1 => ?_, fun j k q es es' e1 e2 e3 => ?_, fun j k q q' es es' e1 e2 => r.ob1 j k q q' es es' (set_ob e1).2 (set_ob e2).2⟩, ff⟩
 ·by_cases hj : i = j
  ·subst hj
   rw [getElem?_set_self hl] at q
   cases q
   exact ⟨_, a, .lst (SqL.of upd_same) (d.mono ff)⟩
  ·rw [getElem?_set_ne hj] at q
   obtain ⟨v, v1, v2⟩ := r.sh j d' q
   exact ⟨v, v1, v2.mono ff⟩
 ·by_cases hj : i = j
  ·subst hj
   rw [getElem?_set_self hl] at q
   cases q
  ·rw [getElem?_set_ne hj] at q
   obtain ⟨p', xs', a', b', c', d', z'⟩ := r.own j es q
   have hp : p' ≠ p := fun w => r.inj i j p ds es hj h q a (by rw [<- w]; exact a')
   exact ⟨p', xs', a', by rw [upd_ne hp]; exact b', c', d'.mono ff, z'⟩
 ·have n1 : i ≠ j := fun w => by subst w; rw [getElem?_set_self hl] at e1; cases e1
  have n2 : i ≠ k := fun w => by subst w; rw [getElem?_set_self hl] at e2; cases e2
  rw [getElem?_set_ne n1] at e1
  rw [getElem?_set_ne n2] at e2
  exact r.inj j k q es es' hjk e1 e2 e3 e4
 ·obtain ⟨n, e1⟩ := set_ob e1
  obtain ⟨o1, o2, o3, zs, o4, o5⟩ := r.ob j q es e1
  have hp : q ≠ p := fun w => r.obn j i q es ds e1 h (by rw [w]; exact a)
  exact ⟨o1, by rw [upd_ne hp]; exact o2, o3, zs, o4, o5.mono ff⟩
 ·obtain ⟨n, e1⟩ := set_ob e1
  have n2 : i ≠ k := fun w => by subst w; rw [getElem?_set_self hl] at e2; cases e2
  rw [getElem?_set_ne n2] at e2
  exact r.obn j k q es es' e1 e2 e3
theorem Rl.write (r : Rl K F0 H0 F H σ ρ) {i : Nat} {p : Addr} {ys : List V} {ds es : List D} (h : ρ[i]? = some (some (.own ds))) (hp : σ[i]? = some (some (.ref p))) (hy : Reps K F ys es) :
  Rl K F0 H0 F (upd H p (.lst ys)) σ (ρ.set i (some (.own es))) := by
 obtain ⟨p', xs', a, b, c, d, z⟩ := r.own i ds h
 rw [hp] at a; cases a
 have hl : i < ρ.length := (List.getElem?_eq_some_iff.mp h).1
 refine ⟨⟨r.ext.ff, r.ext.hh.put z, r.ext.fh.put b, r.ext.new, r.ext.nf⟩, by simp [r.len], fun j d' q => ?_, fun j fs q => ?_, fun j k q fs fs' hjk e1 e2 e3 e4 => ?_, fun j q fs e1 => ?_, fun j k q fs fs' e1 e2 e3 => ?_, fun j k q q' es es' e1 e2 => r.ob1 j k q q' es es' (set_ob e1).2 (set_ob e2).2⟩
 ·by_cases hj : i = j
  ·subst hj
   rw [getElem?_set_self hl] at q
   cases q
  ·rw [getElem?_set_ne hj] at q
   exact r.sh j d' q
 ·by_cases hj : i = j
  ·subst hj
   rw [getElem?_set_self hl] at q
   cases q
   exact ⟨p, ys, hp, b, upd_same, hy, z⟩
  ·rw [getElem?_set_ne hj] at q
   obtain ⟨p2, xs2, a2, b2, c2, d2, z2⟩ := r.own j fs q
   have hpp : p2 ≠ p := fun w => r.inj i j p ds fs hj h q hp (by rw [<- w]; exact a2)
   exact ⟨p2, xs2, a2, b2, by rw [upd_ne hpp]; exact c2, d2, z2⟩
 ·have back : ∀ (m : Nat) gs, (ρ.set i (some (S.own es)))[m]? = some (some (.own gs)) -> ∃ gs', ρ[m]? = some (some (.own gs')) := fun m gs e => by
   by_cases hm : i = m
   ·subst hm; exact ⟨ds, h⟩
   ·rw [getElem?_set_ne hm] at e; exact ⟨gs, e⟩
  obtain ⟨g1, e1⟩ := back j fs e1
  obtain ⟨g2, e2⟩ := back k fs' e2
  exact r.inj j k q g1 g2 hjk e1 e2 e3 e4
 ·obtain ⟨n, e1⟩ := set_ob e1
  obtain ⟨o1, o2, o3, zs, o4, o5⟩ := r.ob j q fs e1
  have hpp : q ≠ p := fun w => r.obn j i q fs ds e1 h (by rw [w]; exact hp)
  exact ⟨o1, o2, o3, zs, by rw [upd_ne hpp]; exact o4, o5⟩
 ·obtain ⟨n, e1⟩ := set_ob e1
  by_cases n2 : i = k
  ·subst n2; exact r.obn j i q fs ds e1 h e3
  ·rw [getElem?_set_ne n2] at e2
   exact r.obn j k q fs fs' e1 e2 e3
theorem Rl.writeB (r : Rl K F0 H0 F H σ ρ) {i : Nat} {p : Addr} {ys : List V} {ds es : List D} (h : ρ[i]? = some (some (.ob p ds))) (hy : Reps K F ys es) :
  Rl K F0 H0 F (upd H p (.lst ys)) σ (ρ.set i (some (.ob p es))) := by
 obtain ⟨a, b, z, xs', c, d⟩ := r.ob i p ds h
 have hl : i < ρ.length := (List.getElem?_eq_some_iff.mp h).1
 have back : ∀ (j : Nat) q fs, (ρ.set i (some (S.ob p es)))[j]? = some (some (.ob q fs)) -> j = i /\ q = p /\ fs = es := fun j q fs e => by
  by_cases hj : i = j
  ·subst hj; rw [getElem?_set_self hl] at e; cases e; exact ⟨rfl, rfl, rfl⟩
  ·rw [getElem?_set_ne hj] at e; exact absurd (r.ob1 i j p q ds fs h e) hj
 have other : ∀ (j : Nat) fs, (ρ.set i (some (S.ob p es)))[j]? = some (some (.own fs)) -> i ≠ j /\ ρ[j]? = some (some (.own fs)) := fun j fs e => by
  by_cases hj : i = j
  ·subst hj; rw [getElem?_set_self hl] at e; cases e
  ·rw [getElem?_set_ne hj] at e; exact ⟨hj, e⟩
 refine ⟨⟨r.ext.ff, r.ext.hh.put z, r.ext.fh.put b, r.ext.new, r.ext.nf⟩, by simp [r.len], fun j d' q => ?_, fun j fs q => ?_, fun j k q fs fs' hjk e1 e2 e3 e4 => r.inj j k q fs fs' hjk (other j fs e1).2 (other k fs' e2).2 e3 e4, fun j q fs e1 => ?_, fun j k q fs fs' e1 e2 e3 => ?_, fun j k q q' fs fs' e1 e2 => ?_⟩
 ·by_cases hj : i = j
  ·subst hj; rw [getElem?_set_self hl] at q; cases q
  ·rw [getElem?_set_ne hj] at q; exact r.sh j d' q
 ·obtain ⟨n, e⟩ := other j fs q
  obtain ⟨p2, xs2, a2, b2, c2, d2, z2⟩ := r.own j fs e
  have hpp : p2 ≠ p := fun w => r.obn i j p ds fs h e (by rw [<- w]; exact a2)
  exact ⟨p2, xs2, a2, b2, by rw [upd_ne hpp]; exact c2, d2, z2⟩
 ·obtain ⟨e2, e3, e4⟩ := back j q fs e1
  subst e2 e3 e4
  exact ⟨a, b, z, ys, upd_same, hy⟩
 ·obtain ⟨e4, e5, _⟩ := back j q fs e1
  subst e4 e5
  exact r.obn j k q ds fs' h (other k fs' e2).2 e3
 ·rw [(back j q fs e1).1, (back k q' fs' e2).1]
end
theorem Rep.n' {K : W.Frag} {F : Hp} {x : V} (r : Rep K F x .non) : x = .non := by cases r; rfl
theorem Rep.b' {K : W.Frag} {F : Hp} {x : V} {i : Bool} (r : Rep K F x (.bl i)) : x = .bl i := by cases r; rfl
theorem Rep.i' {K : W.Frag} {F : Hp} {x : V} {i : Int} (r : Rep K F x (.int i)) : x = .int i := by cases r; rfl
theorem Rep.s' {K : W.Frag} {F : Hp} {x : V} {i : Str} (r : Rep K F x (.str i)) : x = .str i := by cases r; rfl
theorem Rep.l' {K : W.Frag} {F : Hp} {x : V} {ds : List D} (r : Rep K F x (.lst ds)) : ∃ a xs, x = .ref a /\ SqL K F a xs /\ Reps K F xs ds := by cases r with | lst s r => exact ⟨_, _, rfl, s, r⟩
theorem Rep.t' {K : W.Frag} {F : Hp} {x : V} {ds : List D} (r : Rep K F x (.tup ds)) : ∃ a xs, x = .ref a /\ SqT K F a xs /\ Reps K F xs ds := by cases r with | tup s r => exact ⟨_, _, rfl, s, r⟩
end
section
noncomputable abbrev ME := Ro -> Option D
noncomputable abbrev ML := Ro -> Option (List D)
noncomputable abbrev MB := Ro -> Option Bool
def TD (K : W.Frag) (m : ME) : TE := fun σ H Q => ∃ F0 H0 F ρ d, Rl K F0 H0 F H σ ρ /\ m ρ = some d /\ ∀ v F' H', Ext F H F' H' -> Rep K F' v d -> Q v H'
def TF (K : W.Frag) (m : ML) : TE := fun σ H Q => ∃ F0 H0 F ρ ds, Rl K F0 H0 F H σ ρ /\ m ρ = some ds /\ ∀ p xs F' H', Ext F H F' H' -> H p = none -> F' p = none -> H' p = some (.lst xs) -> Reps K F' xs ds -> Q (.ref p) H'
def TB (K : W.Frag) (m : ML) : TE := fun σ H Q => ∃ F0 H0 F ρ ds, Rl K F0 H0 F H σ ρ /\ m ρ = some ds /\ ∀ p xs F' H', Ext F H F' H' -> SqL K H' p xs -> Reps K F' xs ds -> Q (.ref p) H'
def TC (K : W.Frag) (c : MB) : TT := fun σ H Q => ∃ F0 H0 F ρ b, Rl K F0 H0 F H σ ρ /\ c ρ = some b /\ ∀ F' H', Ext F H F' H' -> Q b H'
def TAs (K : W.Frag) (m : ML) : TA := fun σ H Q => ∃ F0 H0 F ρ ds, Rl K F0 H0 F H σ ρ /\ m ρ = some ds /\ ∀ vs F' H', Ext F H F' H' -> Reps K F' vs ds -> Q vs H'
def PD (X : Cx) (e : Expr) (m : ME) : Prop := PE X e (TD X.K m)
def PF (X : Cx) (e : Expr) (m : ML) : Prop := PE X e (TF X.K m)
def PB (X : Cx) (e : Expr) (m : ML) : Prop := PE X e (TB X.K m)
def PC' (X : Cx) (e : Expr) (c : MB) : Prop := PT X e (TC X.K c)
def PCw (X : Cx) (e : Expr) (c : MB) : Prop := PW X e (TC X.K c)
def PAs (X : Cx) (es : List Expr) (m : ML) : Prop := PA X es (TAs X.K m)
section
variable {X : Cx} {a b c e : Expr} {ma mb : ME} {pos : Pos}
theorem PE.imp {t t' : TE} (h : PE X e t) (i : ∀ σ H Q, t' σ H Q -> t σ H Q) : PE X e t' := fun pins s σ H Q I q => h pins s σ H Q I (i σ H Q q)
theorem PT.imp {t t' : TT} (h : PT X e t) (i : ∀ σ H Q, t' σ H Q -> t σ H Q) : PT X e t' := fun pins s σ H Q I q => h pins s σ H Q I (i σ H Q q)
theorem PW.imp {t t' : TT} (h : PW X e t) (i : ∀ σ H Q, t' σ H Q -> t σ H Q) : PW X e t' := fun w pins s σ H Q I q => h w pins s σ H Q I (i σ H Q q)
theorem PA.imp {es : List Expr} {t t' : TA} (h : PA X es t) (i : ∀ σ H Q, t' σ H Q -> t σ H Q) : PA X es t' := fun pos pins s σ H Q I q => h pos pins s σ H Q I (i σ H Q q)
noncomputable def mvar (i : Nat) : ME := fun ρ => match ρ[i]? with | some (some (.sh d)) => some d | _ => none
noncomputable def bvar (i : Nat) : ML := fun ρ => match ρ[i]? with | some (some (.sh (.lst ds))) => some ds | some (some (.own ds)) => some ds | some (some (.ob _ ds)) => some ds | _ => none
noncomputable def mc (d : D) : ME := fun _ => some d
theorem pd_var (i : Nat) {x : Str} {pos : Pos} (h : PE X (.Name x pos) (tVar i)) : PD X (.Name x pos) (mvar i) := h.imp fun σ H Q hpat => by
 obtain ⟨F0, H0, F, ρ, d, r, e, q⟩ := hpat
 unfold mvar at e
 split at e
 ·rename_i h'
  cases e
  obtain ⟨v, e1, e2⟩ := r.sh i _ h'
  exact ⟨v, e1, q v F H (.refl r.fh) e2⟩
 ·cases e
theorem pb_var (i : Nat) {x : Str} {pos : Pos} (h : PE X (.Name x pos) (tVar i)) : PB X (.Name x pos) (bvar i) := h.imp fun σ H Q hpat => by
 obtain ⟨F0, H0, F, ρ, d, r, e, q⟩ := hpat
 unfold bvar at e
 split at e
 ·rename_i ds h'
  cases e
  obtain ⟨v, e1, e2⟩ := r.sh i _ h'
  cases e2 with
  | lst s rs => exact ⟨_, e1, q _ _ F H (.refl r.fh) (r.fh.seq s) rs⟩
 ·rename_i ds h'
  cases e
  obtain ⟨p, xs, e1, e2, e3, e4, _⟩ := r.own i _ h'
  exact ⟨_, e1, q _ _ F H (.refl r.fh) (SqL.of e3) e4⟩
 ·rename_i p ds h'
  cases e
  obtain ⟨e1, e2, _, xs, e3, e4⟩ := r.ob i p _ h'
  exact ⟨_, e1, q _ _ F H (.refl r.fh) (SqL.of e3) e4⟩
 ·cases e
theorem pd_int {i : Int} {j pos} : PD X (.Constant (.int i) j pos) (mc (.int i)) := pe_int.imp fun σ H Q hpat => by
 obtain ⟨F0, H0, F, ρ, d, r, e, q⟩ := hpat
 cases e; exact q _ F H (.refl r.fh) (.int i)
theorem pd_bl {b : Bool} {j pos} : PD X (.Constant (.bool b) j pos) (mc (.bl b)) := pe_bl.imp fun σ H Q hpat => by
 obtain ⟨F0, H0, F, ρ, d, r, e, q⟩ := hpat
 cases e; exact q _ F H (.refl r.fh) (.bl b)
theorem pd_non {j pos} : PD X (.Constant .none j pos) (mc .non) := pe_non.imp fun σ H Q hpat => by
 obtain ⟨F0, H0, F, ρ, d, r, e, q⟩ := hpat
 cases e; exact q _ F H (.refl r.fh) .non
noncomputable def mlst (m : ML) : ME := fun ρ => (m ρ).map .lst
noncomputable def aslst (m : ME) : ML := fun ρ => match m ρ with | some (.lst ds) => some ds | _ => none
theorem pf_pd {m : ML} (h : PF X e m) : PD X e (mlst m) := h.imp fun σ H Q hpat => by
 obtain ⟨F0, H0, F, ρ, d, r, e, q⟩ := hpat
 unfold mlst at e
 cases hm : m ρ with
 | none => rw [hm] at e; cases e
 | some ds =>
  rw [hm] at e; cases e
  refine ⟨F0, H0, F, ρ, ds, r, hm, fun p xs F' H' x hp hF hH rs => ?_⟩
  exact q _ (upd F' p (.lst xs)) H' (x.freeze hF hp hH) (.lst (SqL.of upd_same) (rs.mono ((Same.refl F').put hF)))
theorem pd_pb (h : PD X e ma) : PB X e (aslst ma) := h.imp fun σ H Q hpat => by
 obtain ⟨F0, H0, F, ρ, d, r, e, q⟩ := hpat
 unfold aslst at e
 split at e
 ·rename_i ds hm
  cases e
  refine ⟨F0, H0, F, ρ, _, r, hm, fun v F' H' x rv => ?_⟩
  cases rv with
  | lst s rs => exact q _ _ F' H' x (x.fh.seq s) rs
 ·cases e
theorem pf_pb {m : ML} (h : PF X e m) : PB X e m := h.imp fun σ H Q ⟨F0, H0, F, ρ, d, r, e, q⟩ =>
 ⟨F0, H0, F, ρ, d, r, e, fun p xs F' H' x hp hF hH rs => q p xs F' H' x (SqL.of hH) rs⟩
@[irreducible] noncomputable def m2 (f : D -> D -> Option D) (x y : ME) : ME := fun ρ => (x ρ).bind fun d => (y ρ).bind fun e => f d e
def OpD (K : W.Frag) (r : R2) (f : D -> D -> Option D) : Prop := ∀ (F H : Hp) (x y : V) (d e g : D) (Q : VK), Same F H -> Rep K F x d -> Rep K F y e -> f d e = some g -> (∀ v F' H', Ext F H F' H' -> Rep K F' v g -> Q v H') -> r x y H Q
theorem m2_some {f : D -> D -> Option D} {ρ : Ro} {g : D} (h : m2 f ma mb ρ = some g) : ∃ d e, ma ρ = some d /\ mb ρ = some e /\ f d e = some g := by
 unfold m2 at h
 cases h1 : ma ρ with
 | none => rw [h1] at h; cases h
 | some d =>
  cases h2 : mb ρ with
  | none => rw [h1, h2] at h; cases h
  | some e => rw [h1, h2] at h; exact ⟨d, e, rfl, rfl, h⟩
theorem op_d {r : R2} {f : D -> D -> Option D} (hf : OpD X.K r f) {σ : St} {H : Hp} {Q : VK} (h : TD X.K (m2 f ma mb) σ H Q) : tOp r (TD X.K ma) (TD X.K mb) σ H Q := by
 obtain ⟨F0, H0, F, ρ, g, rl, e, q⟩ := h
 obtain ⟨d, e', h1, h2, h3⟩ := m2_some e
 refine ⟨F0, H0, F, ρ, d, rl, h1, fun x F1 H1 x1 r1 => ⟨F0, H0, F1, ρ, e', rl.go x1, h2, fun y F2 H2 x2 r2 => ?_⟩⟩
 exact hf F2 H2 x y d e' g Q x2.fh (r1.mono x2.ff) r2 h3 fun v F' H' x3 => q v F' H' ((x1.trans x2).trans x3)
theorem pd_op {op : Operator} {r : R2} {f : D -> D -> Option D} (ho : OpR X (binaryOp op) r) (hf : OpD X.K r f) (ha : PD X a ma) (hb : PD X b mb) : PD X (.BinOp a op b pos) (m2 f ma mb) := (pe_op ho ha hb).imp fun _ _ _ h => op_d hf h
theorem pd_cmp {op : CmpOp} {r : R2} {f : D -> D -> Option D} (ho : OpR X (compareOp op) r) (hf : OpD X.K r f) (ha : PD X a ma) (hb : PD X b mb) (hm : behindInMarks op b = false) : PD X (.Compare a [op] [b] pos) (m2 f ma mb) := (pe_cmpR ho ha hb hm).imp fun _ _ _ h => op_d hf h
noncomputable def mtest (m : ME) : MB := fun ρ => match m ρ with | some (.bl b) => some b | _ => none
theorem pc_cmp {op : CmpOp} {r : R2} {f : D -> D -> Option D} (ho : OpR X (compareOp op) r) (hf : OpD X.K r f) (ha : PD X a ma) (hb : PD X b mb) (hm : behindInMarks op b = false) : PC' X (.Compare a [op] [b] pos) (mtest (m2 f ma mb)) := (pt_cmpR ho ha hb hm).imp fun σ H Q hpat => by
 obtain ⟨F0, H0, F, ρ, g, rl, e, q⟩ := hpat
 unfold mtest at e
 split at e
 ·rename_i k hk
  cases e
  refine op_d hf ⟨F0, H0, F, ρ, .bl g, rl, hk, fun v F' H' x r => ?_⟩
  cases r
  exact ⟨_, rfl, q F' H' x⟩
 ·cases e
noncomputable def int2 (g : Int -> Int -> Option D) : D -> D -> Option D
 | .int i, .int j => g i j
 | _, _ => none
theorem int2_inv {g : Int -> Int -> Option D} {d e w : D} (h : int2 g d e = some w) : ∃ i j, d = .int i /\ e = .int j /\ g i j = some w := by
 cases d with
 | int i =>
  cases e with
  | int j => exact ⟨i, j, rfl, rfl, h⟩
  | _ => cases h
 | _ => cases h
theorem opd_rI0 {K : W.Frag} {g : Int -> Int -> V} {g' : Int -> Int -> D} (hg : ∀ F i j, Rep K F (g i j) (g' i j)) : OpD K (rI0 g) (int2 fun i j => some (g' i j)) := by
 intro F H x y d e w Q s r1 r2 h q
 obtain ⟨i, j, rfl, rfl, h'⟩ := int2_inv h
 clear h
 cases h'
 exact ⟨i, j, r1.i', r2.i', q _ F H (.refl s) (hg F i j)⟩
theorem opd_rI {K : W.Frag} {C : Int -> Int -> Prop} {ok : Int -> Int -> Bool} {g : Int -> Int -> V} {g' : Int -> Int -> D} (hC : ∀ i j, ok i j = true -> C i j) (hg : ∀ F i j, Rep K F (g i j) (g' i j)) :
  OpD K (rI C g) (int2 fun i j => if ok i j = true then some (g' i j) else none) := by
 intro F H x y d e w Q s r1 r2 h q
 obtain ⟨i, j, rfl, rfl, h'⟩ := int2_inv h
 clear h
 by_cases hk : ok i j = true
 ·rw [if_pos hk] at h'
  cases h'
  exact ⟨i, j, r1.i', r2.i', hC i j hk, q _ F H (.refl s) (hg F i j)⟩
 ·rw [if_neg hk] at h'
  cases h'
noncomputable def subD : D -> D -> Option D := int2 fun i j => some (.int (i - j))
noncomputable def mulOk (i j : Int) : Bool := (decide (-(2 ^ 64) < i) && decide (i < 2 ^ 64)) || (decide (-(2 ^ 64) < j) && decide (j < 2 ^ 64))
noncomputable def mulD : D -> D -> Option D := int2 fun i j => if mulOk i j = true then some (.int (i * j)) else none
noncomputable def fdivOk (_ j : Int) : Bool := decide (0 < j) && decide (j < 1073741824)
noncomputable def fdivD : D -> D -> Option D := int2 fun i j => if fdivOk i j = true then some (.int (i / j)) else none
noncomputable def modOk (_ j : Int) : Bool := decide (0 < j)
noncomputable def modD : D -> D -> Option D := int2 fun i j => if modOk i j = true then some (.int (i % j)) else none
noncomputable def powOk (i j : Int) : Bool := decide (0 <= j) && decide (j <= 1000000) && decide (i.natAbs < 2 ^ 64)
noncomputable def powD : D -> D -> Option D := int2 fun i j => if powOk i j = true then some (.int (i ^ j.toNat)) else none
noncomputable def ltD : D -> D -> Option D := int2 fun i j => some (.bl (decide (i < j)))
noncomputable def leD : D -> D -> Option D := int2 fun i j => some (.bl (decide (i <= j)))
noncomputable def gtD : D -> D -> Option D := int2 fun i j => some (.bl (decide (j < i)))
noncomputable def geD : D -> D -> Option D := int2 fun i j => some (.bl (decide (j <= i)))
theorem opd_sub {K : W.Frag} : OpD K (rI0 fun i j => .int (i - j)) subD := opd_rI0 fun F i j => .int _
theorem opd_mul {K : W.Frag} : OpD K (rI CMul fun i j => .int (i * j)) mulD := opd_rI (fun i j h => by
 unfold mulOk at h
 simp only [Bool.or_eq_true, Bool.and_eq_true, decide_eq_true_eq] at h
 exact h) fun F i j => .int _
theorem opd_fdiv {K : W.Frag} : OpD K (rI CDiv fun i j => .int (i / j)) fdivD := opd_rI (fun i j h => by
 unfold fdivOk at h
 simp only [Bool.and_eq_true, decide_eq_true_eq] at h
 exact h) fun F i j => .int _
theorem opd_mod {K : W.Frag} : OpD K (rI (fun _ j => 0 < j) fun i j => .int (i % j)) modD := opd_rI (fun i j h => of_decide_eq_true h) fun F i j => .int _
theorem opd_pow {K : W.Frag} : OpD K (rI CPow fun i j => .int (i ^ j.toNat)) powD := opd_rI (fun i j h => by
 unfold powOk at h
 simp only [Bool.and_eq_true, decide_eq_true_eq] at h
 exact ⟨h.1.1, h.1.2, h.2⟩) fun F i j => .int _
theorem opd_lt {K : W.Frag} : OpD K (rI0 fun i j => .bl (decide (i < j))) ltD := opd_rI0 fun F i j => .bl _
theorem opd_gt {K : W.Frag} : OpD K (rI0 fun i j => .bl (decide (j < i))) gtD := opd_rI0 fun F i j => .bl _
theorem opd_ge {K : W.Frag} : OpD K (rI0 fun i j => .bl (decide (j <= i))) geD := opd_rI0 fun F i j => .bl _
noncomputable def eqS : D -> D -> Option Bool
 | .non, .non => some true | .non, .int _ => some false | .int _, .non => some false | .non, .bl _ => some false | .bl _, .non => some false | .non, .str _ => some false | .str _, .non => some false
 | .int i, .int j => some (i == j) | .bl i, .bl j => some (i == j) | .str i, .str j => some (i == j)
 | .int _, .str _ => some false | .str _, .int _ => some false | .bl _, .str _ => some false | .str _, .bl _ => some false
 | _, _ => none
noncomputable def eqSD (d e : D) : Option D := (eqS d e).map .bl
noncomputable def neSD (d e : D) : Option D := (eqS d e).map fun b => .bl (!b)
noncomputable def scV : D -> V
 | .bl b => .bl b | .int i => .int i | .str x => .str x | _ => .non
theorem eqS_inv {d e : D} {k : Bool} (h : eqS d e = some k) : scal (scV d) (scV e) = true /\ decide (scV d = scV e) = k := by
 cases d with
 | non => cases e <;> cases h <;> exact ⟨rfl, rfl⟩
 | bl i =>
  cases e <;> cases h
  ·exact ⟨rfl, rfl⟩
  ·exact ⟨rfl, dec_bl⟩
  ·exact ⟨rfl, rfl⟩
 | int i =>
  cases e <;> cases h
  ·exact ⟨rfl, rfl⟩
  ·exact ⟨rfl, dec_int⟩
  ·exact ⟨rfl, rfl⟩
 | str i =>
  cases e <;> cases h
  ·exact ⟨rfl, rfl⟩
  ·exact ⟨rfl, rfl⟩
  ·exact ⟨rfl, rfl⟩
  ·exact ⟨rfl, dec_str⟩
 | _ => cases h
theorem eqS_l {d e : D} {k : Bool} (h : eqS d e = some k) {K : W.Frag} {F : Hp} {x : V} (r : Rep K F x d) : x = scV d := by
 cases d with
 | non => exact r.n'
 | bl i => exact r.b'
 | int i => exact r.i'
 | str i => exact r.s'
 | _ => cases h
theorem eqS_sym (d e : D) (k : Bool) (h : eqS d e = some k) : ∃ k', eqS e d = some k' := by
 cases d with
 | non => cases e <;> cases h <;> exact ⟨_, rfl⟩
 | bl i => cases e <;> cases h <;> exact ⟨_, rfl⟩
 | int i => cases e <;> cases h <;> exact ⟨_, rfl⟩
 | str i => cases e <;> cases h <;> exact ⟨_, rfl⟩
 | _ => cases h
theorem opd_eqS {K : W.Frag} : OpD K rEq eqSD := by
 intro F H x y d e w Q s r1 r2 h q
 unfold eqSD at h
 cases hk : eqS d e with
 | none => rw [hk] at h; cases h
 | some k =>
  rw [hk] at h
  cases h
  obtain ⟨k', hk'⟩ := eqS_sym d e k hk
  obtain ⟨h1, h2⟩ := eqS_inv hk
  rw [eqS_l hk r1, eqS_l hk' r2]
  refine ⟨h1, ?_⟩
  rw [h2]
  exact q _ F H (.refl s) (.bl _)
noncomputable def m1 (f : D -> Option D) (x : ME) : ME := fun ρ => (x ρ).bind f
noncomputable def negD : D -> Option D
 | .int i => some (.int (-i))
 | _ => none
theorem m1_some {f : D -> Option D} {ρ : Ro} {g : D} (h : m1 f ma ρ = some g) : ∃ d, ma ρ = some d /\ f d = some g := by
 unfold m1 at h
 cases h1 : ma ρ with
 | none => rw [h1] at h; cases h
 | some d => rw [h1] at h; exact ⟨d, rfl, h⟩
theorem pd_neg (ha : PD X a ma) : PD X (.UnaryOp .USub a pos) (m1 negD ma) := (pe_un un_neg ha).imp fun σ H Q hpat => by
 obtain ⟨F0, H0, F, ρ, g, rl, e, q⟩ := hpat
 obtain ⟨d, h1, h2⟩ := m1_some e
 refine ⟨F0, H0, F, ρ, d, rl, h1, fun x F1 H1 x1 r1 => ?_⟩
 cases r1 <;> first | (cases h2; done) | skip
 cases h2
 exact ⟨_, rfl, q _ F1 H1 x1 (.int _)⟩
noncomputable def notD : D -> Option D
 | .bl b => some (.bl (!b))
 | _ => none
theorem pd_not (ha : PD X a ma) : PD X (.UnaryOp .Not a pos) (m1 notD ma) := (pe_not ha).imp fun σ H Q hpat => by
 obtain ⟨F0, H0, F, ρ, g, rl, e, q⟩ := hpat
 obtain ⟨d, h1, h2⟩ := m1_some e
 refine ⟨F0, H0, F, ρ, d, rl, h1, fun x F1 H1 x1 r1 => ?_⟩
 cases r1 <;> first | (cases h2; done) | skip
 cases h2
 exact ⟨_, rfl, q _ F1 H1 x1 (.bl _)⟩
noncomputable def mand (x y : ME) : ME := fun ρ => match x ρ with | some (.bl true) => y ρ | some (.bl false) => some (.bl false) | _ => none
theorem pd_one {op} (h : PD X a ma) : PD X (.BoolOp op [a] pos) ma := pe_one h
theorem pd_and {rest : List Expr} (ha : PD X a ma) (hb : PD X (.BoolOp .And (b :: rest) pos) mb) : PD X (.BoolOp .And (a :: b :: rest) pos) (mand ma mb) := (pe_and ha hb).imp fun σ H Q hpat => by
 obtain ⟨F0, H0, F, ρ, g, rl, e, q⟩ := hpat
 unfold mand at e
 split at e
 ·rename_i h1
  refine ⟨F0, H0, F, ρ, _, rl, h1, fun x F1 H1 x1 r1 => ?_⟩
  cases r1
  refine ⟨true, rfl, ?_⟩
  refine iteT ?_
  exact ⟨F0, H0, F1, ρ, g, rl.go x1, e, fun y F2 H2 x2 r2 => q y F2 H2 (x1.trans x2) r2⟩
 ·rename_i h1
  cases e
  refine ⟨F0, H0, F, ρ, _, rl, h1, fun x F1 H1 x1 r1 => ?_⟩
  cases r1
  refine ⟨false, rfl, ?_⟩
  refine iteF ?_
  exact q _ F1 H1 x1 (.bl _)
 ·cases e
noncomputable def truD : D -> Option Bool
 | .non => some false
 | .bl b => some b
 | .int i => some (i != 0)
 | .str y => if y.length <= sizeLine then some ((y.length : Int) != 0) else none
 | .lst ds => some (!ds.isEmpty)
 | .tup ds => some (!ds.isEmpty)
 | .exc _ => none
 | .ptr _ => none
 | .obj _ _ _ => none
noncomputable def mtru (m : ME) : MB := fun ρ => (m ρ).bind truD
theorem isEmpty_reps {K : W.Frag} {F : Hp} {vs : List V} {ds : List D} (h : Reps K F vs ds) : (!ds.isEmpty) = !vs.isEmpty := by cases h <;> rfl
theorem pc_tru (ha : PD X a ma) (he : ∀ whole, isTrue a X.env whole = (do let v ← whole; standAt a.pos; holding [v] (truthy v)) := by intro _; rfl) : PC' X a (mtru ma) := (pt_truth ha he).imp fun σ H Q hpat => by
 obtain ⟨F0, H0, F, ρ, b, rl, e, q⟩ := hpat
 unfold mtru at e
 cases h1 : ma ρ with
 | none => rw [h1] at e; cases e
 | some d =>
  rw [h1] at e
  refine ⟨F0, H0, F, ρ, d, rl, h1, fun x F1 H1 x1 r1 => ⟨b, ?_, q F1 H1 x1⟩⟩
  cases r1 with
  | non => cases e; rfl
  | bl => cases e; rfl
  | int => cases e; rfl
  | str x =>
   have e : (if x.length <= sizeLine then some ((x.length : Int) != 0) else none) = some b := e
   split at e
   ·rename_i hz
    cases e
    exact ⟨hz, rfl⟩
   ·cases e
  | lst s rs => cases e; exact .inl ⟨_, x1.fh.seq s, isEmpty_reps rs⟩
  | tup s rs => cases e; exact .inr (.inl ⟨_, x1.fh.seqT s, isEmpty_reps rs⟩)
  | exc => cases e
  | ptr => cases e
  | obj => cases e
variable {ca cb : MB}
noncomputable def cor (x y : MB) : MB := fun ρ => match x ρ with | some true => some true | some false => y ρ | none => none
noncomputable def cnot (x : MB) : MB := fun ρ => (x ρ).map (!·)
theorem pc_w (h : PCw X a ca) : PC' X a ca := h.pt
theorem pw1_or (h : PC' X a ca) : PCw X (.BoolOp .Or [a] pos) ca := pw_or1 h
theorem pcw_or {rest : List Expr} (ha : PC' X a ca) (hb : PCw X (.BoolOp .Or (b :: rest) pos) cb) : PCw X (.BoolOp .Or (a :: b :: rest) pos) (cor ca cb) := (pw_or ha hb).imp fun σ H Q hpat => by
 obtain ⟨F0, H0, F, ρ, g, rl, e, q⟩ := hpat
 unfold cor at e
 split at e
 ·rename_i h1
  cases e
  refine ⟨F0, H0, F, ρ, _, rl, h1, fun F1 H1 x1 => ?_⟩
  refine iteT ?_
  exact q F1 H1 x1
 ·rename_i h1
  refine ⟨F0, H0, F, ρ, _, rl, h1, fun F1 H1 x1 => ?_⟩
  refine iteF ?_
  exact ⟨F0, H0, F1, ρ, g, rl.go x1, e, fun F2 H2 x2 => q F2 H2 (x1.trans x2)⟩
 ·cases e
theorem pc_not (ha : PC' X a ca) : PC' X (.UnaryOp .Not a pos) (cnot ca) := (pt_not ha).imp fun σ H Q hpat => by
 obtain ⟨F0, H0, F, ρ, g, rl, e, q⟩ := hpat
 unfold cnot at e
 cases h1 : ca ρ with
 | none => rw [h1] at e; cases e
 | some k =>
  rw [h1] at e; cases e
  exact ⟨F0, H0, F, ρ, k, rl, h1, fun F1 H1 x1 => q F1 H1 x1⟩
noncomputable def anil : ML := fun _ => some []
@[irreducible] noncomputable def acons (x : ME) (r : ML) : ML := fun ρ => (x ρ).bind fun d => (r ρ).bind fun ds => some (d :: ds)
theorem acons_some {r : ML} {ρ : Ro} {gs : List D} (h : acons ma r ρ = some gs) : ∃ d ds, ma ρ = some d /\ r ρ = some ds /\ gs = d :: ds := by
 unfold acons at h
 cases h1 : ma ρ with
 | none => rw [h1] at h; cases h
 | some d =>
  cases h2 : r ρ with
  | none => rw [h1, h2] at h; cases h
  | some ds => rw [h1, h2] at h; cases h; exact ⟨d, ds, rfl, rfl, rfl⟩
theorem pas_nil : PAs X [] anil := pa_nil.imp fun σ H Q hpat => by
 obtain ⟨F0, H0, F, ρ, g, rl, e, q⟩ := hpat
 cases e; exact q [] F H (.refl rl.fh) .nil
theorem pas_cons {es : List Expr} {m : ML} (ha : PD X a ma) (hr : PAs X es m) (hs : starEach (a :: es) X.env = (false, eval a X.env) :: starEach es X.env := by rfl) : PAs X (a :: es) (acons ma m) := (pa_cons ha hr hs).imp fun σ H Q hpat => by
 obtain ⟨F0, H0, F, ρ, g, rl, e, q⟩ := hpat
 obtain ⟨d, ds, h1, h2, rfl⟩ := acons_some e
 refine ⟨F0, H0, F, ρ, d, rl, h1, fun x F1 H1 x1 r1 => ⟨F0, H0, F1, ρ, ds, rl.go x1, h2, fun xs F2 H2 x2 r2 => ?_⟩⟩
 exact q _ F2 H2 (x1.trans x2) (.cons (r1.mono x2.ff) r2)
@[irreducible] noncomputable def sized (m : ML) : ML := fun ρ => match m ρ with | some ds => if ds.length <= sizeLine then some ds else none | none => none
theorem sized_some {m : ML} {ρ : Ro} {gs : List D} (h : sized m ρ = some gs) : m ρ = some gs /\ gs.length <= sizeLine := by
 unfold sized at h
 cases h1 : m ρ with
 | none => rw [h1] at h; cases h
 | some ds =>
  rw [h1] at h
  have h : (if ds.length <= sizeLine then some ds else none) = some gs := h
  split at h
  ·rename_i hz; cases h; exact ⟨rfl, hz⟩
  ·cases h
theorem pf_lst {es : List Expr} {m : ML} (h : PAs X es m) : PF X (.List es pos) (sized m) := (pe_lst h).imp fun σ H Q hpat => by
 obtain ⟨F0, H0, F, ρ, g, rl, e, q⟩ := hpat
 obtain ⟨h1, h2⟩ := sized_some e
 refine ⟨F0, H0, F, ρ, g, rl, h1, fun vs F1 H1 x1 r1 => ⟨by rw [r1.length]; exact h2, fun p hp => ?_⟩⟩
 exact q p vs F1 _ (x1.trans (Ext.own x1.fh hp)) (x1.hh.free hp) (x1.fh.free hp) upd_same r1
noncomputable def mtup (m : ML) : ME := fun ρ => (sized m ρ).map .tup
theorem pd_tup {es : List Expr} {m : ML} {k : Nat} (h : PAs X es m) : PD X (.Tuple es k pos) (mtup m) := (pe_tup h).imp fun σ H Q hpat => by
 obtain ⟨F0, H0, F, ρ, g, rl, e, q⟩ := hpat
 unfold mtup at e
 cases h1 : sized m ρ with
 | none => rw [h1] at e; cases e
 | some ds =>
  rw [h1] at e; cases e
  obtain ⟨h1, h2⟩ := sized_some h1
  refine ⟨F0, H0, F, ρ, ds, rl, h1, fun vs F1 H1 x1 r1 => ⟨by rw [r1.length]; exact h2, fun p hp => ?_⟩⟩
  exact q _ _ _ (x1.trans (Ext.laid x1.fh hp)) (.tup (SqT.of upd_same) (r1.mono ((Same.refl F1).put (x1.fh.free hp))))
noncomputable def mlen (m : ML) : ME := fun ρ => (m ρ).map fun ds => .int ds.length
@[irreducible] noncomputable def mix (m : ML) (i : ME) : ME := fun ρ => (m ρ).bind fun ds => (i ρ).bind fun | .int k => atI ds k | _ => none
theorem atI_reps {K : W.Frag} {F : Hp} {vs : List V} {ds : List D} {k : Int} {d : D} (r : Reps K F vs ds) (h : atI ds k = some d) : ∃ v, atI vs k = some v /\ Rep K F v d := by
 unfold atI at h ⊢
 rw [r.length]
 cases q : ixN ds.length k with
 | none => rw [q] at h; cases h
 | some j =>
  rw [q] at h
  exact r.get h
theorem pd_ix {ml : ML} (ha : PB X a ml) (hb : PD X b mb) (hs : PlainIx b := by exact fun _ _ => rfl) : PD X (.Subscript a b pos) (mix ml mb) := (pe_ix ix_list ha hb hs).imp fun σ H Q hpat => by
 obtain ⟨F0, H0, F, ρ, g, rl, e, q⟩ := hpat
 unfold mix at e
 cases h1 : ml ρ with
 | none => rw [h1] at e; cases e
 | some ds =>
  cases h2 : mb ρ with
  | none => rw [h1, h2] at e; cases e
  | some i =>
   rw [h1, h2] at e
   refine ⟨F0, H0, F, ρ, ds, rl, h1, fun p xs F1 H1 x1 s1 r1 => ⟨F0, H0, F1, ρ, i, rl.go x1, h2, fun y F2 H2 x2 r2 => ?_⟩⟩
   cases r2 <;> first | (cases e; done) | skip
   rename_i k
   obtain ⟨v, h3, h4⟩ := atI_reps (r1.mono x2.ff) (show atI ds k = some g from e)
   exact ⟨p, xs, k, v, rfl, rfl, x2.hh.seq s1, h3, q v F2 H2 (x1.trans x2) h4⟩
theorem cut_reps {K : W.Frag} {F : Hp} {vs : List V} {ds : List D} (r : Reps K F vs ds) (lo hi : Option Int) : Reps K F (cutV vs lo hi) ((ds.drop (HT.sIx ds.length 0 lo)).take (HT.sIx ds.length ds.length hi - HT.sIx ds.length 0 lo)) := by
 unfold cutV
 rw [r.length]
 exact (r.drop _).take _
noncomputable def cutL (ds : List D) (lo hi : Option Int) : List D := (ds.drop (HT.sIx ds.length 0 lo)).take (HT.sIx ds.length ds.length hi - HT.sIx ds.length 0 lo)
noncomputable abbrev MO := Ro -> Option (Option Int)
noncomputable def onone : MO := fun _ => some none
noncomputable def osome (m : ME) : MO := fun ρ => (m ρ).bind fun | .int i => some (some i) | _ => none
noncomputable def TOs (K : W.Frag) (m : MO) : TO := fun σ H Q => ∃ F0 H0 F ρ i, Rl K F0 H0 F H σ ρ /\ m ρ = some i /\ ∀ F' H', Ext F H F' H' -> Q i H'
def POs (X : Cx) (e : Option Expr) (m : MO) : Prop := PO X e (TOs X.K m)
theorem PO.imp {e : Option Expr} {t t' : TO} (h : PO X e t) (i : ∀ σ H Q, t' σ H Q -> t σ H Q) : PO X e t' := fun pins s σ H Q I q => h pins s σ H Q I (i σ H Q q)
theorem pos_none : POs X none onone := PO.imp po_none fun σ H Q hpat => by obtain ⟨F0, H0, F, ρ, i, rl, e, q⟩ := hpat; cases e; exact q F H (.refl rl.fh)
theorem pos_some (h : PD X a ma) : POs X (some a) (osome ma) := PO.imp (po_some h) fun σ H Q hpat => by
 obtain ⟨F0, H0, F, ρ, i, rl, e, q⟩ := hpat
 unfold osome at e
 cases h1 : ma ρ with
 | none => rw [h1] at e; cases e
 | some d =>
  rw [h1] at e
  refine ⟨F0, H0, F, ρ, d, rl, h1, fun v F1 H1 x1 r1 => ?_⟩
  cases r1 <;> first | (cases e; done) | skip
  cases e
  exact ⟨_, rfl, q F1 H1 x1⟩
@[irreducible] noncomputable def mcut (m : ML) (lo hi : MO) : ML := fun ρ => (m ρ).bind fun ds => (lo ρ).bind fun l => (hi ρ).bind fun h => some (cutL ds l h)
theorem pf_cut {ml : ML} {lo hi : Option Expr} {l h : MO} (ha : PB X a ml) (hl : POs X lo l) (hh : POs X hi h) (hE : PE X e (tSl (rSlL X.K) (TB X.K ml) (TOs X.K l) (TOs X.K h))) : PF X e (mcut ml l h) := hE.imp fun σ H Q hpat => by
 obtain ⟨F0, H0, F, ρ, g, rl, e, q⟩ := hpat
 unfold mcut at e
 cases h1 : ml ρ with
 | none => rw [h1] at e; cases e
 | some ds =>
  cases h2 : l ρ with
  | none => rw [h1, h2] at e; cases e
  | some i =>
   cases h3 : h ρ with
   | none => rw [h1, h2, h3] at e; cases e
   | some j =>
    rw [h1, h2, h3] at e; cases e
    refine ⟨F0, H0, F, ρ, ds, rl, h1, fun p xs F1 H1 x1 s1 r1 => ⟨F0, H0, F1, ρ, i, rl.go x1, h2, fun F2 H2 x2 => ⟨F0, H0, F2, ρ, j, (rl.go x1).go x2, h3, fun F3 H3 x3 => ?_⟩⟩⟩
    refine ⟨p, xs, rfl, x3.hh.seq (x2.hh.seq s1), fun w hw => ?_⟩
    have xx := (x1.trans x2).trans x3
    exact q w _ F3 _ (xx.trans (Ext.own x3.fh hw)) (xx.hh.free hw) (x3.fh.free hw) upd_same (cut_reps (r1.mono (x2.ff.trans x3.ff)) i j)
end
end
section
theorem list_add_any (l : Addr) (items : Array Value) (n : Nat) (b : Addr) (items2 : Array Value) (n2 : Nat) (dd dd2 : Option Addr) (sl sl2 : Array (Option Value)) (hc0 : items.size + items2.size <= sizeLine) :
  Meets (Builtin.«list.__add__» ⟨[.ref l, .ref b], []⟩) (fun _ R s => s.heap.get? l = some { cls := .type "list", dict := dd, data := .seq items n, slots := sl } /\ s.heap.get? b = some { cls := .type "list", dict := dd2, data := .seq items2 n2, slots := sl2 } /\ R (.ok (.ret (Value.ref s.heap.objs.size))) { s with heap := s.heap.push { cls := Value.type "list", data := Data.seq (items ++ items2) }, toks := s.toks }) :=
 .of_wp fun prog w A R s h => by obtain ⟨hp, g, d, tk, os⟩ := s; obtain ⟨hl, hb, h⟩ := h; have f1 := AutoSeq1.idx_int; have f2 := AutoSeq1.sub_tuple_tuple; have f3 := AutoSeq1.sub_list_list; have f4 := AutoSeq1.sub_tuple_list; have f5 := AutoSeq1.sub_list_tuple; wp_walk using AutoSeq1.wpAny_loadPart' hl, AutoSeq1.wpAny_loadPart' hb; exact ⟨_, rfl, h⟩
section
variable {X : Cx} {a b c e : Expr} {ma mb : ME} {pos : Pos}
def rCatS (K : W.Frag) : R2 := fun x y H Q => ∃ l b xs zs, x = .ref l /\ y = .ref b /\ SqL K H l xs /\ SqL K H b zs /\ xs.length + zs.length <= sizeLine /\ ∀ p, H p = none -> Q (.ref p) (upd H p (.lst (xs ++ zs)))
theorem op_catS : OpR X (binaryOp .Add) (rCatS X.K) := by
 intro pins s σ H x y v u Q I rx ry h
 obtain ⟨l, b, xs, zs, rfl, rfl, hH, hB, hz, q⟩ := h
 cases rx
 cases ry
 obtain ⟨its, r, ⟨⟨cl, dd, dt, sl⟩, n, e, hc, hd, hs⟩, z⟩ := I.list hH
 obtain ⟨its2, r2, ⟨⟨cl2, dd2, dt2, sl2⟩, n2, e2, hc2, hd2, hs2⟩, z2⟩ := I.list hB
 simp only at hc hd hs hc2 hd2 hs2
 subst hc hd hs hc2 hd2 hs2
 have l1 := r.length
 have l2 := r2.length
 refine concat_meets (T := "list") ⟨_, e, rfl⟩ ⟨_, e2, rfl⟩ PySem.noFill_list_add PySem.seq_list_add F.slot_list_add F.entry_list_add (F.args_list_add_2 _ _) (list_add_any l its.toArray n b its2.toArray n2 none none sl sl2 (by rw [size_toArray, size_toArray]; omega)) ⟨e, e2, ?_⟩
 have ea : its.toArray ++ its2.toArray = (its ++ its2).toArray := by simp
 rw [ea]
 exact ⟨.ref _, _, I.lnew (t' := s.toks) (r.append r2) (by rw [length_append]; omega), rfl, q _ I.fresh⟩
@[irreducible] noncomputable def mcat (x y : ML) : ML := fun ρ => (x ρ).bind fun ds => (y ρ).bind fun es => if ds.length + es.length <= sizeLine then some (ds ++ es) else none
theorem mcat_some {x y : ML} {ρ : Ro} {gs : List D} (h : mcat x y ρ = some gs) : ∃ ds es, x ρ = some ds /\ y ρ = some es /\ ds.length + es.length <= sizeLine /\ gs = ds ++ es := by
 unfold mcat at h
 cases h1 : x ρ with
 | none => rw [h1] at h; cases h
 | some ds =>
  cases h2 : y ρ with
  | none => rw [h1, h2] at h; cases h
  | some es =>
   rw [h1, h2] at h
   have h : (if ds.length + es.length <= sizeLine then some (ds ++ es) else none) = some gs := h
   split at h
   ·rename_i hz; cases h; exact ⟨ds, es, rfl, rfl, hz, rfl⟩
   ·cases h
theorem pf_cat {x y : ML} (ha : PB X a x) (hb : PB X b y) : PF X (.BinOp a .Add b pos) (mcat x y) := (pe_op op_catS ha hb).imp fun σ H Q hpat => by
 obtain ⟨F0, H0, F, ρ, g, rl, e, q⟩ := hpat
 obtain ⟨ds, es, h1, h2, hz, rfl⟩ := mcat_some e
 refine ⟨F0, H0, F, ρ, ds, rl, h1, fun p xs F1 H1 x1 s1 r1 => ⟨F0, H0, F1, ρ, es, rl.go x1, h2, fun p2 ys F2 H2 x2 s2 r2 => ?_⟩⟩
 refine ⟨p, p2, xs, ys, rfl, rfl, x2.hh.seq s1, s2, by rw [r1.length, r2.length]; exact hz, fun w hw => ?_⟩
 have xx := x1.trans x2
 exact q w _ F2 _ (xx.trans (Ext.own x2.fh hw)) (xx.hh.free hw) (x2.fh.free hw) upd_same ((r1.mono x2.ff).append r2)
noncomputable def addD : D -> D -> Option D
 | .int i, .int j => some (.int (i + j))
 | .lst ds, .lst es => if ds.length + es.length <= sizeLine then some (.lst (ds ++ es)) else none
 | _, _ => none
theorem opd_add {K : W.Frag} : OpD K (fun x y H Q => (rI0 fun i j => V.int (i + j)) x y H Q \/ rCatS K x y H Q) addD := by
 intro F H x y d e w Q s r1 r2 h q
 cases d with
 | int i =>
  cases e with
  | int j =>
   cases h
   exact .inl ⟨_, _, r1.i', r2.i', q _ F H (.refl s) (.int _)⟩
  | _ => cases h
 | lst ds1 =>
  cases e with
  | lst ds2 =>
   obtain ⟨p1, xs1, e1, s1, t1⟩ := r1.l'
   obtain ⟨p2, xs2, e2, s2, t2⟩ := r2.l'
   have h : (if ds1.length + ds2.length <= sizeLine then some (D.lst (ds1 ++ ds2)) else none) = some w := h
   by_cases hz : ds1.length + ds2.length <= sizeLine
   ·rw [if_pos hz] at h
    cases h
    refine .inr ⟨_, _, _, _, e1, e2, s.seq s1, s.seq s2, by rw [t1.length, t2.length]; exact hz, fun p hp => ?_⟩
    exact q _ _ _ (Ext.laid s hp) (.lst (SqL.of upd_same) ((t1.append t2).mono ((Same.refl F).put (s.free hp))))
   ·rw [if_neg hz] at h; cases h
  | _ => cases h
 | _ => cases h
theorem pd_add (ha : PD X a ma) (hb : PD X b mb) : PD X (.BinOp a .Add b pos) (m2 addD ma mb) := pd_op (OpR.or op_add op_catS) opd_add ha hb
theorem pd_sub (ha : PD X a ma) (hb : PD X b mb) : PD X (.BinOp a .Sub b pos) (m2 subD ma mb) := pd_op op_sub opd_sub ha hb
theorem pd_mul (ha : PD X a ma) (hb : PD X b mb) : PD X (.BinOp a .Mult b pos) (m2 mulD ma mb) := pd_op op_mul opd_mul ha hb
theorem pd_fdiv (ha : PD X a ma) (hb : PD X b mb) : PD X (.BinOp a .FloorDiv b pos) (m2 fdivD ma mb) := pd_op op_fdiv opd_fdiv ha hb
theorem pd_mod (ha : PD X a ma) (hb : PD X b mb) : PD X (.BinOp a .Mod b pos) (m2 modD ma mb) := pd_op op_mod opd_mod ha hb
theorem pd_pow (ha : PD X a ma) (hb : PD X b mb) : PD X (.BinOp a .Pow b pos) (m2 powD ma mb) := pd_op op_pow opd_pow ha hb
@[irreducible] noncomputable def call1 (f : List D -> Option D) (m : ML) : ME := fun ρ => (m ρ).bind f
def CallD (K : W.Frag) (r : List V -> Hp -> VK -> Prop) (f : List D -> Option D) : Prop := ∀ (F H : Hp) (vs : List V) (ds : List D) (g : D) (Q : VK), Same F H -> Reps K F vs ds -> f ds = some g -> (∀ v F' H', Ext F H F' H' -> Rep K F' v g -> Q v H') -> r vs H Q
theorem call_d {r : List V -> Hp -> VK -> Prop} {f : List D -> Option D} {m : ML} (hf : CallD X.K r f) {σ : St} {H : Hp} {Q : VK} (h : TD X.K (call1 f m) σ H Q) : tCB r (TAs X.K m) σ H Q := by
 obtain ⟨F0, H0, F, ρ, g, rl, e, q⟩ := h
 unfold call1 at e
 cases h1 : m ρ with
 | none => rw [h1] at e; cases e
 | some ds =>
  rw [h1] at e
  exact ⟨F0, H0, F, ρ, ds, rl, h1, fun vs F1 H1 x1 r1 => hf F1 H1 vs ds g Q x1.fh r1 e fun v F' H' x2 => q v F' H' (x1.trans x2)⟩
theorem pd_lenB {e : Expr} {p : Pos} {m : ML} (hg : Gl X "len") (hm : X.mg "len" = none) (ha : PB X e m) (hs : starEach (e :: []) X.env = (false, eval e X.env) :: starEach [] X.env := by rfl) (he : starEach [e] X.env = (false, eval e X.env) :: starEach [] X.env := by rfl) (hpl : (backTo pos (starEach [] X.env)).any (·.1) = false := by rfl) : PD X (.Call (.Name "len" p) [e] [] pos) (mlen m) :=
 (pe_callB call_len_seq hg hm PySem.boot_len (pa_cons ha pa_nil hs) (by decide) (by decide) he hpl).imp fun σ H Q hpat => by
  obtain ⟨F0, H0, F, ρ, g, rl, e, q⟩ := hpat
  unfold mlen at e
  cases h1 : m ρ with
  | none => rw [h1] at e; cases e
  | some ds =>
   rw [h1] at e; cases e
   refine ⟨F0, H0, F, ρ, ds, rl, h1, fun p xs F1 H1 x1 s1 r1 => ⟨p, xs, rfl, .inl s1, ?_⟩⟩
   rw [r1.length]
   exact q _ F1 H1 x1 (.int _)
noncomputable def absF : List D -> Option D
 | [.int i] => some (.int (if i < 0 then -i else i))
 | _ => none
theorem calld_abs {K : W.Frag} : CallD K (fun xs H Q => ∃ i, xs = [.int i] /\ Q (.int (if i < 0 then -i else i)) H) absF := by
 intro F H vs ds g Q s r h q
 cases r with
 | nil => cases h
 | cons r rr =>
  cases rr with
  | cons _ _ => revert h; unfold absF; intro h; split at h <;> simp_all
  | nil =>
   cases r with
   | int i => cases h; exact ⟨_, rfl, q _ F H (.refl s) (.int _)⟩
   | _ => cases h
theorem pd_abs {e : Expr} {p : Pos} {m : ML} (hg : Gl X "abs") (hm : X.mg "abs" = none) (ha : PAs X [e] m) (he : starEach [e] X.env = (false, eval e X.env) :: starEach [] X.env := by rfl) (hpl : (backTo pos (starEach [] X.env)).any (·.1) = false := by rfl) : PD X (.Call (.Name "abs" p) [e] [] pos) (call1 absF m) :=
 (pe_callB call_abs hg hm PyProof.Rows.boot_abs ha (by decide) (by decide) he hpl).imp fun _ _ _ h => call_d calld_abs h
noncomputable def two2 (k : Int -> Int -> Int) : List D -> Option D
 | [.int i, .int j] => some (.int (k i j))
 | _ => none
theorem two2_inv {k : Int -> Int -> Int} {ds : List D} {g : D} (h : two2 k ds = some g) : ∃ i j, ds = [.int i, .int j] /\ g = .int (k i j) := by
 cases ds with
 | nil => cases h
 | cons d ds =>
  cases ds with
  | nil => cases d <;> cases h
  | cons e ds =>
   cases ds with
   | cons f ds => cases d <;> first | (cases h; done) | (cases e <;> cases h)
   | nil =>
    cases d with
    | int i =>
     cases e with
     | int j => cases h; exact ⟨i, j, rfl, rfl⟩
     | _ => cases h
    | _ => cases h
theorem calld_two {K : W.Frag} {k : Int -> Int -> Int} : CallD K (fun xs H Q => ∃ i j, xs = [.int i, .int j] /\ Q (.int (k i j)) H) (two2 k) := by
 intro F H vs ds g Q s r h q
 obtain ⟨i, j, rfl, rfl⟩ := two2_inv h
 cases r with
 | cons r rr =>
  cases rr with
  | cons r2 rr =>
   cases rr
   rw [r.i', r2.i']
   exact ⟨_, _, rfl, q _ F H (.refl s) (.int _)⟩
noncomputable def max2F : List D -> Option D := two2 fun i j => if j > i then j else i
noncomputable def min2F : List D -> Option D := two2 fun i j => if j < i then j else i
theorem pd_max2 {x y : Expr} {p : Pos} {m : ML} (hc : X.calm = true) (hg : Gl X "max") (hm : X.mg "max" = none) (ha : PAs X [x, y] m) (he : starEach [x, y] X.env = (false, eval x X.env) :: starEach [y] X.env := by rfl) (hpl : (backTo pos (starEach [y] X.env)).any (·.1) = false := by rfl) : PD X (.Call (.Name "max" p) [x, y] [] pos) (call1 max2F m) :=
 (pe_callB (call_max2 hc) hg hm PyProof.Rows.boot_max ha (by decide) (by decide) he hpl).imp fun _ _ _ h => call_d (calld_two (k := fun i j => if j > i then j else i)) h
theorem pd_min2 {x y : Expr} {p : Pos} {m : ML} (hc : X.calm = true) (hg : Gl X "min") (hm : X.mg "min" = none) (ha : PAs X [x, y] m) (he : starEach [x, y] X.env = (false, eval x X.env) :: starEach [y] X.env := by rfl) (hpl : (backTo pos (starEach [y] X.env)).any (·.1) = false := by rfl) : PD X (.Call (.Name "min" p) [x, y] [] pos) (call1 min2F m) :=
 (pe_callB (call_min2 hc) hg hm PyProof.Rows.boot_min ha (by decide) (by decide) he hpl).imp fun _ _ _ h => call_d (calld_two (k := fun i j => if j < i then j else i)) h
noncomputable def intF : List D -> Option D
 | [.int i] => some (.int i)
 | [.bl k] => some (.int (if k then 1 else 0))
 | _ => none
theorem calld_int {K : W.Frag} : CallD K (fun xs H Q => (∃ i, xs = [.int i] /\ Q (.int i) H) \/ ∃ k, xs = [.bl k] /\ Q (.int (if k then 1 else 0)) H) intF := by
 intro F H vs ds g Q s r h q
 cases r with
 | nil => cases h
 | cons r rr =>
  cases rr with
  | cons _ _ => revert h; unfold intF; intro h; split at h <;> simp_all
  | nil =>
   cases r with
   | int i => cases h; exact .inl ⟨_, rfl, q _ F H (.refl s) (.int _)⟩
   | bl i => cases h; exact .inr ⟨_, rfl, q _ F H (.refl s) (.int _)⟩
   | _ => cases h
theorem pd_intc {e : Expr} {p : Pos} {m : ML} (hg : Gl X "int") (hm : X.mg "int" = none) (ha : PAs X [e] m) (hv : bootBuiltins "int" = some (.type "int")) (he : starEach [e] X.env = (false, eval e X.env) :: starEach [] X.env := by rfl) (hpl : (backTo pos (starEach [] X.env)).any (·.1) = false := by rfl) : PD X (.Call (.Name "int" p) [e] [] pos) (call1 intF m) :=
 (pe_callTy call_int1 hg hm hv ha (by decide) (by decide) he hpl).imp fun _ _ _ h => call_d calld_int h
theorem pf_list {e : Expr} {p : Pos} {m : ML} (hg : Gl X "list") (hm : X.mg "list" = none) (ha : PB X e m) (hv : bootBuiltins "list" = some (.type "list")) (hs : starEach (e :: []) X.env = (false, eval e X.env) :: starEach [] X.env := by rfl) (hpl : (backTo pos (starEach [] X.env)).any (·.1) = false := by rfl) : PF X (.Call (.Name "list" p) [e] [] pos) m :=
 (pe_callTy call_list_of hg hm hv (pa_cons ha pa_nil hs) (by decide) (by decide) hs hpl).imp fun σ H Q hpat => by
  obtain ⟨F0, H0, F, ρ, ds, rl, e, q⟩ := hpat
  refine ⟨F0, H0, F, ρ, ds, rl, e, fun p xs F1 H1 x1 s1 r1 => ⟨p, xs, rfl, .inl s1, fun w hw => ?_⟩⟩
  exact q w _ F1 _ (x1.trans (Ext.own x1.fh hw)) (x1.hh.free hw) (x1.fh.free hw) upd_same r1
end
end
section
inductive Out where
 | nx (ρ : Ro) | bk (ρ : Ro) | ct (ρ : Ro) | rt (d : D) | rf (ds : List D) | rp (d : D) (ds : List D) | rg (d : D) (p : Addr) (r : List D) | rgf (ds : List D) (p : Addr) (r : List D)
noncomputable abbrev MS := Ro -> Option Out
noncomputable def okO (K : W.Frag) (F0 H0 Fb : Hp) (Dn : Ends) : Out -> Prop
 | .nx ρ => ∀ F H σ, Rl K F0 H0 F H σ ρ -> Same Fb F -> Dn.nx σ H
 | .bk ρ => ∀ F H σ, Rl K F0 H0 F H σ ρ -> Same Fb F -> Dn.bk σ H
 | .ct ρ => ∀ F H σ, Rl K F0 H0 F H σ ρ -> Same Fb F -> Dn.ct σ H
 | .rt d => ∀ v F H, Ext F0 H0 F H -> Rep K F v d -> Dn.rt v H
 | .rf ds => ∀ p xs F H, Ext F0 H0 F H -> H0 p = none -> F p = none -> H p = some (.lst xs) -> Reps K F xs ds -> Dn.rt (.ref p) H
 | .rp d ds => ∀ t v p xs F H, Ext F0 H0 F H -> H0 t = none -> H0 p = none -> t ≠ p -> F t = none -> F p = none -> H t = some (.tup [v, .ref p]) -> H p = some (.lst xs) -> Rep K F v d -> Reps K F xs ds -> Dn.rt (.ref t) H
 | .rg d p r => ∀ v F H xs, Ext F0 H0 F H -> Rep K F v d -> F p = none -> H p = some (.lst xs) -> Reps K F xs r -> Dn.rt v H
 | .rgf ds p r => ∀ q ys F H xs, Ext F0 H0 F H -> H0 q = none -> F q = none -> q ≠ p -> H q = some (.lst ys) -> Reps K F ys ds -> F p = none -> H p = some (.lst xs) -> Reps K F xs r -> Dn.rt (.ref q) H
def TSd (K : W.Frag) (m : MS) : TS := fun Dn σ H => ∃ F0 H0 F ρ o, Rl K F0 H0 F H σ ρ /\ m ρ = some o /\ okO K F0 H0 F Dn o
theorem okO.mono {K : W.Frag} {F0 H0 Fb Fb' : Hp} {Dn : Ends} (s : Same Fb Fb') : ∀ {o : Out}, okO K F0 H0 Fb Dn o -> okO K F0 H0 Fb' Dn o
 | .nx _, h => fun F H σ rl q => h F H σ rl (s.trans q)
 | .bk _, h => fun F H σ rl q => h F H σ rl (s.trans q)
 | .ct _, h => fun F H σ rl q => h F H σ rl (s.trans q)
 | .rt _, h => h
 | .rf _, h => h
 | .rp _ _, h => h
 | .rg _ _ _, h => h
 | .rgf _ _ _, h => h
def PSd (X : Cx) (st : Stmt) (m : MS) : Prop := PS X st (TSd X.K m)
def PSsd (X : Cx) (st : List Stmt) (m : MS) : Prop := PSs X st (TSd X.K m)
section
variable {X : Cx} {a b c e : Expr} {ma mb : ME} {pos : Pos} {st : Stmt} {rest : List Stmt} {m1 m2' : MS}
theorem PS.imp {t t' : TS} (h : PS X st t) (i : ∀ D σ H, t' D σ H -> t D σ H) : PS X st t' := fun pins s σ H D I q => h pins s σ H D I (i D σ H q)
theorem PSs.imp {sts : List Stmt} {t t' : TS} (h : PSs X sts t) (i : ∀ D σ H, t' D σ H -> t D σ H) : PSs X sts t' := fun pins s σ H D I q => h pins s σ H D I (i D σ H q)
noncomputable def mnext : MS := fun ρ => some (.nx ρ)
noncomputable def mseq (x y : MS) : MS := fun ρ => match x ρ with | some (.nx ρ') => y ρ' | o => o
theorem pssd_nil : PSsd X [] mnext := pss_nil.imp fun D σ H hpat => by obtain ⟨F0, H0, F, ρ, o, rl, e, ok⟩ := hpat; cases e; exact ok F H σ rl (Same.refl _)
theorem pssd_cons (h1 : PSd X st m1) (h2 : PSsd X rest m2') : PSsd X (st :: rest) (mseq m1 m2') := (pss_cons h1 h2).imp fun D σ H hpat => by
 obtain ⟨F0, H0, F, ρ, o, rl, e, ok⟩ := hpat
 unfold mseq at e
 cases h : m1 ρ with
 | none => rw [h] at e; cases e
 | some o1 =>
  rw [h] at e
  cases o1 with
  | nx ρ1 => exact ⟨F0, H0, F, ρ, _, rl, h, fun F' H' σ' rl' sf => ⟨F0, H0, F', ρ1, o, rl', e, ok.mono sf⟩⟩
  | bk ρ1 => cases e; exact ⟨F0, H0, F, ρ, _, rl, h, ok⟩
  | ct ρ1 => cases e; exact ⟨F0, H0, F, ρ, _, rl, h, ok⟩
  | rt d => cases e; exact ⟨F0, H0, F, ρ, _, rl, h, ok⟩
  | rf d => cases e; exact ⟨F0, H0, F, ρ, _, rl, h, ok⟩
  | rp d ds => cases e; exact ⟨F0, H0, F, ρ, _, rl, h, ok⟩
  | rg d p r => cases e; exact ⟨F0, H0, F, ρ, _, rl, h, ok⟩
  | rgf d p r => cases e; exact ⟨F0, H0, F, ρ, _, rl, h, ok⟩
theorem pssd_one (h1 : PSd X st m1) : PSsd X [st] m1 := pss_one h1
noncomputable def mif (c : MB) (x y : MS) : MS := fun ρ => match c ρ with | some true => x ρ | some false => y ρ | none => none
theorem psd_if {ca : MB} {x y : List Stmt} {mx my : MS} (hc : PC' X c ca) (hx : PSsd X x mx) (hy : PSsd X y my) : PSd X (.If c x y pos) (mif ca mx my) := (ps_if hc hx hy).imp fun D σ H hpat => by
 obtain ⟨F0, H0, F, ρ, o, rl, e, ok⟩ := hpat
 unfold mif at e
 split at e
 ·rename_i h1
  refine ⟨F0, H0, F, ρ, _, rl, h1, fun F1 H1 x1 => iteT ⟨F0, H0, F1, ρ, o, rl.go x1, e, ok.mono x1.ff⟩⟩
 ·rename_i h1
  refine ⟨F0, H0, F, ρ, _, rl, h1, fun F1 H1 x1 => iteF ⟨F0, H0, F1, ρ, o, rl.go x1, e, ok.mono x1.ff⟩⟩
 ·cases e
noncomputable def mnever : MS := fun _ => none
theorem psd_never : PSd X st mnever := ps_never.imp fun D σ H hpat => by obtain ⟨F0, H0, F, ρ, o, rl, e, ok⟩ := hpat; cases e
noncomputable def mset (i : Nat) (x : ME) : MS := fun ρ => (x ρ).map fun d => .nx (ρ.set i (some (.sh d)))
noncomputable def msetF (i : Nat) (x : ML) : MS := fun ρ => (x ρ).map fun ds => .nx (ρ.set i (some (.own ds)))
theorem asg_d {t : TE} {i : Nat} (h : PS X st (tAsg t (gName i))) (ht : ∀ σ H Q, TD X.K ma σ H Q -> t σ H Q) : PSd X st (mset i ma) := h.imp fun D σ H hpat => by
 obtain ⟨F0, H0, F, ρ, o, rl, e, ok⟩ := hpat
 unfold mset at e
 cases h1 : ma ρ with
 | none => rw [h1] at e; cases e
 | some d =>
  rw [h1] at e; cases e
  exact ht _ _ _ ⟨F0, H0, F, ρ, d, rl, h1, fun v F1 H1 x1 r1 => ok F1 H1 _ ((rl.go x1).set r1) x1.ff⟩
theorem asg_f {t : TE} {i : Nat} {mf : ML} (h : PS X st (tAsg t (gName i))) (ht : ∀ σ H Q, TF X.K mf σ H Q -> t σ H Q) : PSd X st (msetF i mf) := h.imp fun D σ H hpat => by
 obtain ⟨F0, H0, F, ρ, o, rl, e, ok⟩ := hpat
 unfold msetF at e
 cases h1 : mf ρ with
 | none => rw [h1] at e; cases e
 | some ds =>
  rw [h1] at e; cases e
  refine ht _ _ _ ⟨F0, H0, F, ρ, ds, rl, h1, fun p xs F1 H1 x1 hp hF hH r1 => ok F1 H1 _ ?_ x1.ff⟩
  refine (rl.go x1).setOwn hF hH r1 (rl.ext.hh.free hp) (fun j es hj e1 e2 => ?_) fun j q es e1 z => ?_
  ·obtain ⟨q, ys, a1, a2, a3, _⟩ := rl.own j es e1
   rw [a1] at e2; cases e2
   rw [hp] at a3; cases a3
  ·obtain ⟨_, _, _, ys, a3, _⟩ := rl.ob j q es e1
   rw [z, hp] at a3; cases a3
theorem psd_set {i : Nat} {x : Str} {pos' : Pos} (hN : X.N.Nodup) (hi : X.N[i]? = some x) (hx : Loc X.env.scope x) (he : PD X e ma) (hs : swapsWith e (some (.Name x pos')) pos.line X.env = pure false := by rfl) (hf : X.fn x = true \/ X.env.scope.names.lookup x = some .local := by first | exact .inl rfl | exact .inr rfl | assumption) :
  PSd X (.Assign [.Name x pos'] e pos) (mset i ma) := asg_d (ps_set hN hi hx he hs hf) fun _ _ _ h => h
theorem psd_setF {i : Nat} {x : Str} {pos' : Pos} {mf : ML} (hN : X.N.Nodup) (hi : X.N[i]? = some x) (hx : Loc X.env.scope x) (he : PF X e mf) (hs : swapsWith e (some (.Name x pos')) pos.line X.env = pure false := by rfl) (hf : X.fn x = true \/ X.env.scope.names.lookup x = some .local := by first | exact .inl rfl | exact .inr rfl | assumption) :
  PSd X (.Assign [.Name x pos'] e pos) (msetF i mf) := asg_f (ps_set hN hi hx he hs hf) fun _ _ _ h => h
noncomputable def mexpr (x : ME) : MS := fun ρ => (x ρ).map fun _ => .nx ρ
theorem psd_expr (he : PD X e ma) (hs : swapsWith e none pos.line X.env = pure false := by rfl) : PSd X (.Expr e pos) (mexpr ma) := (ps_expr he hs).imp fun D σ H hpat => by
 obtain ⟨F0, H0, F, ρ, o, rl, e, ok⟩ := hpat
 unfold mexpr at e
 cases h1 : ma ρ with
 | none => rw [h1] at e; cases e
 | some d =>
  rw [h1] at e; cases e
  exact ⟨F0, H0, F, ρ, d, rl, h1, fun v F1 H1 x1 r1 => ok F1 H1 _ (rl.go x1) x1.ff⟩
noncomputable def mret (x : ME) : MS := fun ρ => (x ρ).map .rt
noncomputable def mretO (i : Nat) : MS := fun ρ => match ρ[i]? with | some (some (.own ds)) => some (.rf ds) | some (some (.sh d)) => some (.rt d) | _ => none
theorem psd_ret (he : PD X e ma) : PSd X (.Return (some e) pos) (mret ma) := (ps_ret he).imp fun D σ H hpat => by
 obtain ⟨F0, H0, F, ρ, o, rl, e, ok⟩ := hpat
 unfold mret at e
 cases h1 : ma ρ with
 | none => rw [h1] at e; cases e
 | some d =>
  rw [h1] at e; cases e
  exact ⟨F0, H0, F, ρ, d, rl, h1, fun v F1 H1 x1 r1 => ok v F1 H1 (rl.ext.trans x1) r1⟩
theorem psd_retO (i : Nat) {x : Str} {pos' : Pos} (h : PE X (.Name x pos') (tVar i)) : PSd X (.Return (some (.Name x pos')) pos) (mretO i) := (ps_ret h).imp fun D σ H hpat => by
 obtain ⟨F0, H0, F, ρ, o, rl, e, ok⟩ := hpat
 unfold mretO at e
 split at e
 ·rename_i ds h1
  cases e
  obtain ⟨p, xs, e1, e2, e3, e4, e5⟩ := rl.own i _ h1
  exact ⟨_, e1, ok p xs F H rl.ext e5 e2 e3 e4⟩
 ·rename_i d h1
  cases e
  obtain ⟨v, e1, e2⟩ := rl.sh i _ h1
  exact ⟨_, e1, ok v F H rl.ext e2⟩
 ·cases e
noncomputable def mapp (i : Nat) (x : ME) : MS := fun ρ => match ρ[i]? with | some (some (.own ds)) => (x ρ).bind fun d => if ds.length < sizeLine then some (.nx (ρ.set i (some (.own (ds ++ [d]))))) else none | _ => none
theorem psd_append {i : Nat} {x : Str} {e : Expr} {px apos cpos : Pos} (hv : PE X (.Name x px) (tVar i)) (he : PD X e ma)
  (hE : ∀ t, PA X [e] t -> PE X (.Call (.Attribute (.Name x px) "append" apos) [e] [] cpos) (tBM X.K "list" rAppend (tVar i) t)) (hA : PAs X [e] (acons ma anil)) (hs : swapsWith (.Call (.Attribute (.Name x px) "append" apos) [e] [] cpos) none pos.line X.env = pure false := by rfl) :
  PSd X (.Expr (.Call (.Attribute (.Name x px) "append" apos) [e] [] cpos) pos) (mapp i ma) := (ps_expr (hE _ hA) hs).imp fun D σ H hpat => by
 obtain ⟨F0, H0, F, ρ, o, rl, e, ok⟩ := hpat
 unfold mapp at e
 split at e
 ·rename_i ds h1
  obtain ⟨p, xs, e1, e2, e3, e4, e5⟩ := rl.own i _ h1
  cases h2 : ma ρ with
  | none => rw [h2] at e; cases e
  | some d =>
   rw [h2] at e
   have e : (if ds.length < sizeLine then some (Out.nx (ρ.set i (some (.own (ds ++ [d]))))) else none) = some o := e
   split at e
   ·rename_i hz
    cases e
    refine ⟨_, e1, .inl ⟨rfl, _, SqL.of e3⟩, F0, H0, F, ρ, [d], rl, by unfold acons anil; rw [h2]; rfl, fun vs F1 H1 x1 r1 => ?_⟩
    cases r1 with
    | cons r rr =>
     cases rr
     have hp : H1 p = some (.lst xs) := x1.hh _ _ e3
     exact ⟨p, xs, _, rfl, rfl, hp, by rw [e4.length]; exact hz, ok F1 _ σ ((rl.go x1).write h1 e1 ((e4.mono x1.ff).append (.cons r .nil))) x1.ff⟩
   ·cases e
 ·cases e
noncomputable def msetix (i : Nat) (ix v : ME) : MS := fun ρ => (v ρ).bind fun d => match ρ[i]? with
 | some (some (.own ds)) => (ix ρ).bind (fun x => match x with | .int k => (ixN ds.length k).map fun j => .nx (ρ.set i (some (.own (ds.set j d)))) | _ => none)
 | some (some (.ob p ds)) => (ix ρ).bind (fun x => match x with | .int k => (ixN ds.length k).map fun j => .nx (ρ.set i (some (.ob p (ds.set j d)))) | _ => none)
 | _ => none
theorem psd_setix {i : Nat} (hE : PS X st (tAsg (TD X.K mb) (gSub (tVar i) (TD X.K ma) rSetL))) : PSd X st (msetix i ma mb) := hE.imp fun D σ H hpat => by
 obtain ⟨F0, H0, F, ρ, o, rl, e, ok⟩ := hpat
 unfold msetix at e
 cases h1 : mb ρ with
 | none => rw [h1] at e; cases e
 | some d =>
  rw [h1] at e
  refine ⟨F0, H0, F, ρ, d, rl, h1, fun y F1 H1 x1 r1 => ?_⟩
  dsimp only [Option.bind] at e
  split at e
  ·rename_i ds h2
   obtain ⟨p, xs, e1, e2, e3, e4, e5⟩ := (rl.go x1).own i _ h2
   cases h3 : ma ρ with
   | none => rw [h3] at e; cases e
   | some k' =>
    rw [h3] at e
    refine ⟨_, e1, F0, H0, F1, ρ, k', rl.go x1, h3, fun z F2 H2 x2 r2 => ?_⟩
    cases r2 <;> first | (cases e; done) | skip
    rename_i k
    have e : (ixN ds.length k).map (fun j => Out.nx (ρ.set i (some (.own (ds.set j d))))) = some o := e
    cases h4 : ixN ds.length k with
    | none => rw [h4] at e; cases e
    | some j =>
     rw [h4] at e; cases e
     have rl2 := (rl.go x1).go x2
     refine ⟨p, xs, k, j, rfl, rfl, x2.hh _ _ e3, by rw [e4.length]; exact h4, ok F2 _ σ (rl2.write h2 e1 (Reps.set (r1.mono x2.ff) j (e4.mono x2.ff))) (x1.ff.trans x2.ff)⟩
  ·rename_i p ds h2
   obtain ⟨e1, e2, e5, xs, e3, e4⟩ := (rl.go x1).ob i p _ h2
   cases h3 : ma ρ with
   | none => rw [h3] at e; cases e
   | some k' =>
    rw [h3] at e
    refine ⟨_, e1, F0, H0, F1, ρ, k', rl.go x1, h3, fun z F2 H2 x2 r2 => ?_⟩
    cases r2 <;> first | (cases e; done) | skip
    rename_i k
    have e : (ixN ds.length k).map (fun j => Out.nx (ρ.set i (some (.ob p (ds.set j d))))) = some o := e
    cases h4 : ixN ds.length k with
    | none => rw [h4] at e; cases e
    | some j =>
     rw [h4] at e; cases e
     have rl2 := (rl.go x1).go x2
     refine ⟨p, xs, k, j, rfl, rfl, x2.hh _ _ e3, by rw [e4.length]; exact h4, ok F2 _ σ (rl2.writeB h2 (Reps.set (r1.mono x2.ff) j (e4.mono x2.ff))) (x1.ff.trans x2.ff)⟩
  ·cases e
noncomputable def mfreeze (i : Nat) (m : MS) : MS := fun ρ => match ρ[i]? with | some (some (.own ds)) => m (ρ.set i (some (.sh (.lst ds)))) | _ => m ρ
theorem pssd_freeze (i : Nat) {sts : List Stmt} {m : MS} (h : PSsd X sts m) : PSsd X sts (mfreeze i m) := h.imp fun D σ H hpat => by
 obtain ⟨F0, H0, F, ρ, o, rl, e, ok⟩ := hpat
 unfold mfreeze at e
 split at e
 ·rename_i ds h1
  obtain ⟨F', rl', sf⟩ := rl.freeze h1
  exact ⟨F0, H0, F', _, o, rl', e, ok.mono sf⟩
 ·exact ⟨F0, H0, F, ρ, o, rl, e, ok⟩
inductive Tg where
 | nm (i : Nat) | tp (is : List Nat) | nt (i : Nat) (is : List Nat)
noncomputable def setAll : List Nat -> List D -> Ro -> Option Ro
 | [], [], ρ => some ρ
 | i :: is, d :: ds, ρ => setAll is ds (ρ.set i (some (.sh d)))
 | _, _, _ => none
noncomputable def tgD : Tg -> D -> Ro -> Option Ro
 | .nm i, d, ρ => some (ρ.set i (some (.sh d)))
 | .tp is, .tup ds, ρ => setAll is ds ρ
 | .nt i is, .tup [d, .tup ds], ρ => setAll is ds (ρ.set i (some (.sh d)))
 | _, _, _ => none
def TGd (K : W.Frag) (g : Tg) : TG := fun v σ H Q => ∃ F0 H0 F ρ d ρ', Rl K F0 H0 F H σ ρ /\ Rep K F v d /\ tgD g d ρ = some ρ' /\ ∀ F' H' σ', Rl K F0 H0 F' H' σ' ρ' -> Ext F H F' H' -> Q σ' H'
def PGd (X : Cx) (tg : Expr) (g : Tg) : Prop := PG X tg (TGd X.K g)
theorem PG.imp {tg : Expr} {t t' : TG} (h : PG X tg t) (i : ∀ v σ H Q, t' v σ H Q -> t v σ H Q) : PG X tg t' := fun pins s σ H v u Q I r q => h pins s σ H v u Q I r (i v σ H Q q)
theorem pgd_name {i : Nat} {x : Str} {pos : Pos} (h : PG X (.Name x pos) (gName i)) : PGd X (.Name x pos) (.nm i) := PG.imp h fun v σ H Q hpat => by
 obtain ⟨F0, H0, F, ρ, d, ρ', rl, r, e, q⟩ := hpat
 cases e; exact q F H _ (rl.set r) (.refl rl.fh)
noncomputable def gAll : List Nat -> TGs
 | [] => gNil
 | i :: is => gCons (gName i) (gAll is)
theorem gAll_ok {K : W.Frag} {F0 H0 F H : Hp} {Q : St -> Hp -> Prop} : ∀ (is : List Nat) (vs : List V) (ds : List D) (σ : St) (ρ ρ' : Ro), Rl K F0 H0 F H σ ρ -> Reps K F vs ds -> setAll is ds ρ = some ρ' -> (∀ σ', Rl K F0 H0 F H σ' ρ' -> Q σ' H) -> gAll is vs σ H Q
 | [], _, [], σ, ρ, ρ', rl, r, e, q => by cases r; cases e; exact ⟨rfl, q σ rl⟩
 | [], _, _ :: _, _, _, _, _, _, e, _ => by cases e
 | _ :: _, _, [], _, _, _, _, _, e, _ => by cases e
 | i :: is, _, d :: ds, σ, ρ, ρ', rl, r, e, q => by
  cases r with
  | cons r rr => exact ⟨_, _, rfl, gAll_ok is _ ds _ _ ρ' (rl.set r) rr e q⟩
theorem setAll_len : ∀ (is : List Nat) (ds : List D) (ρ ρ' : Ro), setAll is ds ρ = some ρ' -> ds.length = is.length
 | [], [], _, _, _ => rfl
 | [], _ :: _, _, _, e => by cases e
 | _ :: _, [], _, _, e => by cases e
 | _ :: is, _ :: ds, ρ, ρ', e => congrArg (· + 1) (setAll_len is ds _ ρ' e)
theorem pgd_tup {es : List Expr} {k n : Nat} {is : List Nat} {pos : Pos} (h : PG X (.Tuple es k pos) (gTup X.K n (gAll is))) (hn : is.length = n := by rfl) : PGd X (.Tuple es k pos) (.tp is) := PG.imp h fun v σ H Q hpat => by
 obtain ⟨F0, H0, F, ρ, d, ρ', rl, r, e, q⟩ := hpat
 cases r with
 | tup s t => exact ⟨_, _, rfl, rl.fh.seqT s, by rw [t.length, setAll_len _ _ _ _ e, hn], gAll_ok is _ _ σ ρ ρ' rl t e fun σ' rl' => q F H σ' rl' (.refl rl.fh)⟩
 | _ => cases e
noncomputable def masg (g : Tg) (x : ME) : MS := fun ρ => (x ρ).bind fun d => (tgD g d ρ).map .nx
theorem psd_asg {g : Tg} (h : PS X st (tAsg (TD X.K ma) (TGd X.K g))) : PSd X st (masg g ma) := h.imp fun D σ H hpat => by
 obtain ⟨F0, H0, F, ρ, o, rl, e, ok⟩ := hpat
 unfold masg at e
 cases h1 : ma ρ with
 | none => rw [h1] at e; cases e
 | some d =>
  rw [h1] at e
  have e : (tgD g d ρ).map Out.nx = some o := e
  cases h2 : tgD g d ρ with
  | none => rw [h2] at e; cases e
  | some ρ' =>
   rw [h2] at e; cases e
   exact ⟨F0, H0, F, ρ, d, rl, h1, fun v F1 H1 x1 r1 => ⟨F0, H0, F1, ρ, d, ρ', rl.go x1, r1, h2, fun F' H' σ' rl' x2 => ok F' H' σ' rl' (x1.ff.trans x2.ff)⟩⟩
structure ItD (K : W.Frag) (F : Hp) (J : It) (its : List D) : Prop where
 go : ∀ (i : Nat) F1 H1, Same F F1 -> Same F1 H1 -> i < its.length -> J.go i H1
 yld : ∀ (i : Nat) F1 H1 x H2 d, Same F F1 -> Same F1 H1 -> its[i]? = some d -> J.yld i H1 x H2 -> ∃ F2, Ext F1 H1 F2 H2 /\ Rep K F2 x d
 stop : ∀ F1 H1, Same F F1 -> Same F1 H1 -> J.stop its.length H1
def TId (K : W.Frag) (mi : ML) : TI := fun σ H R => ∃ F0 H0 F ρ its, Rl K F0 H0 F H σ ρ /\ mi ρ = some its /\ ∀ J F' H', Ext F H F' H' -> ItD K F' J its -> R J H'
def PId (X : Cx) (tg iter : Expr) (mi : ML) : Prop := PI X tg iter (TId X.K mi)
theorem PI.imp {tg it : Expr} {t t' : TI} (h : PI X tg it t) (i : ∀ σ H R, t' σ H R -> t σ H R) : PI X tg it t' := fun pins s σ H R I q => h pins s σ H R I (i σ H R q)
theorem itd_list {K : W.Frag} {F : Hp} {p : Addr} {xs : List V} {ds : List D} (s : SqL K F p xs) (r : Reps K F xs ds) : ItD K F (Itl K p) ds where
 go := fun i F1 H1 a b hi => by
  obtain ⟨v, e, _⟩ := r.get (getElem?_eq_getElem hi)
  exact ⟨xs, v, b.seq (a.seq s), e⟩
 yld := fun i F1 H1 x H2 d a b e y => by
  obtain ⟨rfl, y⟩ := y
  obtain ⟨v, e1, e2⟩ := r.get e
  have := y xs (b.seq (a.seq s))
  rw [e1] at this; cases this
  exact ⟨F1, .refl b, e2.mono a⟩
 stop := fun F1 H1 a b => ⟨xs, b.seq (a.seq s), by rw [r.length]; exact Nat.le_refl _⟩
theorem pid_seq {tg : Expr} (hd : PD X e ma) : PId X tg e (aslst ma) := PI.imp (pi_list hd) fun σ H R hpat => by
 obtain ⟨F0, H0, F, ρ, its, rl, e, q⟩ := hpat
 unfold aslst at e
 split at e
 ·rename_i ds h1
  cases e
  refine ⟨F0, H0, F, ρ, _, rl, h1, fun v F1 H1 x1 r1 => ?_⟩
  cases r1 with
  | lst s t => exact ⟨_, rfl, ⟨_, x1.fh.seq s⟩, q _ F1 H1 x1 (itd_list s t)⟩
 ·cases e
noncomputable def rangeD (lo : Int) (n : Nat) : List D := (List.range n).map fun (i : Nat) => D.int (lo + (i : Int))
theorem rangeD_length (lo : Int) (n : Nat) : (rangeD lo n).length = n := by unfold rangeD; simp
theorem itd_range {K : W.Frag} {F : Hp} {lo : Int} {n : Nat} : ItD K F (Itr lo n) (rangeD lo n) where
 go := fun i F1 H1 a b hi => by rw [rangeD_length] at hi; exact hi
 yld := fun i F1 H1 x H2 d a b e y => by
  obtain ⟨rfl, rfl⟩ := y
  unfold rangeD at e
  rw [getElem?_map] at e
  have hi : i < n := by
   rcases Nat.lt_or_ge i n with h | h
   ·exact h
   ·rw [getElem?_eq_none (by simpa using h)] at e; cases e
  rw [getElem?_range hi] at e
  cases e
  exact ⟨F1, .refl b, .int _⟩
 stop := fun F1 H1 a b => by rw [rangeD_length]; exact Nat.le_refl n
noncomputable def okR (j : Int) : Bool := decide (-(2 ^ 62) <= j) && decide (j < 2 ^ 62)
noncomputable def rng1 : List D -> Option (List D)
 | [.int j] => if okR j = true then some (rangeD 0 j.toNat) else none
 | _ => none
noncomputable def rng2 : List D -> Option (List D)
 | [.int i, .int j] => if (okR i && okR j) = true then some (rangeD i (j - i).toNat) else none
 | _ => none
@[irreducible] noncomputable def mlist (f : List D -> Option (List D)) (m : ML) : ML := fun ρ => (m ρ).bind f
theorem mlist_some {f : List D -> Option (List D)} {m : ML} {ρ : Ro} {gs : List D} (h : mlist f m ρ = some gs) : ∃ ds, m ρ = some ds /\ f ds = some gs := by
 unfold mlist at h
 cases h1 : m ρ with
 | none => rw [h1] at h; cases h
 | some ds => rw [h1] at h; exact ⟨ds, rfl, h⟩
theorem pid_range1 {tg a : Expr} {m : ML} {p pos : Pos} (hg : Gl X "range") (hm : X.mg "range" = none) (ha : PAs X [a] m) (hs : starEach [a] X.env = [(false, eval a X.env)] := by rfl) : PId X tg (.Call (.Name "range" p) [a] [] pos) (mlist rng1 m) := PI.imp (pi_range1 hg hm ha hs) fun σ H R hpat => by
 obtain ⟨F0, H0, F, ρ, its, rl, e, q⟩ := hpat
 obtain ⟨ds, h1, h2⟩ := mlist_some e
 refine ⟨F0, H0, F, ρ, ds, rl, h1, fun vs F1 H1 x1 r1 => ?_⟩
 unfold rng1 at h2
 split at h2
 ·rename_i j
  split at h2
  ·rename_i hk
   cases h2
   unfold okR at hk
   simp only [Bool.and_eq_true, decide_eq_true_eq] at hk
   cases r1 with
   | cons r rr =>
    cases rr; cases r
    exact ⟨j, rfl, hk.1, hk.2, q _ F1 H1 x1 itd_range⟩
  ·cases h2
 ·cases h2
theorem pid_range2 {tg a b : Expr} {m : ML} {p pos : Pos} (hg : Gl X "range") (hm : X.mg "range" = none) (ha : PAs X [a, b] m) (hs : starEach [a, b] X.env = [(false, eval a X.env), (false, eval b X.env)] := by rfl) (hs2 : starEach [b] X.env = [(false, eval b X.env)] := by rfl) : PId X tg (.Call (.Name "range" p) [a, b] [] pos) (mlist rng2 m) := PI.imp (pi_range2 hg hm ha hs hs2) fun σ H R hpat => by
 obtain ⟨F0, H0, F, ρ, its, rl, e, q⟩ := hpat
 obtain ⟨ds, h1, h2⟩ := mlist_some e
 refine ⟨F0, H0, F, ρ, ds, rl, h1, fun vs F1 H1 x1 r1 => ?_⟩
 unfold rng2 at h2
 split at h2
 ·rename_i i j
  split at h2
  ·rename_i hk
   cases h2
   unfold okR at hk
   simp only [Bool.and_eq_true, decide_eq_true_eq] at hk
   cases r1 with
   | cons r rr =>
    cases rr with
    | cons r2 rr =>
     cases rr; cases r; cases r2
     exact ⟨i, j, rfl, ⟨hk.1.1, hk.1.2, hk.2.1, hk.2.2⟩, q _ F1 H1 x1 itd_range⟩
  ·cases h2
 ·cases h2
noncomputable def enumL : Nat -> List D -> List D
 | _, [] => []
 | i, d :: ds => .tup [.int i, d] :: enumL (i + 1) ds
theorem enumL_length : ∀ i ds, (enumL i ds).length = ds.length
 | _, [] => rfl
 | i, _ :: ds => by simp [enumL, enumL_length (i + 1) ds]
theorem enumL_get : ∀ (k : Nat) ds (i : Nat) d, ds[i]? = some d -> (enumL k ds)[i]? = some (.tup [.int ((k + i : Nat) : Int), d])
 | _, [], _, _, h => by simp at h
 | k, _ :: ds, 0, d, h => by simp at h; subst h; rfl
 | k, _ :: ds, i + 1, d, h => by
  have := enumL_get (k + 1) ds i d (by simpa using h)
  have e : k + 1 + i = k + (i + 1) := by omega
  rw [e] at this
  simpa [enumL] using this
noncomputable def enum1 : List D -> Option (List D)
 | [.lst ds] => some (enumL 0 ds)
 | _ => none
theorem itd_enum {K : W.Frag} {F : Hp} {p : Addr} {xs : List V} {ds : List D} (s : SqL K F p xs) (r : Reps K F xs ds) : ItD K F (Ite K p) (enumL 0 ds) where
 go := fun i F1 H1 a b hi => by
  rw [enumL_length] at hi
  obtain ⟨v, e, _⟩ := r.get (getElem?_eq_getElem hi)
  exact ⟨xs, v, b.seq (a.seq s), e⟩
 yld := fun i F1 H1 x H2 d a b e y => by
  obtain ⟨t, u, rfl, ht, rfl, y1⟩ := y
  have y1 := y1 xs (b.seq (a.seq s))
  obtain ⟨d1, e1, r1⟩ := r.get' y1
  rw [enumL_get 0 ds i d1 e1, Nat.zero_add] at e
  cases e
  refine ⟨upd F1 t (.tup [.int i, u]), Ext.laid b ht, .tup (SqT.of upd_same) ?_⟩
  have mm : Same F (upd F1 t (.tup [.int i, u])) := a.trans ((Same.refl F1).put (b.free ht))
  exact .cons (.int _) (.cons (r1.mono mm) .nil)
 stop := fun F1 H1 a b => ⟨xs, b.seq (a.seq s), by rw [r.length, enumL_length]; exact Nat.le_refl _⟩
theorem pid_enum {es : List Expr} {tk : Nat} {tp : Pos} {a : Expr} {m : ML} {p pos : Pos} (hg : Gl X "enumerate") (hm : X.mg "enumerate" = none) (ha : PAs X [a] m) (hs : starEach [a] X.env = [(false, eval a X.env)] := by rfl) : PId X (.Tuple es tk tp) (.Call (.Name "enumerate" p) [a] [] pos) (mlist enum1 m) := PI.imp (pi_enum hg hm ha hs) fun σ H R hpat => by
 obtain ⟨F0, H0, F, ρ, its, rl, e, q⟩ := hpat
 obtain ⟨ds, h1, h2⟩ := mlist_some e
 refine ⟨F0, H0, F, ρ, ds, rl, h1, fun vs F1 H1 x1 r1 => ?_⟩
 unfold enum1 at h2
 split at h2
 ·cases h2
  cases r1 with
  | cons r rr =>
   cases rr
   cases r with
   | lst s t => exact ⟨_, _, rfl, x1.fh.seq s, q _ F1 H1 x1 (itd_enum s t)⟩
 ·cases h2
end
end
section
noncomputable def forD (g : Tg) (body : MS) : List D -> MS
 | [], ρ => some (.nx ρ)
 | d :: ds, ρ => match tgD g d ρ with
  | some ρ1 => match body ρ1 with
   | some (.nx ρ2) => forD g body ds ρ2
   | some (.ct ρ2) => forD g body ds ρ2
   | some (.bk ρ2) => some (.nx ρ2)
   | o => o
  | none => none
noncomputable def mfor (mi : ML) (g : Tg) (body : MS) : MS := fun ρ => (mi ρ).bind fun its => forD g body its ρ
theorem drop_get {α : Type} {xs : List α} {i : Nat} {d : α} (h : xs[i]? = some d) : xs.drop i = d :: xs.drop (i + 1) := by
 obtain ⟨hl, e⟩ := List.getElem?_eq_some_iff.mp h
 rw [drop_eq_getElem_cons hl, e]
section
variable {X : Cx} {a b c e : Expr} {ma mb : ME} {pos : Pos} {st : Stmt} {rest : List Stmt}
theorem psd_for {tg iter : Expr} {body : List Stmt} {mi : ML} {g : Tg} {mb : MS} (hp : PassesOwn (model X.prog X.w) X.A X.env X.xe) (hc : X.calm = true) (hi : PId X tg iter mi) (hg : PGd X tg g) (hb : PSsd X body mb)
  (hs : ∀ x, foldedSetIterable iter X.env x = pure x := by intro _; rfl) : PSd X (.For tg iter body [] pos) (mfor mi g mb) := (ps_for hp hc hi hg hb hs).imp fun Dn σ H hpat => by
 obtain ⟨F0, H0, F, ρ, o, rl, e, ok⟩ := hpat
 unfold mfor at e
 cases h1 : mi ρ with
 | none => rw [h1] at e; cases e
 | some its =>
  rw [h1] at e
  have e : forD g mb its ρ = some o := e
  refine ⟨F0, H0, F, ρ, its, rl, h1, fun J F1 H1 x1 I => ?_⟩
  refine ⟨fun i m σ' H' => ∃ F' ρ', Rl X.K F0 H0 F' H' σ' ρ' /\ Same F1 F' /\ i <= its.length /\ m = its.length - i /\ forD g mb (its.drop i) ρ' = some o, ⟨_, F1, ρ, rl.go x1, Same.refl _, Nat.zero_le _, rfl, e⟩, ?_⟩
  rintro i m σ' H' ⟨F', ρ', rl', sf, hi', rfl, e'⟩
  by_cases hlt : i < its.length
  ·right
   have hd := getElem?_eq_getElem hlt
   refine ⟨I.go i F' H' sf rl'.fh hlt, fun σ2 H2 => ∃ F2 ρ2, Rl X.K F0 H0 F2 H2 σ2 ρ2 /\ Same F1 F2 /\ forD g mb (its.drop (i + 1)) ρ2 = some o, ?_, fun x H2 y => ?_⟩
   ·rintro σ2 H2 ⟨F2, ρ2, rl2, sf2, e2⟩
    exact ⟨its.length - (i + 1), by omega, F2, ρ2, rl2, sf2, hlt, rfl, e2⟩
   ·obtain ⟨F2, x2, r2⟩ := I.yld i F' H' x H2 _ sf rl'.fh hd y
    rw [drop_get hd] at e'
    unfold forD at e'
    cases h2 : tgD g its[i] ρ' with
    | none => simp only [h2] at e'; cases e'
    | some ρ1 =>
     simp only [h2] at e'
     refine ⟨F0, H0, F2, ρ', _, ρ1, rl'.go x2, r2, h2, fun F3 H3 σ3 rl3 x3 => ?_⟩
     have s3 : Same F1 F3 := (sf.trans x2.ff).trans x3.ff
     cases h3 : mb ρ1 with
     | none => simp only [h3] at e'; cases e'
     | some o1 =>
      simp only [h3] at e'
      refine ⟨F0, H0, F3, ρ1, o1, rl3, h3, ?_⟩
      cases o1 with
      | nx ρ2 => exact fun F4 H4 σ4 rl4 s4 => ⟨F4, ρ2, rl4, s3.trans s4, e'⟩
      | ct ρ2 => exact fun F4 H4 σ4 rl4 s4 => ⟨F4, ρ2, rl4, s3.trans s4, e'⟩
      | bk ρ2 =>
       cases e'
       exact fun F4 H4 σ4 rl4 s4 => ok F4 H4 σ4 rl4 ((x1.ff.trans s3).trans s4)
      | rt d => cases e'; exact ok
      | rf d => cases e'; exact ok
      | rp d ds => cases e'; exact ok
      | rg d p r => cases e'; exact ok
      | rgf d p r => cases e'; exact ok
  ·left
   have hieq : i = its.length := by omega
   subst hieq
   rw [drop_length] at e'
   have e' : some (Out.nx ρ') = some o := e'
   cases e'
   exact ⟨I.stop F' H' sf rl'.fh, ok F' H' σ' rl' (x1.ff.trans sf)⟩
end
end
section
noncomputable def blkRo (src : List (Option Nat)) (ρ : Ro) : Ro := src.map fun o => o.bind fun i => match ρ[i]? with | some (some (.sh d)) => some (.sh d) | _ => none
noncomputable def compD (g : Tg) (c : MB) (elt : ME) : List D -> Ro -> List D -> Option (List D)
 | [], _, acc => some acc
 | d :: ds, ρ, acc => match tgD g d ρ with
  | some ρ1 => match c ρ1 with
   | some true => match elt ρ1 with
    | some x => if acc.length < sizeLine then compD g c elt ds ρ1 (acc ++ [x]) else none
    | none => none
   | some false => compD g c elt ds ρ1 acc
   | none => none
  | none => none
@[irreducible] noncomputable def mcomp (src : List (Option Nat)) (mi : ML) (g : Tg) (c : MB) (elt : ME) : ML := fun ρ => (mi ρ).bind fun its => compD g c elt its (blkRo src ρ) []
def NoOwn (ρ : Ro) : Prop := ∀ (i : Nat) ds, ρ[i]? ≠ some (some (.own ds)) /\ ∀ p, ρ[i]? ≠ some (some (.ob p ds))
theorem NoOwn.set {ρ : Ro} (h : NoOwn ρ) (i : Nat) (d : D) : NoOwn (ρ.set i (some (.sh d))) := fun j ds => ⟨fun e => by
 by_cases hj : i = j
 ·subst hj
  have hl : i < ρ.length := by
   rcases Nat.lt_or_ge i ρ.length with z | z
   ·exact z
   ·rw [getElem?_eq_none (by simpa using z)] at e; cases e
  rw [getElem?_set_self hl] at e; cases e
 ·rw [getElem?_set_ne hj] at e; exact (h j ds).1 e, fun p e => (h j ds).2 p (set_ob e).2⟩
theorem NoOwn.all : ∀ (is : List Nat) (ds : List D) {ρ ρ' : Ro}, NoOwn ρ -> setAll is ds ρ = some ρ' -> NoOwn ρ'
 | [], [], ρ, ρ', h, e => by cases e; exact h
 | [], _ :: _, _, _, _, e => by cases e
 | _ :: _, [], _, _, _, e => by cases e
 | i :: is, d :: ds, ρ, ρ', h, e => NoOwn.all is ds (h.set i d) e
theorem NoOwn.tg {g : Tg} {d : D} {ρ ρ' : Ro} (h : NoOwn ρ) (e : tgD g d ρ = some ρ') : NoOwn ρ' := by
 cases g with
 | nm i => cases e; exact h.set i d
 | tp is => cases d <;> first | (cases e; done) | exact NoOwn.all is _ h e
 | nt i is =>
  cases d with
  | tup ds =>
   match ds, e with
   | [d, .tup ds], e => exact NoOwn.all is _ (h.set i d) e
  | _ => cases e
theorem Rl.blk {K : W.Frag} {F0 H0 F H : Hp} {σ : St} {ρ : Ro} (r : Rl K F0 H0 F H σ ρ) (src : List (Option Nat)) : Rl K F H F H (blk0 src σ) (blkRo src ρ) /\ NoOwn (blkRo src ρ) := by
 have no1 : ∀ (i : Nat) x, (blkRo src ρ)[i]? = some (some x) -> ∃ d, x = S.sh d := fun i x e => by
  unfold blkRo at e
  rw [getElem?_map] at e
  cases h : src[i]? with
  | none => rw [h] at e; cases e
  | some o =>
   rw [h] at e
   cases o with
   | none => cases e
   | some k =>
    simp only [Option.map_some, Option.bind_some] at e
    split at e
    ·cases e; exact ⟨_, rfl⟩
    ·cases e
 have no : NoOwn (blkRo src ρ) := fun i ds => ⟨fun e => (by obtain ⟨d, z⟩ := no1 i _ e; cases z), fun p e => (by obtain ⟨d, z⟩ := no1 i _ e; cases z)⟩
 refine ⟨⟨.refl r.fh, by unfold blk0 blkRo; simp, fun i d e => ?_, fun i ds e => absurd e (no i ds).1, fun i j p ds es _ e => absurd e (no i ds).1, fun i p ds e => absurd e ((no i ds).2 p), fun i j p ds es e => absurd e ((no i ds).2 p), fun i j p q ds es e => absurd e ((no i ds).2 p)⟩, no⟩
 unfold blkRo at e
 unfold blk0
 rw [getElem?_map] at e ⊢
 cases h : src[i]? with
 | none => rw [h] at e; cases e
 | some o =>
  rw [h] at e
  cases o with
  | none => cases e
  | some k =>
   simp only [Option.map_some, Option.bind_some] at e ⊢
   split at e
   ·rename_i d' h'
    cases e
    obtain ⟨v, e1, e2⟩ := r.sh k _ h'
    exact ⟨v, by rw [e1]; rfl, e2⟩
   ·cases e
theorem Rl.other {K : W.Frag} {F0 H0 F H : Hp} {σ : St} {ρ : Ro} (r : Rl K F0 H0 F H σ ρ) (no : NoOwn ρ) {p : Addr} {o : HO} (h0 : H0 p = none) (hF : F p = none) : Rl K F0 H0 F (upd H p o) σ ρ :=
 ⟨⟨r.ext.ff, r.ext.hh.put h0, r.ext.fh.put hF, r.ext.new, r.ext.nf⟩, r.len, r.sh, fun i ds e => absurd e (no i ds).1, r.inj, fun i p ds e => absurd e ((no i ds).2 p), r.obn, r.ob1⟩
theorem Rl.rebase {K : W.Frag} {F1 F H : Hp} {σ : St} {ρ : Ro} {p : Addr} {xs ys : List V} (r : Rl K F1 (upd F1 p (.lst xs)) F H σ ρ) (hF : F p = none) (hF1 : F1 p = none) : Rl K F1 (upd F1 p (.lst ys)) F (upd H p (.lst ys)) σ ρ := by
 have ne : ∀ q, upd F1 p (.lst xs) q = none -> q ≠ p := fun q z w => by rw [w, upd_same] at z; cases z
 refine ⟨⟨r.ext.ff, fun b u e => ?_, r.fh.put hF, fun b e n => ?_, r.ext.nf⟩, r.len, r.sh, fun i ds e => ?_, r.inj, fun i q ds e => ?_, r.obn, r.ob1⟩
 ·by_cases hb : b = p
  ·subst hb; rw [upd_same] at e ⊢; exact e
  ·rw [upd_ne hb] at e ⊢
   exact r.ext.hh b u (by rw [upd_ne hb]; exact e)
 ·have hb : b ≠ p := fun w => by rw [w, hF] at n; exact n rfl
  rw [upd_ne hb]; exact e
 ·obtain ⟨q, zs, a, b, c, d, z⟩ := r.own i ds e
  have hq := ne q z
  rw [upd_ne hq] at z
  exact ⟨q, zs, a, b, by rw [upd_ne hq]; exact c, d, by rw [upd_ne hq]; exact z⟩
 ·obtain ⟨a, b, z, zs, c, d⟩ := r.ob i q ds e
  have hq := ne q z
  rw [upd_ne hq] at z
  exact ⟨a, b, by rw [upd_ne hq]; exact z, zs, by rw [upd_ne hq]; exact c, d⟩
theorem Ext.acc {F H F' H' : Hp} {p : Addr} {o : HO} (x : Ext F H F' H') (hp : H p = none) (hF : F' p = none) : Ext F H F' (upd H' p o) := ⟨x.ff, x.hh.put hp, x.fh.put hF, x.new, x.nf⟩
theorem Ext.stay {F' H' F3 H3 : Hp} {p : Addr} {o : HO} (x3 : Ext F' H' F3 H3) (hF' : F' p = none) (hH' : H' p = some o) : F3 p = none := by
 cases qq : F3 p with
 | none => rfl
 | some u => have := x3.new p hF' (by rw [qq]; simp); rw [this] at hH'; cases hH'
theorem Rl.noB {K : W.Frag} {F H : Hp} {σ : St} {ρ : Ro} {p : Addr} (r : Rl K F H F H σ ρ) (no : NoOwn ρ) (hp : H p = none) : Rl K F (upd F p (.lst [])) F (upd H p (.lst [])) σ ρ :=
 ⟨⟨Same.refl F, r.fh.put2, r.fh.put (r.fh.free hp), fun b e n => absurd e n, fun _ _ _ z => z⟩, r.len, r.sh, fun i ds e => absurd e (no i ds).1, r.inj, fun i p ds e => absurd e ((no i ds).2 p), r.obn, r.ob1⟩
theorem compD_cons {g : Tg} {c : MB} {elt : ME} {d : D} {ds acc out : List D} {ρ : Ro} (h : compD g c elt (d :: ds) ρ acc = some out) : ∃ ρ1, tgD g d ρ = some ρ1 /\ ((c ρ1 = some false /\ compD g c elt ds ρ1 acc = some out) \/ ∃ x, c ρ1 = some true /\ elt ρ1 = some x /\ acc.length < sizeLine /\ compD g c elt ds ρ1 (acc ++ [x]) = some out) := by
 rw [compD] at h
 cases h2 : tgD g d ρ with
 | none => rw [h2] at h; cases h
 | some ρ1 =>
  rw [h2] at h
  simp only at h
  refine ⟨ρ1, rfl, ?_⟩
  cases h3 : c ρ1 with
  | none => rw [h3] at h; cases h
  | some k =>
   rw [h3] at h
   cases k with
   | false => exact .inl ⟨rfl, h⟩
   | true =>
    simp only at h
    cases h4 : elt ρ1 with
    | none => rw [h4] at h; cases h
    | some x =>
     rw [h4] at h
     simp only at h
     by_cases hz : acc.length < sizeLine
     ·rw [if_pos hz] at h; exact .inr ⟨x, rfl, rfl, hz, h⟩
     ·rw [if_neg hz] at h; cases h
theorem comp_loop {K : PySem.W.Frag} {src : List (Option Nat)} {g : Tg} {c : MB} {elt : ME} {its out : List D} {F1 H1 : Hp} {σ : St} {ρb : Ro} {p : Addr} {J : It} {Q : VK} (f1 : Same F1 H1) (hp : H1 p = none) (rb : Rl K F1 (upd F1 p (.lst [])) F1 (upd H1 p (.lst [])) (blk0 src σ) ρb) (I : ItD K F1 J its) (e : compD g c elt its ρb [] = some out)
  (q : ∀ xs F' H', Ext F1 H1 F' H' -> F' p = none -> H' p = some (.lst xs) -> Reps K F' xs out -> Q (.ref p) H') :
  ∃ W : Nat -> Nat -> St -> Hp -> Prop, (∃ m, W 0 m (blk0 src σ) (upd H1 p (.lst []))) /\ ∀ i m σ' H', W i m σ' H' ->
   (J.stop i H' /\ Q (.ref p) H') \/ (J.go i H' /\ ∃ N : St -> Hp -> Prop, (∀ σ2 H2, N σ2 H2 -> ∃ m', m' < m /\ W (i + 1) m' σ2 H2) /\ ∀ x H2, J.yld i H' x H2 -> TGd K g x σ' H2 fun σ3 H3 => TC K c σ3 H3 fun b H4 =>
    if b = true then TD K elt σ3 H4 fun y H5 => ∃ xs, H5 p = some (.lst xs) /\ xs.length < sizeLine /\ N σ3 (upd H5 p (.lst (xs ++ [y]))) else N σ3 H4) := by
 have hF1 : F1 p = none := f1.free hp
 refine ⟨fun i m σ' H' => ∃ F' ρ' acc xs, Rl K F1 (upd F1 p (.lst xs)) F' H' σ' ρ' /\ Ext F1 H1 F' H' /\ H' p = some (.lst xs) /\ F' p = none /\ Reps K F' xs acc /\ i <= its.length /\ m = its.length - i /\ compD g c elt (its.drop i) ρ' acc = some out,
  ⟨_, F1, ρb, [], [], rb, (Ext.refl f1).acc hp hF1, upd_same, hF1, .nil, Nat.zero_le _, rfl, e⟩, ?_⟩
 clear rb e
 rintro i m σ' H' ⟨F', ρ', acc, xs, rl', xe, hH', hF', ra, hi', rfl, e'⟩
 by_cases hlt : i < its.length
 ·right
  have hd := getElem?_eq_getElem hlt
  refine ⟨I.go i F' H' xe.ff rl'.fh hlt, fun σ2 H2 => ∃ F2 ρ2 acc2 xs2, Rl K F1 (upd F1 p (.lst xs2)) F2 H2 σ2 ρ2 /\ Ext F1 H1 F2 H2 /\ H2 p = some (.lst xs2) /\ F2 p = none /\ Reps K F2 xs2 acc2 /\ compD g c elt (its.drop (i + 1)) ρ2 acc2 = some out, ?_, fun x H2 y => ?_⟩
  ·rintro σ2 H2 ⟨F2, ρ2, acc2, xs2, b1, b2, b3, b4, b5, b6⟩
   exact ⟨its.length - (i + 1), Nat.sub_lt_sub_left hlt (Nat.lt_succ_self i), F2, ρ2, acc2, xs2, b1, b2, b3, b4, b5, hlt, rfl, b6⟩
  ·obtain ⟨F2, x2, r2⟩ := I.yld i F' H' x H2 _ xe.ff rl'.fh hd y
   rw [drop_get hd] at e'
   obtain ⟨ρ1, h2, e3⟩ := compD_cons e'
   clear e' I q y hd
   refine ⟨F1, _, F2, ρ', _, ρ1, rl'.go x2, r2, h2, fun F3 H3 σ3 rl3 x3 => ?_⟩
   have x23 := x2.trans x3
   rcases e3 with ⟨h3, e4⟩ | ⟨d, h3, h4, hz, e4⟩
   ·refine ⟨F1, _, F3, ρ1, false, rl3, h3, fun F4 H4 x4 => ?_⟩
    have x24 := x23.trans x4
    exact iteF ⟨F4, ρ1, acc, xs, rl3.go x4, xe.trans x24, x24.hh _ _ hH', x24.stay hF' hH', ra.mono x24.ff, e4⟩
   ·refine ⟨F1, _, F3, ρ1, true, rl3, h3, fun F4 H4 x4 => iteT ⟨F1, _, F4, ρ1, d, rl3.go x4, h4, fun v F5 H5 x5 r5 => ?_⟩⟩
    have x25 := (x23.trans x4).trans x5
    have pn := x25.stay hF' hH'
    exact ⟨xs, x25.hh _ _ hH', by rw [ra.length]; exact hz, F5, ρ1, acc ++ [d], xs ++ [v], ((rl3.go x4).go x5).rebase pn hF1, (xe.trans x25).acc hp pn, upd_same, pn, (ra.mono x25.ff).append (.cons r5 .nil), e4⟩
 ·left
  have hieq : i = its.length := Nat.le_antisymm hi' (Nat.le_of_not_lt hlt)
  subst hieq
  rw [drop_length] at e'
  have e' : some acc = some out := e'
  cases e'
  exact ⟨I.stop F' H' xe.ff rl'.fh, q xs F' H' xe hF' hH' ra⟩
section
variable {X : Cx} {a b c e : Expr} {ma mb : ME} {pos : Pos} {st : Stmt} {rest : List Stmt}
def PTsd (X : Cx) (ifs : List Expr) (c : MB) : Prop := PTs X ifs (TC X.K c)
noncomputable def cyes : MB := fun _ => some true
theorem ptsd_nil : PTsd X [] cyes := fun pins s σ H Q I hpat => by
 obtain ⟨F0, H0, F, ρ, b, rl, e, q⟩ := hpat
 cases e
 exact pts_nil pins s σ H Q I (q F H (.refl rl.fh))
theorem ptsd_one {ca : MB} (h : PC' X c ca) : PTsd X [c] ca := pts_one h
theorem comp_tf {K : W.Frag} {src : List (Option Nat)} {mi : ML} {g : Tg} {c : MB} {elt : ME} {σ : St} {H : Hp} {Q : VK} (h : TF K (mcomp src mi g c elt) σ H Q) : tComp src (TId K mi) (TGd K g) (TC K c) (TD K elt) σ H Q := by
 obtain ⟨F0, H0, F, ρ, out, rl, e, q⟩ := h
 unfold mcomp at e
 cases h1 : mi ρ with
 | none => rw [h1] at e; cases e
 | some its =>
  rw [h1] at e
  refine ⟨F0, H0, F, ρ, its, rl, h1, fun J F1 H1 x1 I p hp => ?_⟩
  obtain ⟨rb, no⟩ := (rl.go x1).blk src
  exact comp_loop x1.fh hp (rb.noB no hp) I e fun xs F' H' xe hF' hH' ra => q p xs F' H' (x1.trans xe) (x1.hh.free hp) hF' hH' ra
theorem pf_comp {sc : Scope} {N : List Str} {src : List (Option Nat)} {tg elt iter : Expr} {ifs : List Expr} {mi : ML} {g : Tg} {cc : MB} {me : ME} (B : Blk X sc N src) (hc : X.calm = true)
  (hi : PId X tg iter mi) (hg : ∀ C fp s H, PGd (blkCx X sc C N fp s H) tg g) (ht : ∀ C fp s H, PTsd (blkCx X sc C N fp s H) ifs cc) (he : ∀ C fp s H, PD (blkCx X sc C N fp s H) elt me)
  (hs : ∀ x, foldedSetIterable iter X.env x = pure x := by intro _; rfl) :
  PF X (.ListComp elt [⟨tg, iter, ifs, 0⟩] sc pos) (mcomp src mi g cc me) := (pe_comp (g := TGd X.K g) (tc := TC X.K cc) (te := TD X.K me) B hc hi (fun C fp s H => hg C fp s H) (fun C fp s H => ht C fp s H) (fun C fp s H => he C fp s H) hs).imp fun _ _ _ h => comp_tf h
theorem pf_imp {mf : ML} {σ : St} {H : Hp} {Q : VK} (h : TD X.K (mlst mf) σ H Q) : TF X.K mf σ H Q := by
 obtain ⟨F0, H0, F, ρ, d, r, e, q⟩ := h
 unfold mlst at e
 cases hm : mf ρ with
 | none => rw [hm] at e; cases e
 | some ds =>
  rw [hm] at e; cases e
  refine ⟨F0, H0, F, ρ, ds, r, hm, fun p xs F' H' x hp hF hH rs => ?_⟩
  exact q _ (upd F' p (.lst xs)) H' (x.freeze hF hp hH) (.lst (SqL.of upd_same) (rs.mono ((Same.refl F').put hF)))
theorem psd_setCs {i : Nat} {src : List (Option Nat)} {mi : ML} {g : Tg} {cc : MB} {me : ME} (h : PS X st (tAsg (tComp src (TId X.K mi) (TGd X.K g) (TC X.K cc) (TD X.K me)) (gName i))) : PSd X st (mset i (mlst (mcomp src mi g cc me))) := asg_d h fun _ _ _ q => comp_tf (pf_imp q)
noncomputable def whileD (c : MB) (body : MS) : Nat -> MS
 | 0, _ => none
 | n + 1, ρ => match c ρ with
  | some true => match body ρ with
   | some (.nx ρ2) => whileD c body n ρ2
   | some (.ct ρ2) => whileD c body n ρ2
   | some (.bk ρ2) => some (.nx ρ2)
   | o => o
  | some false => some (.nx ρ)
  | none => none
theorem psd_while {body : List Stmt} {ca : MB} {mb : MS} (n : Nat) (hp : PassesOwn (model X.prog X.w) X.A X.env X.xe) (hc : PC' X c ca) (hb : PSsd X body mb) : PSd X (.While c body [] pos) (whileD ca mb n) := (ps_while hp hc hb).imp fun Dn σ H hpat => by
 obtain ⟨F0, H0, F, ρ, o, rl, e, ok⟩ := hpat
 refine ⟨fun m σ' H' => ∃ F' ρ', Rl X.K F0 H0 F' H' σ' ρ' /\ Same F F' /\ whileD ca mb m ρ' = some o, ⟨n, F, ρ, rl, Same.refl _, e⟩, ?_⟩
 rintro m σ' H' ⟨F', ρ', rl', sf, e'⟩
 cases m with
 | zero => cases e'
 | succ m =>
  unfold whileD at e'
  cases h1 : ca ρ' with
  | none => simp only [h1] at e'; cases e'
  | some k =>
   refine ⟨F0, H0, F', ρ', k, rl', h1, fun F1 H1 x1 => ?_⟩
   cases k with
   | false =>
    simp only [h1] at e'
    cases e'
    exact iteF (ok F1 H1 σ' (rl'.go x1) (sf.trans x1.ff))
   | true =>
    simp only [h1] at e'
    refine iteT ⟨fun σ2 H2 => ∃ F2 ρ2, Rl X.K F0 H0 F2 H2 σ2 ρ2 /\ Same F F2 /\ whileD ca mb m ρ2 = some o, fun σ2 H2 ⟨F2, ρ2, a1, a2, a3⟩ => ⟨m, Nat.lt_succ_self m, F2, ρ2, a1, a2, a3⟩, ?_⟩
    cases h2 : mb ρ' with
    | none => simp only [h2] at e'; cases e'
    | some o1 =>
     simp only [h2] at e'
     refine ⟨F0, H0, F1, ρ', o1, rl'.go x1, h2, ?_⟩
     have s1 := sf.trans x1.ff
     cases o1 with
     | nx ρ2 => exact fun F4 H4 σ4 rl4 s4 => ⟨F4, ρ2, rl4, s1.trans s4, e'⟩
     | ct ρ2 => exact fun F4 H4 σ4 rl4 s4 => ⟨F4, ρ2, rl4, s1.trans s4, e'⟩
     | bk ρ2 => cases e'; exact fun F4 H4 σ4 rl4 s4 => ok F4 H4 σ4 rl4 (s1.trans s4)
     | rt d => cases e'; exact ok
     | rf d => cases e'; exact ok
     | rp d ds => cases e'; exact ok
     | rg d p r => cases e'; exact ok
     | rgf d p r => cases e'; exact ok
inductive Rt where
 | sh (d : D) | fr (ds : List D) | pr (d : D) (ds : List D)
noncomputable abbrev MF := List D -> Option Rt
noncomputable def okT (K : W.Frag) (F H : Hp) (Q : VK) : Rt -> Prop
 | .sh d => ∀ v F' H', Ext F H F' H' -> Rep K F' v d -> Q v H'
 | .fr ds => ∀ p xs F' H', Ext F H F' H' -> H p = none -> F' p = none -> H' p = some (.lst xs) -> Reps K F' xs ds -> Q (.ref p) H'
 | .pr d ds => ∀ t v p xs F' H', Ext F H F' H' -> H t = none -> H p = none -> t ≠ p -> F' t = none -> F' p = none -> H' t = some (.tup [v, .ref p]) -> H' p = some (.lst xs) -> Rep K F' v d -> Reps K F' xs ds -> Q (.ref t) H'
def spR (K : W.Frag) (n : Nat) (m : MF) : Sp := fun vs H Q _ => vs.length = n /\ ∃ F ds r, Same F H /\ Reps K F vs ds /\ m ds = some r /\ okT K F H Q r
noncomputable def startS (n : Nat) (ds : List D) : Ro := ds.map (fun d => some (.sh d)) ++ List.replicate (n - ds.length) none
noncomputable def runB (n : Nat) (m : MS) : MF := fun ds => match m (startS n ds) with
 | some (.nx _) => some (.sh .non)
 | some (.rt d) => some (.sh d)
 | some (.rf es) => some (.fr es)
 | some (.rp d es) => some (.pr d es)
 | _ => none
theorem rl_start {K : W.Frag} {F H : Hp} {N : List Str} {vs : List V} {ds : List D} (s : Same F H) (r : Reps K F vs ds) : Rl K F H F H (start N vs) (startS N.length ds) := by
 have get : ∀ (i : Nat) x, (startS N.length ds)[i]? = some (some x) -> ∃ d, x = S.sh d /\ ds[i]? = some d := fun i x e => by
  unfold startS at e
  by_cases hi : i < ds.length
  ·rw [getElem?_append_left (by simpa using hi), getElem?_map] at e
   cases q : ds[i]? with
   | none => rw [q] at e; cases e
   | some d => rw [q] at e; cases e; exact ⟨d, rfl, rfl⟩
  ·rw [getElem?_append_right (by simpa using hi), getElem?_replicate] at e
   split at e <;> cases e
 refine ⟨.refl s, ?_, fun i d e => ?_, fun i ds e => ?_, fun i j p ds es _ e => ?_, fun i p ds e => ?_, fun i j p ds es e => ?_, fun i j p q ds es e => ?_⟩
 ·unfold start startS; simp [r.length]
 ·obtain ⟨d', e1, e2⟩ := get i _ e
  cases e1
  obtain ⟨v, e3, e4⟩ := r.get e2
  have hl : i < vs.length := (List.getElem?_eq_some_iff.mp e3).1
  refine ⟨v, ?_, e4⟩
  unfold start
  rw [getElem?_append_left (by simpa using hl), getElem?_map, e3]; rfl
 ·obtain ⟨d', e1, _⟩ := get i _ e
  cases e1
 ·obtain ⟨d', e1, _⟩ := get i _ e
  cases e1
 ·obtain ⟨d', e1, _⟩ := get i _ e
  cases e1
 ·obtain ⟨d', e1, _⟩ := get i _ e
  cases e1
 ·obtain ⟨d', e1, _⟩ := get i _ e
  cases e1
theorem Fun.okD {P : Program} {w : World} {K : W.Frag} {mg : Str -> Option Value} {base : Heap} {x qual : Str} {st : Stmt} {f : Addr} {fd : FuncData} {N ps : List Str} {k : Nat} {m : MS} (Fn : Fun K x qual st f fd) (Sc : FnScope N ps (defScope st))
  (hbody : ∀ (cdv : Value) (A : Around) (outer : List Env) (s : Shared) (H : Hp) (E : XK), Room k (A.deeper (envOfC qual (defScope st) s.heap.objs.size f cdv)) -> PSsd (cxOf CX0 P w K mg base N qual (defScope st) f cdv A outer s H E).nox (defBody st) m) :
  FnOk P w K mg base CX0 (k + 1) f fd ps (spR K ps.length (runB N.length m)) := by
 refine Fn.ok Sc (fun vs H Q E h => h.1) fun cdv A outer s H vs Q E hr h => ?_
 obtain ⟨hl, F, ds, r, sf, rs, e, ok⟩ := h
 unfold runB at e
 cases h1 : m (startS N.length ds) with
 | none => rw [h1] at e; cases e
 | some o =>
  rw [h1] at e
  refine ⟨_, hbody cdv A outer s H E hr, F, H, F, startS N.length ds, o, rl_start sf rs, h1, ?_⟩
  cases o with
  | nx ρ => cases e; exact fun F' H' σ' rl _ => ok .non F' H' rl.ext .non
  | rt d => cases e; exact ok
  | rf es => cases e; exact ok
  | rp d es => cases e; exact ok
  | rg d p r => cases e
  | rgf d p r => cases e
  | bk ρ => cases e
  | ct ρ => cases e
@[irreducible] noncomputable def mcall (f : MF) (m : ML) : ME := fun ρ => (m ρ).bind fun ds => match f ds with | some (.sh d) => some d | some (.fr es) => some (.lst es) | some (.pr d es) => some (.tup [d, .lst es]) | none => none
variable {E : XK} {es : List Expr} {mf : MF} {m : ML}
theorem pd_call {n : Nat} (h : ∀ t, PA X es t -> PE X e (tCall (spR X.K n mf) [] E t)) (hl : es.length = n) (ha : PAs X es m) (hm : ∀ ρ ds, m ρ = some ds -> ds.length = es.length) : PD X e (mcall mf m) := (h _ ha).imp fun σ H Q hpat => by
 obtain ⟨F0, H0, F, ρ, d, rl, e, q⟩ := hpat
 unfold mcall at e
 cases h1 : m ρ with
 | none => rw [h1] at e; cases e
 | some ds =>
  rw [h1] at e
  refine ⟨F0, H0, F, ρ, ds, rl, h1, fun vs F1 H1 x1 r1 => ?_⟩
  dsimp only [Option.bind] at e
  show spR X.K n mf (vs ++ []) H1 Q E
  rw [append_nil]
  refine ⟨by rw [r1.length, hm ρ ds h1, hl], F1, ds, ?_⟩
  split at e
  ·rename_i d' h2
   cases e
   exact ⟨_, x1.fh, r1, h2, fun v F2 H2 x2 r2 => q v F2 H2 (x1.trans x2) r2⟩
  ·rename_i es' h2
   cases e
   exact ⟨_, x1.fh, r1, h2, fun p xs F2 H2 x2 hp hF hH r2 => q _ (upd F2 p (.lst xs)) H2 (x1.trans (x2.freeze hF hp hH)) (.lst (SqL.of upd_same) (r2.mono ((Same.refl F2).put hF)))⟩
  ·rename_i d' es' h2
   cases e
   refine ⟨_, x1.fh, r1, h2, fun t v p xs F2 H2 x2 ht hp hne hFt hFp hHt hHp rv rs => ?_⟩
   have x3 := x2.freeze hFp hp hHp
   have hFt' : upd F2 p (.lst xs) t = none := by rw [upd_ne hne]; exact hFt
   have s2 : Same F2 (upd F2 p (.lst xs)) := (Same.refl F2).put hFp
   have s3 : Same (upd F2 p (.lst xs)) (upd (upd F2 p (.lst xs)) t (.tup [v, .ref p])) := (Same.refl _).put hFt'
   exact q _ (upd (upd F2 p (.lst xs)) t (.tup [v, .ref p])) H2 (x1.trans (x3.freeze hFt' ht hHt)) (.tup (SqT.of upd_same) (.cons (rv.mono (s2.trans s3)) (.cons (.lst (SqL.of (by rw [upd_ne (Ne.symm hne)]; exact upd_same)) (rs.mono (s2.trans s3))) .nil)))
  ·cases e
theorem anil_len (ρ : Ro) (ds : List D) (h : anil ρ = some ds) : ds.length = 0 := by cases h; rfl
theorem acons_len {x : ME} {r : ML} {n : Nat} (hr : ∀ ρ ds, r ρ = some ds -> ds.length = n) (ρ : Ro) (ds : List D) (h : acons x r ρ = some ds) : ds.length = n + 1 := by
 obtain ⟨d, es, _, h2, rfl⟩ := acons_some h
 rw [length_cons, hr ρ es h2]
end
end
section
section
variable {X : Cx} {a b c e : Expr} {ma mb : ME} {pos : Pos}
noncomputable def bl2 (g : Bool -> Bool -> Bool) : D -> D -> Option D
 | .bl i, .bl j => some (.bl (g i j))
 | _, _ => none
def rRng1 : List V -> Hp -> VK -> Prop := fun vs H Q => ∃ j : Int, vs = [.int j] /\ ∀ p, H p = none -> Q (.ref p) (upd H p (.rng 0 j))
theorem call_rng1 : CallR X (.type "range") rRng1 := by
 intro pins s σ H xs us Q I r h
 obtain ⟨j, rfl, q⟩ := h
 obtain ⟨u, rfl, t, rfl⟩ := vals1 r
 refine call_range_1 ⟨.ref s.heap.objs.size, _, I.laid (o := .rng 0 j) (fun b o e => Heap.get?_push_of_some _ e) (Nat.le_refl _) ⟨_, _, _, Heap.get?_push_size _ rfl⟩, rfl, q _ I.fresh⟩
noncomputable def vrange (lo : Int) (n : Nat) : List V := (List.range n).map fun (i : Nat) => V.int (lo + (i : Int))
theorem two24 : 2 ^ 24 <= sizeLine := by rw [sizeLine_eq]; decide
def rListR : List V -> Hp -> VK -> Prop := fun vs H Q => ∃ p lo hi, vs = [.ref p] /\ H p = some (.rng lo hi) /\ -(2 ^ 62) <= lo /\ lo < 2 ^ 62 /\ -(2 ^ 62) <= hi /\ hi < 2 ^ 62 /\ (hi - lo).toNat <= 2 ^ 24 /\ ∀ l, H l = none -> Q (.ref l) (upd H l (.lst (vrange lo (hi - lo).toNat)))
theorem vals_range {lo : Int} {n : Nat} {acc : Array Value} (h : ItemsOf (fun i v => ∃ t, v = Value.int (lo + i * 1) t) acc n) : Vals (vrange lo n) acc.toList := by
 have hl : (vrange lo n).length = acc.toList.length := by unfold vrange; simp [h.1]
 have key : ∀ (xs : List V) (us : List Value), xs.length = us.length -> (∀ (i : Nat) x u, xs[i]? = some x -> us[i]? = some u -> RelV x u) -> Vals xs us := by
  intro xs
  induction xs with
  | nil => intro us hl _; cases us with
   | nil => exact .nil
   | cons => cases hl
  | cons x xs ih => intro us hl hr; cases us with
   | nil => cases hl
   | cons u us => exact .cons (hr 0 x u rfl rfl) (ih us (by simpa using hl) fun i y w h1 h2 => hr (i + 1) y w (by simpa using h1) (by simpa using h2))
 refine key _ _ hl fun i x u h1 h2 => ?_
 have h2 : acc[i]? = some u := by simpa using h2
 obtain ⟨t, rfl⟩ := h.2 i u h2
 have hi : i < n := by
  have := (Array.getElem?_eq_some_iff.mp h2).1
  rw [h.1] at this; exact this
 unfold vrange at h1
 rw [getElem?_map, getElem?_range hi] at h1
 cases h1
 exact ⟨t, by rw [Int.mul_one]⟩
theorem call_listR (hc : X.calm = true) : CallR X (.type "list") rListR := by
 intro pins s σ H xs us Q I r h
 obtain ⟨p, lo, hi, rfl, hp, b1, b2, b3, b4, hn, q⟩ := h
 obtain ⟨u, rfl, rx⟩ := vals1 r
 cases rx
 obtain ⟨t, u, v, e⟩ := I.hok p _ hp
 have hsz : Builtin.Range.rangeSize lo hi 1 = (((hi - lo).toNat : Nat) : Int) := by rw [rangeSize_one]; split <;> omega
 refine call_list_range (I.ok.hd hc) e (small_one b1 b2 b3 b4) hsz hn fun h' tk acc' c' hk hS' hacc => ?_
 refine ⟨.ref s.heap.objs.size, _, I.laid (t' := tk) (o := .lst (vrange lo (hi - lo).toNat)) hk (Nat.le_refl _) ⟨?_, acc'.toList, c', vals_range hacc, by simpa using hS'⟩, rfl, q _ I.fresh⟩
 unfold vrange
 rw [length_map, length_range]
 exact Nat.le_trans hn two24
theorem reps_range {K : W.Frag} {F : Hp} (lo : Int) (n : Nat) : Reps K F (vrange lo n) (rangeD lo n) := by
 unfold vrange rangeD
 induction (List.range n) with
 | nil => exact .nil
 | cons i is ih => exact .cons (.int _) ih
noncomputable def lrng1 : List D -> Option (List D)
 | [.int j] => if (okR j && decide (j.toNat <= 2 ^ 24)) = true then some (rangeD 0 j.toNat) else none
 | _ => none
theorem pf_listR1 {pl pr : Pos} {pos' : Pos} {m : ML} (hc : X.calm = true) (hg : Gl X "list") (hm : X.mg "list" = none) (hg' : Gl X "range") (hm' : X.mg "range" = none) (ha : PAs X [a] m)
  (he : starEach [a] X.env = (false, eval a X.env) :: starEach [] X.env := by rfl) (hpl : ∀ pos, (backTo pos (starEach [] X.env)).any (·.1) = false := by intro _; rfl)
  (hs : starEach (Expr.Call (.Name "range" pr) [a] [] pos' :: []) X.env = (false, eval (Expr.Call (.Name "range" pr) [a] [] pos') X.env) :: starEach [] X.env := by rfl) : PF X (.Call (.Name "list" pl) [.Call (.Name "range" pr) [a] [] pos'] [] pos) (mlist lrng1 m) :=
 (pe_callTy (call_listR hc) hg hm PyProof.Rows.boot_list (pa_cons (pe_callTy call_rng1 hg' hm' boot_range ha (by decide) (by decide) he (hpl _)) pa_nil hs) (by decide) (by decide) hs (hpl _)).imp fun σ H Q hpat => by
 obtain ⟨F0, H0, F, ρ, its, rl, e, q⟩ := hpat
 obtain ⟨ds, h1, h2⟩ := mlist_some e
 refine ⟨F0, H0, F, ρ, ds, rl, h1, fun vs F1 H1 x1 r1 => ?_⟩
 unfold lrng1 at h2
 split at h2
 ·rename_i j
  split at h2
  ·rename_i hk
   cases h2
   unfold okR at hk
   simp only [Bool.and_eq_true, decide_eq_true_eq] at hk
   cases r1 with
   | cons r rr =>
    cases rr; cases r
    refine ⟨j, rfl, fun p hp => ⟨p, 0, j, rfl, upd_same, by decide, by decide, hk.1.1, hk.1.2, by simpa using hk.2, fun l hl => ?_⟩⟩
    have x2 : Ext F1 H1 F1 (upd H1 p (.rng 0 j)) := Ext.own x1.fh hp
    have x3 := Ext.own (o := .lst (vrange 0 (j - 0).toNat)) x2.fh hl
    have xx := (x1.trans x2).trans x3
    have hj : (j - 0).toNat = j.toNat := by simp
    refine q l _ F1 _ xx ((x1.trans x2).hh.free hl) (x2.fh.free hl) upd_same ?_
    rw [hj]
    exact reps_range 0 j.toNat
  ·cases h2
 ·cases h2
theorem reps_ints {K : W.Frag} {F : Hp} : ∀ ns : List Int, Reps K F (ns.map V.int) (ns.map D.int)
 | [] => .nil
 | n :: ns => .cons (.int n) (reps_ints ns)
theorem sp_Z18 {K : W.Frag} {m : MF} (h : ∀ ns : List Int, ns.length <= 63 -> m [.lst (ns.map .int)] = some (.sh (.bl true))) (H : Hp) (a : Addr) (ns : List Int) (hl : ns.length <= 63) (hS : SqL K H a (ns.map V.int)) (E : XK) :
  spR K 1 m [.ref a] H (fun v _ => v = .bl true) E :=
 ⟨rfl, H, _, _, Same.refl H, .cons (.lst hS (reps_ints ns)) .nil, h ns hl, fun v F' H' _ r => by cases r; rfl⟩
end
end
section
noncomputable def blkOk (fsc : Scope) (fN : List Str) (sc : Scope) (N : List Str) (src : List (Option Nat)) : Bool :=
 (sc.kind == .function) && sc.names.all (fun y => y.2 != .cell) && sc.names.all (fun y => y.2 != .local || sc.names.lookup y.1 == some .local)
  && sc.names.all (fun y => y.2 != .free || (fsc.names.lookup y.1 == some .cell || fsc.names.lookup y.1 == some .free)) && (src.length == N.length)
  && (List.range src.length).all fun j => match src[j]? with
   | some (some i) => match N[j]? with
    | some x => fN[i]? == some x && sc.names.lookup x == some .free
    | none => false
   | _ => true
theorem blk_of {X : Cx} {sc : Scope} {N : List Str} {src : List (Option Nat)} (fsc : Scope) (fN : List Str) (h1 : X.env.scope = fsc) (h2 : X.N = fN) (h : blkOk fsc fN sc N src = true) : Blk X sc N src := by
 unfold blkOk at h
 simp only [Bool.and_eq_true, all_eq_true, beq_iff_eq, Bool.or_eq_true, bne_iff_ne, ne_eq] at h
 obtain ⟨⟨⟨⟨⟨a1, a2⟩, a3⟩, a4⟩, a5⟩, a6⟩ := h
 refine ⟨a1, a2, fun y hy hk => ?_, fun y hy hk => ?_, fun j i e => ?_, a5⟩
 ·rcases a3 y hy with z | z
  ·exact absurd hk z
  ·exact z
 ·have k : ∀ x, X.env.kindOf x = fsc.names.lookup x := fun x => by rw [<- h1]; rfl
  rw [k]
  rcases a4 y hy with z | z
  ·exact absurd hk z
  ·exact z
 ·have hj : j < src.length := (List.getElem?_eq_some_iff.mp e).1
  have := a6 j (List.mem_range.mpr hj)
  rw [e] at this
  simp only at this
  cases hx : N[j]? with
  | none => rw [hx] at this; cases this
  | some x =>
   rw [hx] at this
   simp only [Bool.and_eq_true, beq_iff_eq] at this
   exact ⟨x, rfl, by rw [h2]; exact this.1, this.2⟩
end
section
theorem pf_sl {X : Cx} {a : Expr} {ml : ML} {lo hi : Option Expr} {l h : MO} {p2 pos : Pos} (ha : PB X a ml) (hl : POs X lo l) (hh : POs X hi h) : PF X (.Subscript a (.Slice lo hi none p2) pos) (mcut ml l h) := pf_cut ha hl hh (pe_slice sl_list ha hl hh)
end
section
noncomputable def zipE (f : D -> D -> Option Bool) : List D -> List D -> Option Bool
 | d :: ds, e :: es => (f d e).bind fun a => (zipE f ds es).bind fun b => some (a && b)
 | _, _ => some true
noncomputable def eqF : Nat -> D -> D -> Option Bool
 | 0, _, _ => none
 | n + 1, .lst ds, .lst es => if ds.length = es.length then zipE (eqF n) ds es else some false
 | n + 1, .tup ds, .tup es => (zipE (eqF n) ds es).map fun b => b && ds.length == es.length
 | _ + 1, d, e => eqS d e
theorem zipE_all {f : D -> D -> Option Bool} : ∀ {ds es : List D} {k : Bool}, zipE f ds es = some k -> ∃ g : Nat -> Bool, (∀ j d e, ds[j]? = some d -> es[j]? = some e -> f d e = some (g j)) /\ k = (List.range (min ds.length es.length)).all g
 | [], es, k, h => by
  have h : some true = some k := by simpa [zipE] using h
  cases h
  exact ⟨fun _ => true, by simp, by simp⟩
 | _ :: _, [], k, h => by
  have h : some true = some k := by simpa [zipE] using h
  cases h
  exact ⟨fun _ => true, by simp, by simp⟩
 | d :: ds, e :: es, k, h => by
  unfold zipE at h
  cases h1 : f d e with
  | none => rw [h1] at h; cases h
  | some a =>
   rw [h1] at h
   cases h2 : zipE f ds es with
   | none => rw [h2] at h; cases h
   | some b =>
    rw [h2] at h
    have h : some (a && b) = some k := h
    cases h
    obtain ⟨g, q1, q2⟩ := zipE_all h2
    refine ⟨fun j => match j with | 0 => a | j + 1 => g j, ?_, ?_⟩
    ·intro j d' e' hd he
     cases j with
     | zero => simp at hd he; subst hd he; exact h1
     | succ j => exact q1 j d' e' (by simpa using hd) (by simpa using he)
    ·rw [q2, length_cons, length_cons, Nat.add_min_add_right, range_succ_eq_map, all_cons, all_map]
     rfl
section
variable {X : Cx} {pins : List (Addr × Obj)} {σ : St} {H : Hp} {s : Shared}
theorem zipE_same {f : D -> D -> Option Bool} (hf : ∀ {v : V} {d e : D} {k : Bool}, Rep X.K H v d -> Rep X.K H v e -> f d e = some k -> k = true) : ∀ {vs : List V} {ds es : List D} {k : Bool}, Reps X.K H vs ds -> Reps X.K H vs es -> zipE f ds es = some k -> k = true
 | _, _, _, _, .nil, .nil, h => by simp [zipE] at h; exact h
 | _ :: _, d :: ds, e :: es, k, .cons r1 s1, .cons r2 s2, h => by
  unfold zipE at h
  cases h1 : f d e with
  | none => rw [h1] at h; cases h
  | some a =>
   rw [h1] at h
   cases h2 : zipE f ds es with
   | none => rw [h2] at h; cases h
   | some b =>
    rw [h2] at h
    have h : some (a && b) = some k := h
    cases h
    rw [hf r1 r2 h1, zipE_same hf s1 s2 h2]; rfl
theorem Rep.eqT (I : Inv X pins σ H s) : ∀ (n : Nat) {v : V} {d e : D} {k : Bool}, Rep X.K H v d -> Rep X.K H v e -> eqF n d e = some k -> k = true
 | 0, _, _, _, _, _, _, h => by simp [eqF] at h
 | n + 1, v, d, e, k, r1, r2, h => by
  cases r1 with
  | non => cases r2; exact (Option.some.inj (show some true = some k from h)).symm
  | bl b => cases r2; exact (Option.some.inj (show some (b == b) = some k from h)).symm.trans (beq_self_eq_true b)
  | int b => cases r2; exact (Option.some.inj (show some (b == b) = some k from h)).symm.trans (beq_self_eq_true b)
  | str b => cases r2; exact (Option.some.inj (show some (b == b) = some k from h)).symm.trans (beq_self_eq_true b)
  | lst sq rs =>
   cases r2 with
   | lst sq2 rs2 =>
    have e := I.list_inj sq sq2
    subst e
    simp only [eqF] at h
    split at h
    ·exact zipE_same (fun a b c => Rep.eqT I n a b c) rs rs2 h
    ·rename_i hl; exact absurd (rs.length.symm.trans rs2.length) hl
   | _ => cases h
  | tup sq rs =>
   cases r2 with
   | tup sq2 rs2 =>
    have e := I.tuple_inj sq sq2
    subst e
    simp only [eqF] at h
    cases hz : zipE (eqF n) _ _ with
    | none => rw [hz] at h; cases h
    | some kk =>
     rw [hz] at h
     have h := Option.some.inj h
     rw [<- h, zipE_same (fun a b c => Rep.eqT I n a b c) rs rs2 hz, rs.length.symm.trans rs2.length]
     simp
   | _ => cases h
  | _ => cases h
open PySem.SeqAt in
theorem eqS_at {K : W.Frag} {H : Hp} {A : Around} {s : Shared} {x y : V} {v u : Value} {d e : D} {k : Bool} (r1 : Rep K H x d) (r2 : Rep K H y e) (q1 : RelV x v) (q2 : RelV y u) (h : eqS d e = some k) : EqAt A s v u k /\ RcAt A s v u k /\ RcNeAt A s v u (!k) := by
 obtain ⟨k', hk'⟩ := eqS_sym d e k h
 rw [eqS_l h r1] at q1
 rw [eqS_l hk' r2] at q2
 clear r1 r2 hk'
 cases d with
 | non =>
  cases q1
  cases e with
  | non => cases q2; cases h; exact ⟨EqAt.same _, .none_none, .none_none⟩
  | bl b => cases q2; cases h; exact ⟨.none_bool _, .none_bool _, .none_bool _⟩
  | int b => obtain ⟨t, rfl⟩ := q2; cases h; exact ⟨.none_int _ _, .none_int _ _, .none_int _ _⟩
  | str b => obtain ⟨t, rfl⟩ := q2; cases h; exact ⟨.none_str _ _, .none_str _ _, .none_str _ _⟩
  | _ => cases h
 | bl i =>
  cases q1
  cases e with
  | non => cases q2; cases h; exact ⟨.bool_none _, .bool_none _, .bool_none _⟩
  | bl b => cases q2; cases h; exact ⟨.bool_bool _ _, .bool_bool _ _, .bool_bool _ _⟩
  | str b => obtain ⟨t, rfl⟩ := q2; cases h; exact ⟨.bool_str _ _ _, .bool_str _ _ _, .bool_str _ _ _⟩
  | _ => cases h
 | int i =>
  obtain ⟨t0, rfl⟩ := q1
  cases e with
  | non => cases q2; cases h; exact ⟨.int_none _ _, .int_none _ _, .int_none _ _⟩
  | int b => obtain ⟨t, rfl⟩ := q2; cases h; exact ⟨.int_int _ _ _ _, .int_int _ _ _ _, .int_int _ _ _ _⟩
  | str b => obtain ⟨t, rfl⟩ := q2; cases h; exact ⟨.int_str _ _ _ _, .int_str _ _ _ _, .int_str _ _ _ _⟩
  | _ => cases h
 | str i =>
  obtain ⟨t0, rfl⟩ := q1
  cases e with
  | non => cases q2; cases h; exact ⟨.str_none _ _, .str_none _ _, .str_none _ _⟩
  | bl b => cases q2; cases h; exact ⟨.str_bool _ _ _, .str_bool _ _ _, .str_bool _ _ _⟩
  | int b => obtain ⟨t, rfl⟩ := q2; cases h; exact ⟨.str_int _ _ _ _, .str_int _ _ _ _, .str_int _ _ _ _⟩
  | str b => obtain ⟨t, rfl⟩ := q2; cases h; exact ⟨.str_str _ _ _ _, .str_str _ _ _ _, .str_str _ _ _ _⟩
  | _ => cases h
 | _ => cases h
theorem eqF_inv {n : Nat} {d e : D} {k : Bool} (h : eqF (n + 1) d e = some k) : eqS d e = some k \/ (∃ ds es, d = .lst ds /\ e = .lst es /\ (if ds.length = es.length then zipE (eqF n) ds es else some false) = some k) \/ ∃ ds es kk, d = .tup ds /\ e = .tup es /\ zipE (eqF n) ds es = some kk /\ (kk && ds.length == es.length) = k := by
 cases d with
 | lst ds =>
  cases e with
  | lst es => exact .inr (.inl ⟨ds, es, rfl, rfl, h⟩)
  | _ => exact .inl h
 | tup ds =>
  cases e with
  | tup es =>
   have h : ((zipE (eqF n) ds es).map fun b => b && ds.length == es.length) = some k := h
   cases hz : zipE (eqF n) ds es with
   | none => rw [hz] at h; cases h
   | some kk => rw [hz] at h; exact .inr (.inr ⟨ds, es, kk, rfl, rfl, hz, Option.some.inj h⟩)
  | _ => exact .inl h
 | _ => exact .inl h
theorem items_at {K : W.Frag} {H : Hp} {A : Around} {s : Shared} {n : Nat} {xs ys : List V} {ds es : List D} {its its2 : List Value} {g : Nat -> Bool} (ih : ∀ {x y : V} {v u : Value} {d e : D} {k : Bool}, Rep K H x d -> Rep K H y e -> RelV x v -> RelV y u -> eqF n d e = some k -> PySem.SeqAt.EqAt A s v u k) (rs : Reps K H xs ds) (rs2 : Reps K H ys es) (vr : Vals xs its) (vr2 : Vals ys its2)
  (g1 : ∀ (j : Nat) d e, ds[j]? = some d -> es[j]? = some e -> eqF n d e = some (g j)) (j : Nat) (h1 : j < its.toArray.size) (h2 : j < its2.toArray.size) : PySem.SeqAt.EqAt A s its.toArray[j] its2.toArray[j] (g j) := by
 have z1 : its.length = ds.length := by rw [<- vr.length, rs.length]
 have z2 : its2.length = es.length := by rw [<- vr2.length, rs2.length]
 simp only [size_toArray] at h1 h2
 obtain ⟨d', hd'⟩ : ∃ d', ds[j]? = some d' := ⟨_, getElem?_eq_getElem (z1 ▸ h1)⟩
 obtain ⟨e', he'⟩ : ∃ e', es[j]? = some e' := ⟨_, getElem?_eq_getElem (z2 ▸ h2)⟩
 obtain ⟨v', hv', rv'⟩ := rs.get hd'
 obtain ⟨u', hu', ru'⟩ := rs2.get he'
 obtain ⟨p, hp, rp⟩ := vr.get hv'
 obtain ⟨p2, hp2, rp2⟩ := vr2.get hu'
 have e1 : its.toArray[j] = p := by
  rw [getElem?_eq_getElem h1] at hp
  simpa using hp
 have e2 : its2.toArray[j] = p2 := by
  rw [getElem?_eq_getElem h2] at hp2
  simpa using hp2
 rw [e1, e2]
 exact ih rv' ru' rp rp2 (g1 j d' e' hd' he')
open PySem.SeqAt in
theorem eq_at (I : Inv X pins σ H s) : ∀ (n : Nat) {A : Around} {x y : V} {v u : Value} {d e : D} {k : Bool}, A.units + n < cLine -> Rep X.K H x d -> Rep X.K H y e -> RelV x v -> RelV y u -> eqF n d e = some k -> EqAt A s v u k /\ RcAt A s v u k /\ RcNeAt A s v u (!k)
 | 0, A, x, y, v, u, d, e, k, hu, r1, r2, q1, q2, h => by simp [eqF] at h
 | n + 1, A, x, y, v, u, d, e, k, hu, r1, r2, q1, q2, h => by
  have hu0 : A.units < cLine := by omega
  have hu1 : A.in1.units + n < cLine := by show A.units + 1 + n < cLine; omega
  rcases eqF_inv h with h1 | ⟨ds, es, rfl, rfl, h1⟩ | ⟨ds, es, kk, rfl, rfl, hz, hk⟩
  ·exact eqS_at r1 r2 q1 q2 h1
  ·obtain ⟨a, xs, rfl, sq, rs⟩ := r1.l'
   obtain ⟨b, ys, rfl, sq2, rs2⟩ := r2.l'
   cases q1; cases q2
   obtain ⟨its, vr, ⟨o, m, ho, hc, _, hd⟩, _⟩ := I.list sq
   obtain ⟨its2, vr2, ⟨o2, m2, ho2, hc2, _, hd2⟩, _⟩ := I.list sq2
   have L1 : s.heap.IsList a its.toArray := ⟨o, ho, hc, m, hd⟩
   have L2 : s.heap.IsList b its2.toArray := ⟨o2, ho2, hc2, m2, hd2⟩
   clear ho hc hd ho2 hc2 hd2
   have z1 : its.length = ds.length := by rw [<- vr.length, rs.length]
   have z2 : its2.length = es.length := by rw [<- vr2.length, rs2.length]
   have main : RcAt A s (.ref a) (.ref b) k /\ RcNeAt A s (.ref a) (.ref b) (!k) := by
    by_cases hl : ds.length = es.length
    ·rw [if_pos hl] at h1
     obtain ⟨g, g1, g2⟩ := zipE_all h1
     have he := items_at (fun a b c d e => (eq_at I n hu1 a b c d e).1) rs rs2 vr vr2 g1
     have hz : its.toArray.size = its2.toArray.size := by simp only [size_toArray]; rw [z1, z2, hl]
     have hk : k = (List.range its.toArray.size).all g := by
      rw [g2]; simp only [size_toArray]; rw [z1, hl, Nat.min_self]
     rw [hk]
     exact ⟨.lists L1 L2 hz hu0 he, .lists L1 L2 hz hu0 he⟩
    ·rw [if_neg hl] at h1
     cases h1
     have hz : (its.toArray.size != its2.toArray.size) = true := by simp only [size_toArray]; rw [z1, z2]; exact bne_iff_ne.mpr hl
     exact ⟨.lists_lengths L1 L2 hz hu0, .lists_lengths L1 L2 hz hu0⟩
   refine ⟨?_, main⟩
   by_cases hab : a = b
   ·subst hab
    rw [Rep.eqT I (n + 1) (.lst sq rs) (.lst sq2 rs2) h]
    exact EqAt.same _
   ·exact .of_refs hab main.1
  ·obtain ⟨a, xs, rfl, sq, rs⟩ := r1.t'
   obtain ⟨b, ys, rfl, sq2, rs2⟩ := r2.t'
   cases q1; cases q2
   obtain ⟨its, vr, ⟨o, ho, hc, m, hd⟩, _⟩ := I.tuple sq
   obtain ⟨its2, vr2, ⟨o2, ho2, hc2, m2, hd2⟩, _⟩ := I.tuple sq2
   have L1 : s.heap.IsTuple a its.toArray := ⟨o, ho, hc, m, hd⟩
   have L2 : s.heap.IsTuple b its2.toArray := ⟨o2, ho2, hc2, m2, hd2⟩
   clear ho hc hd ho2 hc2 hd2
   have z1 : its.length = ds.length := by rw [<- vr.length, rs.length]
   have z2 : its2.length = es.length := by rw [<- vr2.length, rs2.length]
   have main : RcAt A s (.ref a) (.ref b) k /\ RcNeAt A s (.ref a) (.ref b) (!k) := by
    obtain ⟨g, g1, g2⟩ := zipE_all hz
    have he := items_at (fun a b c d e => (eq_at I n hu1 a b c d e).1) rs rs2 vr vr2 g1
    have hk : k = ((List.range (min its.toArray.size its2.toArray.size)).all g && its.toArray.size == its2.toArray.size) := by
     rw [<- hk, g2]; simp only [size_toArray]; rw [z1, z2]
    rw [hk]
    exact ⟨.tuples L1 L2 hu0 he, .tuples L1 L2 hu0 he⟩
   refine ⟨?_, main⟩
   by_cases hab : a = b
   ·subst hab
    rw [Rep.eqT I (n + 1) (.tup sq rs) (.tup sq2 rs2) h]
    exact EqAt.same _
   ·exact .of_refs hab main.1
end
end
section
section
variable {X : Cx} {a b c e : Expr} {ma mb : ME} {la lb : ML} {pos : Pos}
def rEqF (K : W.Frag) (neg : Bool) : R2 := fun x y H Q => ∃ d e k, Rep K H x d /\ Rep K H y e /\ eqF 8 d e = some k /\ Q (.bl (if neg then !k else k)) H
theorem op_eqF (hu : X.A.units + 64 < cLine) : OpR X (compareOp .Eq) (rEqF X.K false) := by
 intro pins s σ H x y v u Q I rx ry h
 obtain ⟨d, e, k, r1, r2, h, q⟩ := h
 exact (eq_at I 8 (by omega) r1 r2 rx ry h).2.1 X.prog X.w _ _ ⟨.bl k, H, I, rfl, q⟩
theorem op_neF (hu : X.A.units + 64 < cLine) : OpR X (compareOp .NotEq) (rEqF X.K true) := by
 intro pins s σ H x y v u Q I rx ry h
 obtain ⟨d, e, k, r1, r2, h, q⟩ := h
 exact (eq_at I 8 (by omega) r1 r2 rx ry h).2.2 X.prog X.w _ _ ⟨.bl (!k), H, I, rfl, q⟩
noncomputable def eqFD (neg : Bool) (d e : D) : Option D := (eqF 8 d e).map fun k => .bl (if neg then !k else k)
@[irreducible] noncomputable def meqB (neg : Bool) (x y : ML) : ME := fun ρ => (x ρ).bind fun ds => (y ρ).bind fun es => eqFD neg (.lst ds) (.lst es)
theorem eqB_d {neg : Bool} {σ : St} {H : Hp} {Q : VK} (h : TD X.K (meqB neg la lb) σ H Q) : tOp (rEqF X.K neg) (TB X.K la) (TB X.K lb) σ H Q := by
 obtain ⟨F0, H0, F, ρ, g, rl, e, q⟩ := h
 unfold meqB at e
 cases h1 : la ρ with
 | none => rw [h1] at e; cases e
 | some ds =>
  cases h2 : lb ρ with
  | none => rw [h1, h2] at e; cases e
  | some es =>
   rw [h1, h2] at e
   have e : eqFD neg (.lst ds) (.lst es) = some g := e
   refine ⟨F0, H0, F, ρ, ds, rl, h1, fun p xs F1 H1 x1 s1 r1 => ⟨F0, H0, F1, ρ, es, rl.go x1, h2, fun p2 xs2 F2 H2 x2 s2 r2 => ?_⟩⟩
   unfold eqFD at e
   cases hk : eqF 8 (.lst ds) (.lst es) with
   | none => rw [hk] at e; cases e
   | some k =>
    rw [hk] at e; cases e
    exact ⟨_, _, k, .lst (x2.hh.seq s1) (r1.mono (x2.ff.trans x2.fh)), .lst s2 (r2.mono x2.fh), hk, q _ F2 H2 (x1.trans x2) (.bl _)⟩
theorem pd_eqB {op : CmpOp} {neg : Bool} (ho : OpR X (compareOp op) (rEqF X.K neg)) (ha : PB X a la) (hb : PB X b lb) (hm : behindInMarks op b = false) : PD X (.Compare a [op] [b] pos) (meqB neg la lb) := (pe_cmpR ho ha hb hm).imp fun _ _ _ h => eqB_d h
theorem pc_eqB {op : CmpOp} {neg : Bool} (ho : OpR X (compareOp op) (rEqF X.K neg)) (ha : PB X a la) (hb : PB X b lb) (hm : behindInMarks op b = false) : PC' X (.Compare a [op] [b] pos) (mtest (meqB neg la lb)) := (pt_cmpR ho ha hb hm).imp fun σ H Q hpat => by
 obtain ⟨F0, H0, F, ρ, g, rl, e, q⟩ := hpat
 unfold mtest at e
 split at e
 ·rename_i k hk
  cases e
  refine eqB_d ⟨F0, H0, F, ρ, .bl g, rl, hk, fun v F' H' x r => ?_⟩
  cases r
  exact ⟨_, rfl, q F' H' x⟩
 ·cases e
noncomputable def tyD : D -> String
 | .non => "NoneType" | .bl _ => "bool" | .int _ => "int" | .str _ => "str" | .lst _ => "list" | .tup _ => "tuple" | .exc _ => "?" | .ptr _ => "?" | .obj _ _ _ => "?"
noncomputable def kitB (t c : String) : Option Bool := if t = "?" then none else if (Value.type t == Value.type c) = true then some true else if W.kitMeta c = true then (fastBuiltinMro t).map (·.contains (Value.type c)) else none
theorem kit_ty {K : W.Frag} {t c : String} {k : Bool} (h : kitB t c = some k) : t ≠ "?" /\ W.kitOne K (.type t) (.type c) = some k := by
 unfold kitB at h
 split at h
 ·cases h
 ·rename_i z; exact ⟨z, h⟩
theorem isi_rep {pins : List (Addr × Obj)} {σ : St} {H : Hp} {s : Shared} {A : Around} {E : Value -> Shared -> Prop} {Q : Value -> Shared -> Prop} {c : Value} {k : Bool} {x : V} {d : D} {u : Value} (I : Inv X pins σ H s) (rx : RelV x u) (r : Rep X.K H x d)
  (e : tyD d ≠ "?" /\ W.kitOne X.K (.type (tyD d)) c = some k) (h : ∀ tk, Q (.bool k) { s with toks := tk }) : wpAny (model X.prog X.w) A (call (.builtin "isinstance") [u, c]) Q E s := by
 obtain ⟨hz, e⟩ := e
 cases r with
 | exc _ _ => exact absurd rfl hz
 | ptr _ => exact absurd rfl hz
 | obj _ _ _ _ _ => exact absurd rfl hz
 | non => exact isinst_ok I rx .non e h
 | bl y => exact isinst_ok I rx (.bl y) e h
 | int i => exact isinst_ok I rx (.int i) e h
 | str y => exact isinst_ok I rx (.str y) e h
 | lst sq rs =>
  cases rx
  obtain ⟨its, vr, ⟨o, m, ho, hc, _, hd⟩, _⟩ := I.list sq
  exact W.kia_one W.kitx_list I.kIn ⟨_, ho, hc⟩ e (fun z => nomatch z) h
 | tup sq rs =>
  cases rx
  obtain ⟨its, vr, ⟨o, ho, hc, m, hd⟩, _⟩ := I.tuple sq
  exact W.kia_one W.kitx_tuple I.kIn ⟨_, ho, hc⟩ e (fun z => nomatch z) h
def rIsi (K : W.Frag) (c : String) : List V -> Hp -> VK -> Prop := fun vs H Q => ∃ x d k, vs = [x, .ty c] /\ Rep K H x d /\ kitB (tyD d) c = some k /\ Q (.bl k) H
theorem call_isi {c : String} : CallR X (.builtin "isinstance") (rIsi X.K c) := by
 intro pins s σ H xs us Q I r h
 obtain ⟨x, d, k, rfl, rd, e, q⟩ := h
 obtain ⟨u, w, rfl, rx, ry⟩ := vals2 r
 cases ry
 exact isi_rep I rx rd (kit_ty e) fun tk => ⟨.bl k, H, I.tok _, rfl, q⟩
@[irreducible] noncomputable def misi (c : String) (m : ME) : ME := fun ρ => (m ρ).bind fun d => (kitB (tyD d) c).map .bl
theorem pd_isi {c : Str} {C : String} {p p2 : Pos} (hg : Gl X "isinstance") (hm : X.mg "isinstance" = none) (hgc : Gl X c) (hmc : X.mg c = none) (hv : bootBuiltins c = some (.type C)) (ha : PD X a ma)
  (hn : c ≠ "__name__" := by decide) (hd : (c == ("__debug__" : Str)) = false := by decide)
  (hs : starEach (a :: [.Name c p2]) X.env = (false, eval a X.env) :: starEach [.Name c p2] X.env := by rfl) (hs2 : starEach [.Name c p2] X.env = (false, eval (.Name c p2) X.env) :: starEach [] X.env := by rfl)
  (hpl : (backTo pos (starEach [.Name c p2] X.env)).any (·.1) = false := by rfl) : PD X (.Call (.Name "isinstance" p) [a, .Name c p2] [] pos) (misi C ma) :=
 (pe_callB (call_isi (c := C)) hg hm PyProof.Rows.boot_isinstance (pa_cons ha (pa_cons (pe_bltn (v := .ty C) hgc hmc hv rfl hn hd) pa_nil hs2) hs) (by decide) (by decide) hs hpl).imp fun σ H Q hpat => by
  obtain ⟨F0, H0, F, ρ, g, rl, e, q⟩ := hpat
  unfold misi at e
  cases h1 : ma ρ with
  | none => rw [h1] at e; cases e
  | some d =>
   rw [h1] at e
   have e : (kitB (tyD d) C).map D.bl = some g := e
   cases h2 : kitB (tyD d) C with
   | none => rw [h2] at e; cases e
   | some k =>
    rw [h2] at e; cases e
    exact ⟨F0, H0, F, ρ, d, rl, h1, fun v F1 H1 x1 r1 => ⟨v, d, k, rfl, r1.mono x1.fh, h2, q _ F1 H1 x1 (.bl _)⟩⟩
end
end
section
section
variable {X : Cx} {a b c e k : Expr} {te : TE} {ma mb : ME} {la lb : ML} {pos p2 : Pos} {st : Stmt}
end
end
section
section
variable {X : Cx} {a b c e : Expr} {ma mb : ME} {la lb : ML} {pos : Pos} {st : Stmt}
end
end
section
section
variable {K : W.Frag} {F0 H0 F H : Hp} {σ : St} {ρ : Ro}
end
noncomputable def isSc : D -> Bool
 | .lst _ => false
 | .tup _ => false
 | .exc _ => false
 | .ptr _ => false
 | .obj _ _ _ => false
 | _ => true
theorem sc_rep {K : W.Frag} {F G : Hp} {v : V} {d : D} (h : isSc d = true) (r : Rep K F v d) : Rep K G v d := by
 cases r with
 | non => exact .non
 | bl b => exact .bl b
 | int i => exact .int i
 | str x => exact .str x
 | lst _ _ => cases h
 | tup _ _ => cases h
 | exc _ _ => cases h
 | ptr _ => cases h
 | obj _ _ _ _ _ => cases h
end
section
section
variable {X : Cx} {a b c e : Expr} {ma mb mz : ME} {la lb : ML} {pos : Pos}
noncomputable def flV : D -> Option V
 | .non => some .non | .bl b => some (.bl b) | .int i => some (.int i) | .str x => some (.str x)
 | _ => none
noncomputable def flVs : List D -> Option (List V)
 | [] => some []
 | d :: r => match flV d with | some v => (match flVs r with | some vs => some (v :: vs) | none => none) | none => none
theorem flV_rep {K : W.Frag} {F : Hp} {v u : V} {d : D} (r : Rep K F v d) (h : flV d = some u) : v = u /\ flatV u = true := by
 cases r <;> cases h <;> exact ⟨rfl, rfl⟩
theorem flVs_reps {K : W.Frag} {F : Hp} : ∀ {vs us : List V} {ds : List D}, Reps K F vs ds -> flVs ds = some us -> vs = us /\ us.all flatV = true
 | _, _, _, .nil, h => by cases h; exact ⟨rfl, rfl⟩
 | _, _, _, .cons (d := d) (ds := ds) r t, h => by
  unfold flVs at h
  cases h1 : flV d with
  | none => rw [h1] at h; cases h
  | some u =>
   cases h2 : flVs ds with
   | none => rw [h1, h2] at h; cases h
   | some us =>
    rw [h1, h2] at h; cases h
    obtain ⟨a1, a2⟩ := flV_rep r h1
    obtain ⟨b1, b2⟩ := flVs_reps t h2
    subst a1 b1
    exact ⟨rfl, by rw [all_cons, a2, b2]; rfl⟩
noncomputable def inDs (neg : Bool) (d : D) (ds : List D) : Option D := match flV d, flVs ds with
 | some v, some vs => some (.bl (if neg then !inV v vs else inV v vs))
 | _, _ => none
noncomputable def inD (neg : Bool) : D -> D -> Option D
 | d, .lst ds => inDs neg d ds
 | d, .tup ds => inDs neg d ds
 | _, _ => none
theorem inDs_some {neg : Bool} {d w : D} {ds : List D} (h : inDs neg d ds = some w) : ∃ v vs, flV d = some v /\ flVs ds = some vs /\ w = .bl (if neg then !inV v vs else inV v vs) := by
 unfold inDs at h
 split at h
 ·rename_i v vs h1 h2; cases h; exact ⟨v, vs, h1, h2, rfl⟩
 ·cases h
theorem opd_in {K : W.Frag} {neg : Bool} : OpD K (rIn K neg) (inD neg) := by
 intro F H x y d e w Q s r1 r2 h q
 cases r2 with
 | lst sq rs =>
  obtain ⟨v, vs, h1, h2, rfl⟩ := inDs_some (show inDs neg d _ = some w from h)
  obtain ⟨a1, a2⟩ := flV_rep r1 h1
  obtain ⟨b1, b2⟩ := flVs_reps rs h2
  subst a1 b1
  exact ⟨_, _, rfl, .inl (s.seq sq), a2, b2, q _ F H (.refl s) (.bl _)⟩
 | tup sq rs =>
  obtain ⟨v, vs, h1, h2, rfl⟩ := inDs_some (show inDs neg d _ = some w from h)
  obtain ⟨a1, a2⟩ := flV_rep r1 h1
  obtain ⟨b1, b2⟩ := flVs_reps rs h2
  subst a1 b1
  exact ⟨_, _, rfl, .inr (s.seqT sq), a2, b2, q _ F H (.refl s) (.bl _)⟩
 | _ => cases d <;> cases h
noncomputable def isND (neg : Bool) : D -> D -> Option D
 | .non, .non => some (.bl (!neg))
 | _, .non => some (.bl neg)
 | _, _ => none
theorem opd_isN {K : W.Frag} : OpD K (fun x y H Q => y = .non /\ Q (.bl (decide (x = .non))) H) (isND false) := by
 intro F H x y d e w Q s r1 r2 h q
 cases r2 with
 | non => cases r1 <;> cases h <;> exact ⟨rfl, q _ F H (.refl s) (.bl _)⟩
 | _ => cases d <;> cases h
noncomputable def maxI : List Int -> Int
 | [] => 0
 | a :: r => r.foldl (fun x y => if y > x then y else x) a
theorem foldMax : ∀ (r : List Int) (a : Int), (r.foldl (fun x y => if y > x then y else x) a ∈ a :: r) /\ ∀ y ∈ a :: r, y <= r.foldl (fun x y => if y > x then y else x) a
 | [], a => ⟨by simp, fun y hy => by simp at hy; subst hy; exact Int.le_refl _⟩
 | b :: r, a => by
  obtain ⟨h1, h2⟩ := foldMax r (if b > a then b else a)
  rw [foldl_cons]
  refine ⟨?_, fun y hy => ?_⟩
  ·rcases List.mem_cons.mp h1 with h | h
   ·rw [h]; split <;> simp
   ·exact mem_cons_of_mem _ (mem_cons_of_mem _ h)
  ·have h0 := h2 _ mem_cons_self
   rcases List.mem_cons.mp hy with h | h
   ·subst h; refine Int.le_trans ?_ h0; split <;> omega
   ·rcases List.mem_cons.mp h with h | h
    ·subst h; refine Int.le_trans ?_ h0; split <;> omega
    ·exact h2 y (mem_cons_of_mem _ h)
theorem maxI_mem {ns : List Int} (h : ns ≠ []) : maxI ns ∈ ns := by
 cases ns with
 | nil => exact absurd rfl h
 | cons a r => exact (foldMax r a).1
theorem maxI_ge {ns : List Int} {y : Int} (h : y ∈ ns) : y <= maxI ns := by
 cases ns with
 | nil => cases h
 | cons a r => exact (foldMax r a).2 y h
theorem vals_intItems : ∀ {ns : List Int} {its : List Value}, Vals (ns.map V.int) its -> ∃ xs : List (Int × Tok), its.toArray = intItems xs.toArray /\ xs.map (·.1) = ns
 | [], _, .nil => ⟨[], by unfold intItems; simp, rfl⟩
 | n :: ns, _, .cons r t => by
  obtain ⟨k, rfl⟩ := r
  obtain ⟨xs, h1, h2⟩ := vals_intItems t
  refine ⟨(n, k) :: xs, ?_, by rw [map_cons, h2]⟩
  have := congrArg Array.toList h1
  unfold intItems at this ⊢
  simp at this ⊢
  exact this
theorem numAt_get (xs : List (Int × Tok)) {i : Nat} (h : i < xs.length) : numAt xs.toArray i = (xs[i]).1 := by
 unfold numAt
 simp [h]
def rMaxL (K : W.Frag) : List V -> Hp -> VK -> Prop := fun vs H Q => ∃ p ns, vs = [.ref p] /\ SqL K H p (ns.map V.int) /\ ns ≠ [] /\ Q (.int (maxI ns)) H
theorem call_maxL (hc : X.calm = true) : CallR X (.builtin "max") (rMaxL X.K) := by
 intro pins s σ H xs us Q I r h
 obtain ⟨p, ns, rfl, sq, hne, q⟩ := h
 obtain ⟨u, rfl, rx⟩ := vals1 r
 cases rx
 obtain ⟨its, vr, pl, hz⟩ := I.list sq
 obtain ⟨ts, h1, h2⟩ := vals_intItems vr
 have hp := pl.isList
 rw [h1] at hp
 have hlen : 0 < ts.length := by
  cases ts with
  | nil => simp at h2; exact absurd h2.symm (by simpa using hne)
  | cons _ _ => simp
 refine max_intList (I.ok.hd hc) hp (by simpa using hlen) fun v h' tk e k => ?_
 obtain ⟨b1, b2⟩ := argBest_gt (numAt ts.toArray) (ts.toArray.size - 1)
 rw [size_toArray] at b1 b2 e
 generalize hi : argBest (fun i j => decide (numAt ts.toArray i > numAt ts.toArray j)) (ts.length - 1) = i at b1 b2 e
 have hil : i < ts.length := by omega
 have hv : v = Value.int (ts[i]).1 (ts[i]).2 := by
  unfold intItems at e
  simp [hil] at e
  exact e.symm
 have hm : (ts[i]).1 = maxI ns := by
  have m1 : (ts[i]).1 ∈ ns := by rw [<- h2]; exact mem_map_of_mem (getElem_mem hil)
  refine Int.le_antisymm (maxI_ge m1) ?_
  have m2 := maxI_mem hne
  rw [<- h2] at m2
  obtain ⟨t, ht, e2⟩ := List.mem_map.mp m2
  obtain ⟨j, hj, e3⟩ := getElem_of_mem ht
  have := b2 j (by omega)
  rw [numAt_get ts hj, numAt_get ts hil, e3, e2, h2] at this
  exact this
 subst hv
 exact ⟨.int (maxI ns), H, I.kept k, ⟨_, by rw [hm]⟩, q⟩
noncomputable def intsD : List D -> Option (List Int)
 | [] => some []
 | .int i :: r => match intsD r with | some ns => some (i :: ns) | none => none
 | _ => none
theorem intsD_reps {K : W.Frag} {F : Hp} : ∀ {vs : List V} {ds : List D} {ns : List Int}, Reps K F vs ds -> intsD ds = some ns -> vs = ns.map V.int
 | _, _, _, .nil, h => by cases h; rfl
 | _, _, _, .cons (d := d) (ds := ds) r t, h => by
  cases r with
  | int i =>
   unfold intsD at h
   cases h1 : intsD ds with
   | none => simp only [h1] at h; cases h
   | some ns => simp only [h1] at h; cases h; rw [intsD_reps t h1]; rfl
  | _ => cases h
theorem intsD_map : ∀ ns : List Int, intsD (ns.map D.int) = some ns
 | [] => rfl
 | n :: ns => by show (match intsD (ns.map D.int) with | some ns => some (n :: ns) | none => none) = _; rw [intsD_map ns]
@[irreducible] noncomputable def mmaxL (m : ML) : ME := fun ρ => match m ρ with | some ds => (match intsD ds with | some (n :: ns) => some (.int (maxI (n :: ns))) | _ => none) | none => none
theorem pd_maxL {p : Pos} {m : ML} (hc : X.calm = true) (hg : Gl X "max") (hm : X.mg "max" = none) (ha : PB X e m) (hs : starEach (e :: []) X.env = (false, eval e X.env) :: starEach [] X.env := by rfl) (he : starEach [e] X.env = (false, eval e X.env) :: starEach [] X.env := by rfl) (hpl : (backTo pos (starEach [] X.env)).any (·.1) = false := by rfl) : PD X (.Call (.Name "max" p) [e] [] pos) (mmaxL m) :=
 (pe_callB (call_maxL hc) hg hm PyProof.Rows.boot_max (pa_cons ha pa_nil hs) (by decide) (by decide) he hpl).imp fun σ H Q hpat => by
  obtain ⟨F0, H0, F, ρ, g, rl, e, q⟩ := hpat
  unfold mmaxL at e
  cases h1 : m ρ with
  | none => rw [h1] at e; cases e
  | some ds =>
   rw [h1] at e
   cases h2 : intsD ds with
   | none => simp only [h2] at e; cases e
   | some ns =>
    cases ns with
    | nil => simp only [h2] at e; cases e
    | cons n ns =>
     simp only [h2] at e; cases e
     refine ⟨F0, H0, F, ρ, ds, rl, h1, fun p xs F1 H1 x1 s1 r1 => ⟨p, n :: ns, rfl, ?_, by simp, q _ F1 H1 x1 (.int _)⟩⟩
     rw [<- intsD_reps r1 h2]; exact s1
noncomputable def tabVs : List (Str × Str) -> List DictEntry -> Prop
 | [], [] => True
 | (k, v) :: r, e :: es => (∃ t, e.key = .str k t) /\ (∃ t, e.val = .str v t) /\ tabVs r es
 | _, _ => False
structure KTab (w : World) (K : W.Frag) (a : Addr) (tab : List (Str × Str)) : Prop where
 ns : (a == sysModules) = false
 nd : (tab.map (·.1)).Nodup
 obj : ∃ es ep, K.lookup a = some ⟨.type "dict", none, .dict es ep, #[]⟩ /\ tabVs tab es.toList /\ ∀ e ∈ es.toList, ∀ k t, e.key = .str k t -> e.hash = hashStr w k
end
end
section
section
variable {prog : Program} {w : World} {A : Around} {E : Value -> Shared -> Prop} {s : Shared}
structure ApT (z TO i1 i2 l : Addr) : Prop where
 lz : l ≠ z
 lTO : l ≠ TO
 l1 : l ≠ i1
 l2 : l ≠ i2
end
end
section
section
variable {prog : Program} {w : World} {A : Around} {E : Value -> Shared -> Prop} {s : Shared}
end
section
variable {X : Cx}
end
end
section
section
variable {X : Cx} {a b c e : Expr} {ma mb : ME} {la lb : ML} {pos : Pos}
end
section
variable {K : W.Frag} {F0 H0 F H H' : Hp} {σ : St} {ρ : Ro}
end
section
variable {X : Cx} {a b c e3 : Expr} {ma mb : ME} {la lb : ML} {pos : Pos} {E : XK} {es : List Expr} {mf : MF} {m : ML} {rb : List Stmt} {mx : MS} {cc : MB} {y : D}
end
end
section
noncomputable abbrev MEm := Ro -> Option (D × Ro)
noncomputable abbrev MLm := Ro -> Option (List D × Ro)
def TDm (K : W.Frag) (m : MEm) : TE := fun σ H Q => ∃ F0 H0 F ρ d ρ', Rl K F0 H0 F H σ ρ /\ m ρ = some (d, ρ') /\ ∀ v F' H', Rl K F0 H0 F' H' σ ρ' -> Same F F' -> Rep K F' v d -> Q v H'
def TAm (K : W.Frag) (m : MLm) : TA := fun σ H Q => ∃ F0 H0 F ρ ds ρ', Rl K F0 H0 F H σ ρ /\ m ρ = some (ds, ρ') /\ ∀ vs F' H', Rl K F0 H0 F' H' σ ρ' -> Same F F' -> Reps K F' vs ds -> Q vs H'
def PDm (X : Cx) (e : Expr) (m : MEm) : Prop := PE X e (TDm X.K m)
def PAm (X : Cx) (es : List Expr) (m : MLm) : Prop := PA X es (TAm X.K m)
section
variable {X : Cx} {a b c e : Expr} {ma mb : ME} {na nb : MEm} {pos : Pos} {es : List Expr}
@[irreducible] noncomputable def mpu (m : ME) : MEm := fun ρ => match m ρ with | some d => some (d, ρ) | none => none
@[irreducible] noncomputable def apu (m : ML) : MLm := fun ρ => match m ρ with | some d => some (d, ρ) | none => none
theorem pdm_pure (h : PD X e ma) : PDm X e (mpu ma) := h.imp fun σ H Q hpat => by
 obtain ⟨F0, H0, F, ρ, d, ρ', rl, e, q⟩ := hpat
 unfold mpu at e
 split at e
 ·rename_i d' hm; cases e; exact ⟨F0, H0, F, ρ, d, rl, hm, fun v F' H' x r => q v F' H' (rl.go x) x.ff r⟩
 ·cases e
theorem pam_pure {m : ML} (h : PAs X es m) : PAm X es (apu m) := h.imp fun σ H Q hpat => by
 obtain ⟨F0, H0, F, ρ, d, ρ', rl, e, q⟩ := hpat
 unfold apu at e
 split at e
 ·rename_i d' hm; cases e; exact ⟨F0, H0, F, ρ, d, rl, hm, fun v F' H' x r => q v F' H' (rl.go x) x.ff r⟩
 ·cases e
@[irreducible] noncomputable def m2m (f : D -> D -> Option D) (x y : MEm) : MEm := fun ρ => match x ρ with
 | some (d, ρ1) => (match y ρ1 with | some (e, ρ2) => (match f d e with | some g => some (g, ρ2) | none => none) | none => none)
 | none => none
theorem opm_d {r : R2} {f : D -> D -> Option D} (hf : OpD X.K r f) {σ : St} {H : Hp} {Q : VK} (h : TDm X.K (m2m f na nb) σ H Q) : tOp r (TDm X.K na) (TDm X.K nb) σ H Q := by
 obtain ⟨F0, H0, F, ρ, g, ρ', rl, e, q⟩ := h
 unfold m2m at e
 split at e
 ·rename_i d ρ1 h1
  split at e
  ·rename_i d2 ρ2 h2
   split at e
   ·rename_i g' h3
    cases e
    refine ⟨F0, H0, F, ρ, d, ρ1, rl, h1, fun x F1 H1 rl1 s1 r1 => ⟨F0, H0, F1, ρ1, d2, ρ', rl1, h2, fun y F2 H2 rl2 s2 r2 => ?_⟩⟩
    exact hf F2 H2 x y d d2 g Q rl2.fh (r1.mono s2) r2 h3 fun v F' H' x3 r3 => q v F' H' (rl2.go x3) (s1.trans (s2.trans x3.ff)) r3
   ·cases e
  ·cases e
 ·cases e
theorem pdm_op {op : Operator} {r : R2} {f : D -> D -> Option D} (ho : OpR X (binaryOp op) r) (hf : OpD X.K r f) (ha : PDm X a na) (hb : PDm X b nb) : PDm X (.BinOp a op b pos) (m2m f na nb) := (pe_op ho ha hb).imp fun _ _ _ h => opm_d hf h
noncomputable def ixLD : D -> D -> Option D
 | .lst ds, .int k => atI ds k
 | _, _ => none
theorem opd_ixL {K : W.Frag} : OpD K (rIxL K) ixLD := by
 intro F H x y d e w Q s r1 r2 h q
 cases d with
 | lst ds =>
  cases e with
  | int k =>
   obtain ⟨a, xs, e1, sq, rs⟩ := r1.l'
   obtain ⟨v, h3, h4⟩ := atI_reps rs (show atI _ k = some w from h)
   exact ⟨_, _, k, v, e1, r2.i', s.seq sq, h3, q v F H (.refl s) h4⟩
  | _ => cases h
 | _ => cases h
theorem pdm_ix (ha : PDm X a na) (hb : PDm X b nb) (hs : PlainIx b := by exact fun _ _ => rfl) : PDm X (.Subscript a b pos) (m2m ixLD na nb) := (pe_ix ix_list ha hb hs).imp fun σ H Q h => opm_d opd_ixL h
@[irreducible] noncomputable def aconsm (x : MEm) (r : MLm) : MLm := fun ρ => match x ρ with | some (d, ρ1) => (match r ρ1 with | some (ds, ρ2) => some (d :: ds, ρ2) | none => none) | none => none
theorem pam_cons {m : MLm} (ha : PDm X a na) (hr : PAm X es m) (hs : starEach (a :: es) X.env = (false, eval a X.env) :: starEach es X.env := by rfl) : PAm X (a :: es) (aconsm na m) := (pa_cons ha hr hs).imp fun σ H Q hpat => by
 obtain ⟨F0, H0, F, ρ, g, ρ', rl, e, q⟩ := hpat
 unfold aconsm at e
 split at e
 ·rename_i d ρ1 h1
  split at e
  ·rename_i ds ρ2 h2
   cases e
   refine ⟨F0, H0, F, ρ, d, ρ1, rl, h1, fun x F1 H1 rl1 s1 r1 => ⟨F0, H0, F1, ρ1, ds, ρ', rl1, h2, fun xs F2 H2 rl2 s2 r2 => ?_⟩⟩
   exact q _ F2 H2 rl2 (s1.trans s2) (.cons (r1.mono s2) r2)
  ·cases e
 ·cases e
@[irreducible] noncomputable def mlstm (m : MLm) : MEm := fun ρ => match m ρ with | some (ds, ρ1) => if ds.length <= sizeLine then some (.lst ds, ρ1) else none | none => none
theorem pdm_lst {m : MLm} (h : PAm X es m) : PDm X (.List es pos) (mlstm m) := (pe_lst h).imp fun σ H Q hpat => by
 obtain ⟨F0, H0, F, ρ, g, ρ', rl, e, q⟩ := hpat
 unfold mlstm at e
 split at e
 ·rename_i ds ρ1 h1
  split at e
  ·rename_i hz
   cases e
   refine ⟨F0, H0, F, ρ, ds, ρ', rl, h1, fun vs F1 H1 rl1 s1 r1 => ⟨by rw [r1.length]; exact hz, fun p hp => ?_⟩⟩
   have x := Ext.laid (o := .lst vs) rl1.fh hp
   exact q _ _ _ (rl1.go x) (s1.trans x.ff) (.lst (SqL.of upd_same) (r1.mono x.ff))
  ·cases e
 ·cases e
variable {st : Stmt}
@[irreducible] noncomputable def msetm (i : Nat) (x : MEm) : MS := fun ρ => match x ρ with | some (d, ρ1) => some (.nx (ρ1.set i (some (.sh d)))) | none => none
theorem psd_setm {i : Nat} {x : Str} {pos' : Pos} (hN : X.N.Nodup) (hi : X.N[i]? = some x) (hx : Loc X.env.scope x) (he : PDm X e na) (hs : swapsWith e (some (.Name x pos')) pos.line X.env = pure false := by rfl) (hf : X.fn x = true \/ X.env.scope.names.lookup x = some .local := by first | exact .inl rfl | exact .inr rfl | assumption) :
  PSd X (.Assign [.Name x pos'] e pos) (msetm i na) := (ps_set hN hi hx he hs hf).imp fun D σ H hpat => by
 obtain ⟨F0, H0, F, ρ, o, rl, e, ok⟩ := hpat
 unfold msetm at e
 split at e
 ·rename_i d ρ1 h1
  cases e
  exact ⟨F0, H0, F, ρ, d, ρ1, rl, h1, fun v F1 H1 rl1 s1 r1 => ok F1 H1 _ (rl1.set r1) s1⟩
 ·cases e
@[irreducible] noncomputable def mretG (i : Nat) (x : MEm) : MS := fun ρ => match x ρ with
 | some (d, ρ1) => (match ρ1[i]? with | some (some (.ob p r)) => some (.rg d p r) | _ => none)
 | none => none
theorem psd_retG (i : Nat) (he : PDm X e na) : PSd X (.Return (some e) pos) (mretG i na) := (ps_ret he).imp fun D σ H hpat => by
 obtain ⟨F0, H0, F, ρ, o, rl, e, ok⟩ := hpat
 unfold mretG at e
 split at e
 ·rename_i d ρ1 h1
  split at e
  ·rename_i p r h2
   cases e
   refine ⟨F0, H0, F, ρ, d, ρ1, rl, h1, fun v F1 H1 rl1 s1 r1 => ?_⟩
   obtain ⟨o1, o2, o3, xs, o4, o5⟩ := rl1.ob i p r h2
   exact ok v F1 H1 xs rl1.ext r1 o2 o4 o5
  ·cases e
 ·cases e
@[irreducible] noncomputable def mretGO (i j : Nat) : MS := fun ρ => match ρ[i]?, ρ[j]? with
 | some (some (.ob p r)), some (some (.own ds)) => some (.rgf ds p r)
 | _, _ => none
theorem psd_retGO (i j : Nat) {x : Str} {pos' : Pos} (h : PE X (.Name x pos') (tVar j)) : PSd X (.Return (some (.Name x pos')) pos) (mretGO i j) := (ps_ret h).imp fun D σ H hpat => by
 obtain ⟨F0, H0, F, ρ, o, rl, e, ok⟩ := hpat
 unfold mretGO at e
 split at e
 ·rename_i p r ds h1 h2
  cases e
  obtain ⟨o1, o2, o3, xs, o4, o5⟩ := rl.ob i p r h1
  obtain ⟨q, ys, a1, a2, a3, a4, a5⟩ := rl.own j ds h2
  have hne : q ≠ p := fun z => rl.obn i j p r ds h1 h2 (by rw [<- z]; exact a1)
  exact ⟨_, a1, ok q ys F H xs rl.ext a5 a2 hne a3 a4 o2 o4 o5⟩
 ·cases e
end
noncomputable abbrev MG := Addr -> List D -> List D -> Option (Rt × List D)
noncomputable def del (H : Hp) (p : Addr) : Hp := fun b => if b = p then none else H b
theorem del_self {H : Hp} {p : Addr} : del H p p = none := by unfold del; rw [if_pos rfl]
theorem del_ne {H : Hp} {p b : Addr} (h : b ≠ p) : del H p b = H b := by unfold del; rw [if_neg h]
noncomputable def okG (K : W.Frag) (F H : Hp) (p : Addr) (Q : VK) (r' : List D) : Rt -> Prop
 | .sh d => ∀ v F' H' xs, Ext F (del H p) F' H' -> Rep K F' v d -> F' p = none -> H' p = some (.lst xs) -> Reps K F' xs r' -> Q v H'
 | .fr ds => ∀ q ys F' H' xs, Ext F (del H p) F' H' -> H q = none -> F' q = none -> H' q = some (.lst ys) -> Reps K F' ys ds -> F' p = none -> H' p = some (.lst xs) -> Reps K F' xs r' -> Q (.ref q) H'
 | .pr _ _ => False
def spG (K : W.Frag) (n : Nat) (m : MG) : Sp := fun vs H Q _ => vs.length = n /\ ∃ p ws F r0 ds r r1 xs, vs = .ref p :: ws /\ H p = some (.lst xs) /\ F p = none /\ Same F H /\ Reps K F xs r0 /\ Reps K F ws ds /\ m p r0 ds = some (r, r1) /\ okG K F H p Q r1 r
noncomputable def startG (n : Nat) (p : Addr) (r : List D) (ds : List D) : Ro := some (.ob p r) :: startS (n - 1) ds
noncomputable def runG (n : Nat) (m : MS) : MG := fun p r ds => match m (startG n p r ds) with
 | some (.rg d q r') => if q = p then some (.sh d, r') else none
 | some (.rgf es q r') => if q = p then some (.fr es, r') else none
 | _ => none
theorem rl_startG {K : W.Frag} {F H : Hp} {N : List Str} {p : Addr} {xs ws : List V} {r ds : List D} (hn : 0 < N.length) (s : Same F H) (hF : F p = none) (hH : H p = some (.lst xs)) (hr : Reps K F xs r) (rs : Reps K F ws ds) : Rl K F (del H p) F H (start N (.ref p :: ws)) (startG N.length p r ds) := by
 have e0 : start N (.ref p :: ws) = some (.ref p) :: start N.tail ws := by
  unfold start
  rw [map_cons, cons_append, length_cons, length_tail]
  congr 2
  congr 1
  omega
 have e1 : startG N.length p r ds = some (.ob p r) :: startS N.tail.length ds := by unfold startG; rw [length_tail]
 have base := rl_start (N := N.tail) s rs
 have only : ∀ (j : Nat) x, (startS N.tail.length ds)[j]? = some (some x) -> ∃ d, x = S.sh d := fun j x e => by
  unfold startS at e
  by_cases hi : j < ds.length
  ·rw [getElem?_append_left (by simpa using hi), getElem?_map] at e
   cases q : ds[j]? with
   | none => rw [q] at e; cases e
   | some d => rw [q] at e; cases e; exact ⟨d, rfl⟩
  ·rw [getElem?_append_right (by simpa using hi), getElem?_replicate] at e
   split at e <;> cases e
 rw [e0, e1]
 refine ⟨⟨Same.refl F, fun b o e => ?_, s, fun b e n => absurd e n, fun _ _ _ z => z⟩, by rw [length_cons, length_cons, base.len], fun i d e => ?_, fun i es e => ?_, fun i j q es es' _ e => ?_, fun i q es e => ?_, fun i j q es es' e e2 => ?_, fun i j q q' es es' e e2 => ?_⟩
 ·by_cases hb : b = p
  ·subst hb; rw [del_self] at e; cases e
  ·rw [del_ne hb] at e; exact e
 ·cases i with
  | zero => cases e
  | succ i => exact base.sh i d e
 ·cases i with
  | zero => cases e
  | succ i => obtain ⟨d, z⟩ := only i _ e; cases z
 ·cases i with
  | zero => cases e
  | succ i => obtain ⟨d, z⟩ := only i _ e; cases z
 ·cases i with
  | zero => cases e; exact ⟨rfl, hF, del_self, xs, hH, hr⟩
  | succ i => obtain ⟨d, z⟩ := only i _ e; cases z
 ·cases j with
  | zero => cases e2
  | succ j => obtain ⟨d, z⟩ := only j _ e2; cases z
 ·cases i with
  | zero =>
   cases j with
   | zero => rfl
   | succ j => obtain ⟨d, z⟩ := only j _ e2; cases z
  | succ i => obtain ⟨d, z⟩ := only i _ e; cases z
theorem Fun.okGl {P : Program} {w : World} {K : W.Frag} {mg : Str -> Option Value} {base : Heap} {x qual : Str} {st : Stmt} {f : Addr} {fd : FuncData} {N ps : List Str} {k : Nat} {m : MS} (Fn : Fun K x qual st f fd) (Sc : FnScope N ps (defScope st)) (hn : 0 < N.length)
  (hbody : ∀ (cdv : Value) (A : Around) (outer : List Env) (s : Shared) (H : Hp) (E : XK), Room k (A.deeper (envOfC qual (defScope st) s.heap.objs.size f cdv)) -> PSsd (cxOf CX0 P w K mg base N qual (defScope st) f cdv A outer s H E).nox (defBody st) m) :
  FnOk P w K mg base CX0 (k + 1) f fd ps (spG K ps.length (runG N.length m)) := by
 refine Fn.ok Sc (fun vs H Q E h => h.1) fun cdv A outer s H vs Q E hr h => ?_
 obtain ⟨hl, p, ws, F, r0, ds, r, r1, xs, rfl, hH, hF, sf, rx, rs, e, ok⟩ := h
 unfold runG at e
 cases h1 : m (startG N.length p r0 ds) with
 | none => rw [h1] at e; cases e
 | some o =>
  rw [h1] at e
  refine ⟨_, hbody cdv A outer s H E hr, F, del H p, F, startG N.length p r0 ds, o, rl_startG hn sf hF hH rx rs, h1, ?_⟩
  cases o with
  | rg d q r' =>
   have e : (if q = p then some (Rt.sh d, r') else none) = some (r, r1) := e
   by_cases hq : q = p
   ·rw [if_pos hq] at e
    cases e
    subst hq
    exact fun v F' H' xs' x rv f1 h1 rr => ok v F' H' xs' x rv f1 h1 rr
   ·rw [if_neg hq] at e; cases e
  | rgf es q r' =>
   have e : (if q = p then some (Rt.fr es, r') else none) = some (r, r1) := e
   by_cases hq : q = p
   ·rw [if_pos hq] at e
    cases e
    subst hq
    exact fun q' ys F' H' xs' x h0 f0 hne hq' rq f1 h1 rr => ok q' ys F' H' xs' x (by rw [del_ne hne] at h0; exact h0) f0 hq' rq f1 h1 rr
   ·rw [if_neg hq] at e; cases e
  | nx _ => cases e
  | bk _ => cases e
  | ct _ => cases e
  | rt _ => cases e
  | rf _ => cases e
  | rp _ _ => cases e
end
section
section
variable {K : W.Frag} {F0 H0 F H F' H' : Hp} {σ : St} {ρ : Ro}
theorem Ext.lent (a : Ext F0 H0 F H) {p : Addr} (h0 : H0 p = none) (x : Ext F (del H p) F' H') : Ext F0 H0 F' H' :=
 ⟨a.ff.trans x.ff, fun b o e => by
  have hb : b ≠ p := fun z => by rw [z, h0] at e; cases e
  exact x.hh b o (by rw [del_ne hb]; exact a.hh b o e), x.fh, fun b e n => by
  by_cases hf : F b = none
  ·by_cases hb : b = p
   ·rw [hb]; exact h0
   ·have := x.new b hf n
    rw [del_ne hb] at this
    exact a.hh.free this
  ·exact a.new b e hf, fun b o u z => a.nf b o u (x.nf b o u z)⟩
theorem Rl.lent (r : Rl K F0 H0 F H σ ρ) {i : Nat} {p : Addr} {xs : List V} {r0 r1 : List D} (h : ρ[i]? = some (some (.own r0))) (hp : σ[i]? = some (some (.ref p))) (x : Ext F (del H p) F' H') (hF : F' p = none) (hH : H' p = some (.lst xs)) (hr : Reps K F' xs r1) : Rl K F0 H0 F' H' σ (ρ.set i (some (.own r1))) := by
 obtain ⟨p', xs', a, b, c, d, z⟩ := r.own i r0 h
 rw [hp] at a; cases a
 have hl : i < ρ.length := (List.getElem?_eq_some_iff.mp h).1
 have keepF : ∀ q, q ≠ p -> F q = none -> (∃ o, H q = some o) -> F' q = none := fun q hq f hpat => by
  obtain ⟨o, ho⟩ := hpat
  cases w : F' q with
  | none => rfl
  | some u => have := x.new q f (by rw [w]; simp); rw [del_ne hq, ho] at this; cases this
 have keepH : ∀ q o, q ≠ p -> H q = some o -> H' q = some o := fun q o hq ho => x.hh q o (by rw [del_ne hq]; exact ho)
 have back : ∀ (j : Nat) fs, (ρ.set i (some (S.own r1)))[j]? = some (some (.own fs)) -> (j = i /\ fs = r1) \/ (i ≠ j /\ ρ[j]? = some (some (.own fs))) := fun j fs e => by
  by_cases hj : i = j
  ·subst hj; rw [getElem?_set_self hl] at e; cases e; exact .inl ⟨rfl, rfl⟩
  ·rw [getElem?_set_ne hj] at e; exact .inr ⟨hj, e⟩
 refine ⟨r.ext.lent z x, by simp [r.len], fun j d' q => ?_, fun j fs q => ?_, fun j k q fs fs' hjk e1 e2 e3 e4 => ?_, fun j q fs e1 => ?_, fun j k q fs fs' e1 e2 e3 => ?_, fun j k q q' es es' e1 e2 => r.ob1 j k q q' es es' (set_ob e1).2 (set_ob e2).2⟩
 ·by_cases hj : i = j
  ·subst hj; rw [getElem?_set_self hl] at q; cases q
  ·rw [getElem?_set_ne hj] at q
   obtain ⟨v, v1, v2⟩ := r.sh j d' q
   exact ⟨v, v1, v2.mono x.ff⟩
 ·rcases back j fs q with ⟨rfl, rfl⟩ | ⟨n, e⟩
  ·exact ⟨p, xs, hp, hF, hH, hr, z⟩
  ·obtain ⟨p2, xs2, a2, b2, c2, d2, z2⟩ := r.own j fs e
   have hpp : p2 ≠ p := fun w => r.inj i j p r0 fs n h e hp (by rw [<- w]; exact a2)
   exact ⟨p2, xs2, a2, keepF p2 hpp b2 ⟨_, c2⟩, keepH _ _ hpp c2, d2.mono x.ff, z2⟩
 ·have b1 : ∃ g, ρ[j]? = some (some (.own g)) := by
   rcases back j fs e1 with ⟨rfl, _⟩ | ⟨_, w⟩
   ·exact ⟨_, h⟩
   ·exact ⟨_, w⟩
  have b2 : ∃ g, ρ[k]? = some (some (.own g)) := by
   rcases back k fs' e2 with ⟨rfl, _⟩ | ⟨_, w⟩
   ·exact ⟨_, h⟩
   ·exact ⟨_, w⟩
  obtain ⟨g1, w1⟩ := b1
  obtain ⟨g2, w2⟩ := b2
  exact r.inj j k q g1 g2 hjk w1 w2 e3 e4
 ·obtain ⟨n, e1⟩ := set_ob e1
  obtain ⟨o1, o2, o3, zs, o4, o5⟩ := r.ob j q fs e1
  have hpp : q ≠ p := fun w => r.obn j i q fs r0 e1 h (by rw [w]; exact hp)
  exact ⟨o1, keepF q hpp o2 ⟨_, o4⟩, o3, zs, keepH _ _ hpp o4, o5.mono x.ff⟩
 ·obtain ⟨n, e5⟩ := set_ob e1
  rcases back k fs' e2 with ⟨e6, _⟩ | ⟨_, w⟩
  ·rw [e6] at e3; exact r.obn j i q fs r0 e5 h e3
  ·exact r.obn j k q fs fs' e5 w e3
theorem Rl.lentB (r : Rl K F0 H0 F H σ ρ) {i : Nat} {p : Addr} {xs : List V} {r0 r1 : List D} (h : ρ[i]? = some (some (.ob p r0))) (x : Ext F (del H p) F' H') (hF : F' p = none) (hH : H' p = some (.lst xs)) (hr : Reps K F' xs r1) : Rl K F0 H0 F' H' σ (ρ.set i (some (.ob p r1))) := by
 obtain ⟨a, b, z, xs', c, d⟩ := r.ob i p r0 h
 have hl : i < ρ.length := (List.getElem?_eq_some_iff.mp h).1
 have keepF : ∀ q, q ≠ p -> F q = none -> (∃ o, H q = some o) -> F' q = none := fun q hq f hpat => by
  obtain ⟨o, ho⟩ := hpat
  cases w : F' q with
  | none => rfl
  | some u => have := x.new q f (by rw [w]; simp); rw [del_ne hq, ho] at this; cases this
 have keepH : ∀ q o, q ≠ p -> H q = some o -> H' q = some o := fun q o hq ho => x.hh q o (by rw [del_ne hq]; exact ho)
 have back : ∀ (j : Nat) q fs, (ρ.set i (some (S.ob p r1)))[j]? = some (some (.ob q fs)) -> j = i /\ q = p /\ fs = r1 := fun j q fs e => by
  by_cases hj : i = j
  ·subst hj; rw [getElem?_set_self hl] at e; cases e; exact ⟨rfl, rfl, rfl⟩
  ·rw [getElem?_set_ne hj] at e; exact absurd (r.ob1 i j p q r0 fs h e) hj
 have other : ∀ (j : Nat) fs, (ρ.set i (some (S.ob p r1)))[j]? = some (some (.own fs)) -> i ≠ j /\ ρ[j]? = some (some (.own fs)) := fun j fs e => by
  by_cases hj : i = j
  ·subst hj; rw [getElem?_set_self hl] at e; cases e
  ·rw [getElem?_set_ne hj] at e; exact ⟨hj, e⟩
 refine ⟨r.ext.lent z x, by simp [r.len], fun j d' q => ?_, fun j fs q => ?_, fun j k q fs fs' hjk e1 e2 e3 e4 => r.inj j k q fs fs' hjk (other j fs e1).2 (other k fs' e2).2 e3 e4, fun j q fs e1 => ?_, fun j k q fs fs' e1 e2 e3 => ?_, fun j k q q' fs fs' e1 e2 => ?_⟩
 ·by_cases hj : i = j
  ·subst hj; rw [getElem?_set_self hl] at q; cases q
  ·rw [getElem?_set_ne hj] at q
   obtain ⟨v, v1, v2⟩ := r.sh j d' q
   exact ⟨v, v1, v2.mono x.ff⟩
 ·obtain ⟨n, e⟩ := other j fs q
  obtain ⟨p2, xs2, a2, b2, c2, d2, z2⟩ := r.own j fs e
  have hpp : p2 ≠ p := fun w => r.obn i j p r0 fs h e (by rw [<- w]; exact a2)
  exact ⟨p2, xs2, a2, keepF p2 hpp b2 ⟨_, c2⟩, keepH _ _ hpp c2, d2.mono x.ff, z2⟩
 ·obtain ⟨e2, e3, e4⟩ := back j q fs e1
  subst e2 e3 e4
  exact ⟨a, hF, z, xs, hH, hr⟩
 ·obtain ⟨e4, e5, _⟩ := back j q fs e1
  subst e4 e5
  exact r.obn j k q r0 fs' h (other k fs' e2).2 e3
 ·rw [(back j q fs e1).1, (back k q' fs' e2).1]
end
open Classical in
noncomputable def anyP {α : Type} (f : Addr -> Option α) : Option α := if h : ∃ x, ∀ p, f p = some x then some (Classical.choose h) else none
theorem anyP_some {α : Type} {f : Addr -> Option α} {x : α} (h : anyP f = some x) : ∀ p, f p = some x := by
 unfold anyP at h
 split at h
 ·rename_i hx
  cases h
  exact Classical.choose_spec hx
 ·cases h
theorem anyP_of {α : Type} {f : Addr -> Option α} {x : α} (h : ∀ p, f p = some x) : anyP f = some x := by
 unfold anyP
 have hx : ∃ x, ∀ p, f p = some x := ⟨x, h⟩
 rw [dif_pos hx]
 have := Classical.choose_spec hx 0
 rw [h 0] at this
 exact this.symm
noncomputable def rtD : Rt -> Option D
 | .sh d => some d
 | .fr es => some (.lst es)
 | .pr _ _ => none
@[irreducible] noncomputable def mcallG (f : MG) (i : Nat) (m : MLm) : MEm := fun ρ => match ρ[i]? with
 | some (some (.own _)) => (match m ρ with
  | some (ds, ρ1) => (match ρ1[i]? with
   | some (some (.own r0)) => (match anyP (fun p => f p r0 ds) with
    | some (t, r1) => (match rtD t with | some d => some (d, ρ1.set i (some (.own r1))) | none => none)
    | none => none)
   | _ => none)
  | none => none)
 | some (some (.ob _ _)) => (match m ρ with
  | some (ds, ρ1) => (match ρ1[i]? with
   | some (some (.ob p r0)) => (match f p r0 ds with
    | some (t, r1) => (match rtD t with | some d => some (d, ρ1.set i (some (.ob p r1))) | none => none)
    | none => none)
   | _ => none)
  | none => none)
 | _ => none
theorem apu_len {m : ML} {n : Nat} (h : ∀ ρ ds, m ρ = some ds -> ds.length = n) (ρ : Ro) (ds : List D) (ρ' : Ro) (e : apu m ρ = some (ds, ρ')) : ds.length = n := by
 unfold apu at e
 split at e
 ·rename_i d hm; cases e; exact h ρ _ hm
 ·cases e
theorem aconsm_len {x : MEm} {r : MLm} {n : Nat} (hr : ∀ ρ ds ρ', r ρ = some (ds, ρ') -> ds.length = n) (ρ : Ro) (ds : List D) (ρ' : Ro) (h : aconsm x r ρ = some (ds, ρ')) : ds.length = n + 1 := by
 unfold aconsm at h
 split at h
 ·rename_i d ρ1 h1
  split at h
  ·rename_i ds' ρ2 h2; cases h; rw [length_cons, hr ρ1 ds' _ h2]
  ·cases h
 ·cases h
section
variable {X : Cx} {e : Expr} {pos : Pos} {es : List Expr} {E : XK} {mf : MG} {m : MLm}
theorem pdm_callG {n i : Nat} {x : Str} {px : Pos} (h : ∀ t, PA X (.Name x px :: es) t -> PE X e (tCall (spG X.K n mf) [] E t)) (hl : es.length + 1 = n) (hv : PE X (.Name x px) (tVar i)) (ha : PAm X es m) (hm : ∀ ρ ds ρ', m ρ = some (ds, ρ') -> ds.length = es.length)
  (hs : starEach (.Name x px :: es) X.env = (false, eval (.Name x px) X.env) :: starEach es X.env := by rfl) : PDm X e (mcallG mf i m) := (h _ (pa_cons hv ha hs)).imp fun σ H Q hpat => by
 obtain ⟨F0, H0, F, ρ, d, ρ', rl, e, q⟩ := hpat
 unfold mcallG at e
 split at e
 ·rename_i r00 h0
  obtain ⟨p, xs, a1, a2, a3, a4, a5⟩ := rl.own i r00 h0
  split at e
  ·rename_i ds ρ1 h1
   split at e
   ·rename_i r0 h2
    split at e
    ·rename_i t r1 h3
     split at e
     ·rename_i d' h4
      cases e
      have h3 := anyP_some h3
      refine ⟨_, a1, F0, H0, F, ρ, ds, ρ1, rl, h1, fun vs F1 H1 rl1 s1 rv => ?_⟩
      obtain ⟨p', ys, b1, b2, b3, b4, b5⟩ := rl1.own i r0 h2
      rw [a1] at b1; cases b1
      show spG X.K n mf ((.ref p :: vs) ++ []) H1 Q E
      rw [append_nil]
      refine ⟨by rw [length_cons, rv.length, hm ρ ds ρ1 h1, hl], p, vs, F1, r0, ds, t, r1, ys, rfl, b3, b2, rl1.fh, b4, rv, h3 p, ?_⟩
      cases t with
      | sh g =>
       cases h4
       exact fun v F' H' zs x rg f1 g1 rz => q v F' H' (rl1.lent h2 a1 x f1 g1 rz) (s1.trans x.ff) rg
      | fr gs =>
       cases h4
       intro w zs F' H' us x hw fw hw' rw' f1 g1 rz
       have hne : w ≠ p := fun z => by rw [z, b3] at hw; cases hw
       have rl2 := rl1.lent h2 a1 x f1 g1 rz
       have fz : Ext F' H' (upd F' w (.lst zs)) H' -> True := fun _ => True.intro
       have x2 : Ext F1 (del H1 p) (upd F' w (.lst zs)) H' := x.freeze fw (by rw [del_ne hne]; exact hw) hw'
       have s2 : Same F' (upd F' w (.lst zs)) := (Same.refl F').put fw
       exact q _ (upd F' w (.lst zs)) H' (rl1.lent h2 a1 x2 (by rw [upd_ne (Ne.symm hne)]; exact f1) g1 (rz.mono s2)) (s1.trans x2.ff) (.lst (SqL.of upd_same) (rw'.mono s2))
      | pr _ _ => cases h4
     ·cases e
    ·cases e
   ·cases e
  ·cases e
 ·rename_i p00 r00 h0
  obtain ⟨a1, a2, a5, xs, a3, a4⟩ := rl.ob i p00 r00 h0
  split at e
  ·rename_i ds ρ1 h1
   split at e
   ·rename_i p r0 h2
    split at e
    ·rename_i t r1 h3
     split at e
     ·rename_i d' h4
      cases e
      refine ⟨_, a1, F0, H0, F, ρ, ds, ρ1, rl, h1, fun vs F1 H1 rl1 s1 rv => ?_⟩
      obtain ⟨b1, b2, b5, ys, b3, b4⟩ := rl1.ob i p r0 h2
      rw [a1] at b1; cases b1
      show spG X.K n mf ((.ref p00 :: vs) ++ []) H1 Q E
      rw [append_nil]
      refine ⟨by rw [length_cons, rv.length, hm ρ ds ρ1 h1, hl], p00, vs, F1, r0, ds, t, r1, ys, rfl, b3, b2, rl1.fh, b4, rv, h3, ?_⟩
      cases t with
      | sh g =>
       cases h4
       exact fun v F' H' zs x rg f1 g1 rz => q v F' H' (rl1.lentB h2 x f1 g1 rz) (s1.trans x.ff) rg
      | fr gs =>
       cases h4
       intro w zs F' H' us x hw fw hw' rw' f1 g1 rz
       have hne : w ≠ p00 := fun z => by rw [z, b3] at hw; cases hw
       have x2 : Ext F1 (del H1 p00) (upd F' w (.lst zs)) H' := x.freeze fw (by rw [del_ne hne]; exact hw) hw'
       have s2 : Same F' (upd F' w (.lst zs)) := (Same.refl F').put fw
       exact q _ (upd F' w (.lst zs)) H' (rl1.lentB h2 x2 (by rw [upd_ne (Ne.symm hne)]; exact f1) g1 (rz.mono s2)) (s1.trans x2.ff) (.lst (SqL.of upd_same) (rw'.mono s2))
      | pr _ _ => cases h4
     ·cases e
    ·cases e
   ·cases e
  ·cases e
 ·cases e
end
end
section
section
variable {X : Cx} {a b c e : Expr} {ma mb : ME} {pos : Pos}
end
end
section
def LtAt (A : Around) (s : Shared) (v u : Value) (k : Bool) : Prop := ∀ (prog : Program) (w : World) (E : Value -> Shared -> Prop) (Q : Value -> Shared -> Prop), Q (.bool k) s -> wpAny (model prog w) A (richCompare .Lt v u) Q E s
noncomputable def LexAt (A : Around) (s : Shared) : List Value -> List Value -> Bool -> Prop
 | [], [], k => k = false
 | [], _ :: _, k => k = true
 | _ :: _, [], k => k = false
 | y :: ys, x :: xs, k => ∃ e, SeqAt.EqAt A s y x e /\ ((e = true /\ LexAt A s ys xs k) \/ (e = false /\ LtAt A s y x k))
section
open PySem.SeqAt
open PySem.AutoSeq1 (wpAny_loadPart')
open PySem.MeetsSeq PySem.MeetsSeq2 PySem.MeetsSeq3
set_option maxHeartbeats 4000000 in
theorem tup_lt (l b : Addr) (items items2 : Array Value) (n n2 : Nat) (dd dd2 : Option Addr) (sl sl2 : Array (Option Value)) (k : Bool) :
  Meets (Builtin.«tuple.__lt__» ⟨[.ref l, .ref b], []⟩)
   (fun A R s => s.heap.get? l = some { cls := .type "tuple", dict := dd, data := .seq items n, slots := sl } /\ s.heap.get? b = some { cls := .type "tuple", dict := dd2, data := .seq items2 n2, slots := sl2 } /\
    LexAt A.in1 s items.toList items2.toList k /\ R (.ok (.ret (.bool k))) s) :=
 .of_wp fun prog w A R s h => by
  obtain ⟨hp, g, d, tk, os⟩ := s; obtain ⟨hl, hb, hx, h⟩ := h
  have f2 := AutoSeq1.sub_tuple_tuple
  wp_walk using wpAny_loadPart' hl, wpAny_loadPart' hb, wpAny_forIn_list _ (fun rest b s' => b.1 = none /\ s' = ⟨hp, g, d, tk, os⟩ /\ ∃ (vs ws : List Value), rest = vs.zip ws /\
   vs.length + items2.size = ws.length + items.size /\ LexAt A.in1 ⟨hp, g, d, tk, os⟩ vs ws k) _
  case turn =>
   rintro ⟨y, x⟩ rest b s' ⟨hb', rfl, vs, ws, hz, hlen, hL⟩
   cases vs with
   | nil => rw [zip_nil_left] at hz; cases hz
   | cons a vs =>
    cases ws with
    | nil => rw [zip_nil_right] at hz; cases hz
    | cons c ws =>
     rw [zip_cons_cons] at hz
     injection hz with hyx hrest
     injection hyx with hy hx'
     subst hy hx'
     simp only [length_cons] at hlen
     obtain ⟨e, he, hL⟩ := hL
     refine wpAny_bind (he prog w _ _ ?_)
     rcases hL with ⟨rfl, hL⟩ | ⟨rfl, hL⟩
     ·wp_walk
      exact ⟨rfl, rfl, vs, ws, hrest, by omega, hL⟩
     ·have hri := hL prog w
      wp_walk using hri
      exact ⟨_, rfl, by simpa using h⟩
  case fin =>
   rintro ⟨b1, b2⟩ s' ⟨hb', rfl, vs, ws, hz, hlen, hL⟩
   simp only at hb'
   subst hb'
   have hv : k = decide (items.size < items2.size) := by
    cases vs with
    | nil =>
     cases ws with
     | nil =>
      simp only [length_nil] at hlen
      rw [show k = false from hL]
      exact (decide_eq_false (by omega)).symm
     | cons c ws =>
      simp only [length_nil, length_cons] at hlen
      rw [show k = true from hL]
      exact (decide_eq_true (by omega)).symm
    | cons a vs =>
     cases ws with
     | nil =>
      simp only [length_nil, length_cons] at hlen
      rw [show k = false from hL]
      exact (decide_eq_false (by omega)).symm
     | cons c ws =>
      rw [zip_cons_cons] at hz
      cases hz
   rw [hv] at h
   wp_walk
   exact ⟨_, rfl, by simpa [Builtin.Tuple.tupleCompareSizes] using h⟩
  case h =>
   exact ⟨rfl, rfl, items.toList, items2.toList, rfl, by simp; omega, hx⟩
set_option maxHeartbeats 4000000 in
theorem lst_lt_loop (l b : Addr) (items items2 : Array Value) (n n2 : Nat) (dd dd2 : Option Addr) (sl sl2 : Array (Option Value)) (r : Bool) (k : Nat) :
  ∀ i : Nat, items.size - i = k -> i <= items.size -> i <= items2.size -> Meets (Builtin.«list.__eq__.loop» ⟨[.ref l, .ref b, rawInt i, rawInt 0], []⟩)
   (fun A R s => s.heap.get? l = some { cls := .type "list", dict := dd, data := .seq items n, slots := sl } /\ s.heap.get? b = some { cls := .type "list", dict := dd2, data := .seq items2 n2, slots := sl2 } /\
    LexAt A.in1 s (items.toList.drop i) (items2.toList.drop i) r /\ R (.ok (.ret (.bool r))) s) := by
 induction k with
 | zero =>
  intro i hk h1 h2 prog w A R s h
  obtain ⟨hp, g, d, tk, os⟩ := s; obtain ⟨hl, hb, hx, h⟩ := h
  wp_walk using wpAny_loadPart' hl, wpAny_loadPart' hb
  have hi1 : items[((i : Nat) : Int).toNat]? = none := by simp; omega
  have e1 : items.toList.drop i = [] := drop_eq_nil_of_le (by simp; omega)
  rw [e1] at hx
  have hr : r = decide (items.size < items2.size) := by
   cases e2 : items2.toList.drop i with
   | nil =>
    rw [e2] at hx
    have : items2.size <= i := by simpa using e2
    rw [show r = false from hx]
    exact (decide_eq_false (by omega)).symm
   | cons c ws =>
    rw [e2] at hx
    have : i < items2.size := by
     rcases Nat.lt_or_ge i items2.size with z | z
     ·exact z
     ·rw [drop_eq_nil_of_le (by simpa using z)] at e2; cases e2
    rw [show r = true from hx]
    exact (decide_eq_true (by omega)).symm
  rw [hi1]
  wp_walk using wpAny_loadPart' hl, wpAny_loadPart' hb
  rw [hr] at h
  exact h
 | succ k ih =>
  intro i hk h1 h2 prog w A R s h
  obtain ⟨hp, g, d, tk, os⟩ := s; obtain ⟨hl, hb, hx, h⟩ := h
  have hlt : i < items.size := by omega
  have hi1 : items[((i : Nat) : Int).toNat]? = some items[i] := by simp [hlt]
  have e1 : items.toList.drop i = items[i] :: items.toList.drop (i + 1) := by rw [drop_eq_getElem_cons (by simpa using hlt)]; simp
  have hc : ((i : Int) + 1) = ((i + 1 : Nat) : Int) := by push_cast; rfl
  rw [e1] at hx
  by_cases hlt2 : i < items2.size
  ·have hi2 : items2[((i : Nat) : Int).toNat]? = some items2[i] := by simp [hlt2]
   have e2 : items2.toList.drop i = items2[i] :: items2.toList.drop (i + 1) := by rw [drop_eq_getElem_cons (by simpa using hlt2)]; simp
   rw [e2] at hx
   obtain ⟨e, he, hx⟩ := hx
   wp_walk using wpAny_loadPart' hl, wpAny_loadPart' hb
   rw [hi1, hi2]
   refine wpAny_bind (he prog w _ _ ?_)
   rcases hx with ⟨rfl, hx⟩ | ⟨rfl, hx⟩
   ·wp_walk
    rw [hc]
    exact ⟨plainId_quiet plain_eq_loop _, codeAny_builtin entry_eq_loop (by
     rw [Around.under_plainId plain_eq_loop _]
     exact ih (i + 1) (by omega) (by omega) (by omega) prog w A R _ ⟨hl, hb, hx, h⟩)⟩
   ·have hri := hx prog w
    wp_walk using wpAny_loadPart' hl, wpAny_loadPart' hb
    rw [hi1, hi2]
    wp_walk using hri
    exact h
  ·have hi2 : items2[((i : Nat) : Int).toNat]? = none := by simp; omega
   have e2 : items2.toList.drop i = [] := drop_eq_nil_of_le (by simp; omega)
   rw [e2] at hx
   have hr : r = decide (items.size < items2.size) := by
    rw [show r = false from hx]
    exact (decide_eq_false (by omega)).symm
   wp_walk using wpAny_loadPart' hl, wpAny_loadPart' hb
   rw [hi1, hi2]
   wp_walk using wpAny_loadPart' hl, wpAny_loadPart' hb
   rw [hr] at h
   exact h
set_option maxHeartbeats 4000000 in
theorem lst_lt (l b : Addr) (items items2 : Array Value) (n n2 : Nat) (dd dd2 : Option Addr) (sl sl2 : Array (Option Value)) (r : Bool) :
  Meets (Builtin.«list.__lt__» ⟨[.ref l, .ref b], []⟩)
   (fun A R s => s.heap.get? l = some { cls := .type "list", dict := dd, data := .seq items n, slots := sl } /\ s.heap.get? b = some { cls := .type "list", dict := dd2, data := .seq items2 n2, slots := sl2 } /\
    LexAt A.in1 s items.toList items2.toList r /\ R (.ok (.ret (.bool r))) s) := by
 intro prog w A R s h
 obtain ⟨hp, g, d, tk, os⟩ := s; obtain ⟨hl, hb, hx, h⟩ := h
 have f3 := AutoSeq1.sub_list_list
 wp_walk using wpAny_loadPart' hl, wpAny_loadPart' hb
 exact ⟨plainId_quiet plain_eq_loop _, codeAny_builtin entry_eq_loop (by
  rw [Around.under_plainId plain_eq_loop _]
  exact lst_lt_loop l b items items2 n n2 dd dd2 sl sl2 r _ 0 rfl (Nat.zero_le _) (Nat.zero_le _) prog w A R _ ⟨hl, hb, by simpa using hx, h⟩)⟩
end
noncomputable def lexF (eq lt : D -> D -> Option Bool) : List D -> List D -> Option Bool
 | [], [] => some false
 | [], _ :: _ => some true
 | _ :: _, [] => some false
 | d :: ds, e :: es => match eq d e with
  | some true => lexF eq lt ds es
  | some false => lt d e
  | none => none
noncomputable def ltF : Nat -> D -> D -> Option Bool
 | 0, _, _ => none
 | n + 1, .lst ds, .lst es => lexF (eqF n) (ltF n) ds es
 | n + 1, .tup ds, .tup es => lexF (eqF n) (ltF n) ds es
 | _ + 1, .int i, .int j => some (decide (i < j))
 | _ + 1, _, _ => none
section
variable {X : Cx} {pins : List (Addr × Obj)} {σ : St} {H : Hp} {s : Shared}
theorem lex_at (I : Inv X pins σ H s) (n : Nat) {A : Around} (hu : A.units + n < cLine) (ih : ∀ {x y : V} {v u : Value} {d e : D} {k : Bool}, Rep X.K H x d -> Rep X.K H y e -> RelV x v -> RelV y u -> ltF n d e = some k -> LtAt A s v u k) :
  ∀ {xs ys : List V} {vs us : List Value} {ds es : List D} {k : Bool}, Reps X.K H xs ds -> Reps X.K H ys es -> Vals xs vs -> Vals ys us -> lexF (eqF n) (ltF n) ds es = some k -> LexAt A s vs us k
 | _, _, _, _, _, _, k, .nil, .nil, .nil, .nil, h => by cases h; exact rfl
 | _, _, _, _, _, _, k, .nil, .cons _ _, .nil, .cons _ _, h => by cases h; exact rfl
 | _, _, _, _, _, _, k, .cons _ _, .nil, .cons _ _, .nil, h => by cases h; exact rfl
 | _, _, _, _, _, _, k, .cons (d := d) r1 t1, .cons (d := e) r2 t2, .cons q1 p1, .cons q2 p2, h => by
  unfold lexF at h
  cases hq : eqF n d e with
  | none => rw [hq] at h; cases h
  | some b =>
   rw [hq] at h
   refine ⟨b, (eq_at I n hu r1 r2 q1 q2 hq).1, ?_⟩
   cases b with
   | true => exact .inl ⟨rfl, lex_at I n hu ih t1 t2 p1 p2 h⟩
   | false => exact .inr ⟨rfl, ih r1 r2 q1 q2 h⟩
theorem lt_at (I : Inv X pins σ H s) : ∀ (n : Nat) {A : Around} {x y : V} {v u : Value} {d e : D} {k : Bool}, A.units + n < cLine -> Rep X.K H x d -> Rep X.K H y e -> RelV x v -> RelV y u -> ltF n d e = some k -> LtAt A s v u k
 | 0, A, x, y, v, u, d, e, k, hu, r1, r2, q1, q2, h => by simp [ltF] at h
 | n + 1, A, x, y, v, u, d, e, k, hu, r1, r2, q1, q2, h => by
  have hu0 : A.units < cLine := by omega
  have hu1 : A.in1.units + n < cLine := by show A.units + 1 + n < cLine; omega
  cases d with
  | int i =>
   cases e with
   | int j =>
    obtain rfl := r1.i'
    obtain rfl := r2.i'
    obtain ⟨t, rfl⟩ := q1
    obtain ⟨t', rfl⟩ := q2
    cases h
    exact fun prog w E Q hQ => HT.rcLt_int A s i t j t' prog w E Q hQ
   | _ => cases h
  | lst ds1 =>
   cases e with
   | lst ds2 =>
    obtain ⟨a1, xs1, rfl, sq, rs⟩ := r1.l'
    obtain ⟨a2, xs2, rfl, sq2, rs2⟩ := r2.l'
    cases q1; cases q2
    obtain ⟨its, vr, ⟨⟨cls, dd, data, sl⟩, m, ho, hc, hdd, hd⟩, _⟩ := I.list sq
    obtain ⟨its2, vr2, ⟨⟨cls2, dd2, data2, sl2⟩, m2, ho2, hc2, hdd2, hd2⟩, _⟩ := I.list sq2
    simp only at hc hd hc2 hd2
    subst hc hd hc2 hd2
    have L := lex_at I n hu1 (fun a b c d e => lt_at I n hu1 a b c d e) rs rs2 vr vr2 (show lexF (eqF n) (ltF n) _ _ = some k from h)
    intro prog w E Q hQ
    exact richCompare_meets_room (op := .Lt) ⟨_, ho, rfl⟩ ⟨_, ho2, rfl⟩ PySem.F.slot_list_lt PySem.F.entry_list_lt (PySem.F.args_list_lt_2 _ _) (lst_lt _ _ its.toArray its2.toArray m m2 dd dd2 sl sl2 k)
     ⟨ho, ho2, by simpa using L, show Value.bool k ≠ Value.notImplemented /\ Q (.bool k) s from ⟨(fun x => nomatch x), hQ⟩⟩ hu0
   | _ => cases h
  | tup ds1 =>
   cases e with
   | tup ds2 =>
    obtain ⟨a1, xs1, rfl, sq, rs⟩ := r1.t'
    obtain ⟨a2, xs2, rfl, sq2, rs2⟩ := r2.t'
    cases q1; cases q2
    obtain ⟨its, vr, ⟨⟨cls, dd, data, sl⟩, ho, hc, m, hd⟩, _⟩ := I.tuple sq
    obtain ⟨its2, vr2, ⟨⟨cls2, dd2, data2, sl2⟩, ho2, hc2, m2, hd2⟩, _⟩ := I.tuple sq2
    simp only at hc hd hc2 hd2
    subst hc hd hc2 hd2
    have L := lex_at I n hu1 (fun a b c d e => lt_at I n hu1 a b c d e) rs rs2 vr vr2 (show lexF (eqF n) (ltF n) _ _ = some k from h)
    intro prog w E Q hQ
    exact richCompare_meets_room (op := .Lt) ⟨_, ho, rfl⟩ ⟨_, ho2, rfl⟩ PySem.F.slot_tuple_lt PySem.F.entry_tuple_lt (PySem.F.args_tuple_lt_2 _ _) (tup_lt _ _ its.toArray its2.toArray m m2 dd dd2 sl sl2 k)
     ⟨ho, ho2, by simpa using L, show Value.bool k ≠ Value.notImplemented /\ Q (.bool k) s from ⟨(fun x => nomatch x), hQ⟩⟩ hu0
   | _ => cases h
  | _ => cases h
end
end
section
def KeyAt (X : Cx) (kv : Value) (mk : D -> Option D) : Prop := ∀ (pins : List (Addr × Obj)) (σ : St) (H F : Hp) (s : Shared) (x : V) (u : Value) (d kd : D), Inv X pins σ H s -> Same F H -> Rep X.K F x d -> RelV x u -> mk d = some kd ->
 wpAny (model X.prog X.w) X.A.in1 (call kv [u]) (fun w s' => ∃ y F' H', Inv X pins σ H' s' /\ RelV y w /\ Ext F H F' H' /\ Rep X.K F' y kd) (fun _ _ => False) s
noncomputable def shOf : Option Rt -> Option D
 | some (.sh d) => some d
 | some (.fr es) => some (.lst es)
 | _ => none
theorem keyAt_fn {X : Cx} {k : Nat} {f : Addr} {fd : FuncData} {p : Str} {m : MF} (F : FnOk X.prog X.w X.K X.mg X.base CX0 k f fd [p] (spR X.K 1 m)) (hr : Room k X.A.in1) (hb : Binds X.K fd [p] []) : KeyAt X (.ref f) (fun d => shOf (m [d])) := by
 intro pins σ H Fh s x u d kd I sf r rx hm
 have hm : shOf (m [d]) = some kd := hm
 have sp : spR X.K 1 m [x] H (fun v H' => ∃ F', Ext Fh H F' H' /\ Rep X.K F' v kd) E0 := by
  cases h : m [d] with
  | none => rw [h] at hm; cases hm
  | some t =>
   rw [h] at hm
   cases t with
   | sh g => cases hm; exact ⟨rfl, Fh, [d], _, sf, .cons r .nil, h, fun v F' H' x' r' => ⟨F', x', r'⟩⟩
   | fr gs => cases hm; exact ⟨rfl, Fh, [d], _, sf, .cons r .nil, h, fun q xs F' H' x' hp hF hH rs => ⟨upd F' q (.lst xs), x'.freeze hF hp hH, .lst (SqL.of upd_same) (rs.mono ((Same.refl F').put hF))⟩⟩
   | pr _ _ => cases hm
 have e0 := I.env0
 have env : Env0 X.prog X.w X.K X.mg X.base X.A.in1 X.stack s H := ⟨e0.frames, e0.mod, e0.bs, e0.bsz, e0.funs, e0.frf, e0.hok, e0.bare⟩
 refine wpAny_call (codeAny_mono (F.run X.A.in1 X.stack s H ⟨[u], []⟩ [u] [x] _ E0 hr env (hb s [u] I.kIn rfl) (.cons rx .nil) sp) fun r s' hq => ?_)
 cases r with
 | error e => exact hq.elim
 | ok fl =>
  cases fl with
  | ret v =>
   obtain ⟨y, H', I', ry, F', x', r'⟩ := I.after hq
   exact ⟨y, F', H', I', ry, x', r'⟩
  | next => exact hq.elim
  | brk => exact hq.elim
  | cont => exact hq.elim
noncomputable def minF (mk : D -> Option D) : List D -> D -> D -> Option D
 | [], b, _ => some b
 | d :: ds, b, kb => match mk d with
  | some kd => (match ltF 8 kd kb with | some true => minF mk ds d kd | some false => minF mk ds b kb | none => none)
  | none => none
section
variable {X : Cx} {pins : List (Addr × Obj)} {σ : St}
theorem FpOk.now {H H' : Hp} {b : Addr} (h : FpOk X pins H b) (hn : H' b = none) : FpOk X pins H' b := ⟨hn, h.2⟩
theorem Inv.pin2 {H : Hp} {s : Shared} {a b : Addr} {oa ob : Obj} (I : Inv X pins σ H s) (ha : FpOk X pins H a) (hb : FpOk X pins H b) (ea : s.heap.get? a = some oa) (eb : s.heap.get? b = some ob) (da : ∀ v, oa.data ≠ .cell v) (db : ∀ v, ob.data ≠ .cell v) : Inv X (pins ++ [(a, oa), (b, ob)]) σ H s :=
 I.pins_of fun p hp => by
  rcases List.mem_append.mp hp with hp | hp
  ·exact I.pin p (mem_append_right _ hp)
  ·simp only [mem_cons, not_mem_nil, or_false] at hp
   rcases hp with rfl | rfl
   ·exact ⟨ea, ha.1, ha.2.1, ha.2.2.1, da⟩
   ·exact ⟨eb, hb.1, hb.2.1, hb.2.2.1, db⟩
set_option maxHeartbeats 8000000 in
theorem min_loop {q : Addr} {mk : D -> Option D} (hk : KeyAt X (.ref q) mk) (hc : X.calm = true) (hu : X.A.units + 64 < cLine) {l I S : Addr} {xs : List V} {ds : List D} {kw : List (Str × Value)} {dm : D} (hIS : I ≠ S) (hlI : l ≠ I) (hlS : l ≠ S) :
  ∀ (r j : Nat) (H F H0 F0 : Hp) (s : Shared) (xb yb : V) (vb kb : Value) (db kdb : D) (c : Nat) (R : Result -> Shared -> Prop),
   ds.length - (j + 1) = r -> j + 1 <= ds.length -> Inv X pins σ H s -> Ext F0 H0 F H -> SqL X.K H l xs -> Reps X.K F xs ds -> s.heap.IsListIter I l (j + 1) -> s.heap.get? S = some (seqObj "list" #[vb, kb] c) -> FpOk X pins H I -> FpOk X pins H S ->
   RelV xb vb -> Rep X.K F xb db -> RelV yb kb -> Rep X.K F yb kdb -> minF mk (ds.drop (j + 1)) db kdb = some dm ->
   (∀ x v F' H' s', Inv X pins σ H' s' -> RelV x v -> Ext F0 H0 F' H' -> Rep X.K F' x dm -> R (.ok (.ret v)) s') ->
   codeAny (model X.prog X.w) X.A (.builtin "min.loop" ⟨[.ref I, .ref q, .ref S], kw⟩) R s := by
 have hname : (toString "min" ++ toString ".loop" : String) = "min.loop" := by decide
 intro r
 induction r with
 | zero =>
  intro j H F H0 F0 s xb yb vb kb db kdb c R hr hj I' ext sq rs hit hS fI fS rb pb ry py hm hR
  have hin : j + 1 = ds.length := by omega
  obtain ⟨its, vr, pl, _⟩ := I'.list sq
  have zl : its.length = ds.length := by rw [<- vr.length, rs.length]
  rw [hin, drop_length] at hm
  have hm : some db = some dm := hm
  cases hm
  refine codeAny_builtin PySem.F.entry_min_loop ?_
  rw [Around.under_plainId PySem.F.plain_min_loop _]
  show wpAny _ X.A.in1 (seqItems? (.ref S) >>= _) _ _ _
  refine wpAny_bind (wpAny_seqItems hS rfl ?_)
  show wpAny _ X.A.in1 (tryCatch (pyNext (.ref I)) _ >>= _) _ _ _
  refine wpAny_bind (wpAny_tryCatch (wpAny_pyNext_list_end (I'.ok.hd hc) hit pl.isList (by simp; omega) fun h' hk' => ?_))
  have hS' : h'.get? S = some (seqObj "list" #[vb, kb] c) := hk' S _ (Ne.symm hIS) hS
  have s1 := Heap.SameBut.update h' S (Obj.mapSeq fun _ => (#[] : Array Value))
  show wpAny _ X.A.in1 (updateSeq S (fun _ => #[]) >>= _) _ _ _
  refine wpAny_bind ?_
  refine wpAny_updateSeq hS' rfl (wpAny_bind (wpAny_letGo (wpAny_pure ?_)))
  have I9 : Inv X pins σ H { s with heap := h'.update S (Obj.mapSeq fun _ => (#[] : Array Value)), toks := s.toks } := I'.turnedL (fp := [I, S]) (t' := s.toks) (fun b o hb e => by
   simp only [mem_cons, not_mem_nil, or_false, not_or] at hb
   exact (s1.2 b hb.2).trans (hk' b o hb.1 e)) (fun b hb => by
   simp only [mem_cons, not_mem_nil, or_false] at hb
   rcases hb with rfl | rfl <;> assumption)
  exact hR xb vb F H _ I9 rb ext pb
 | succ r ih =>
  intro j H F H0 F0 s xb yb vb kb db kdb c R hr hj I' ext sq rs hit hS fI fS rb pb ry py hm hR
  have hlt : j + 1 < ds.length := by omega
  obtain ⟨its, vr, pl, _⟩ := I'.list sq
  have zl : its.length = ds.length := by rw [<- vr.length, rs.length]
  obtain ⟨d, hd⟩ : ∃ d, ds[j + 1]? = some d := ⟨_, getElem?_eq_getElem hlt⟩
  obtain ⟨x, hx, px⟩ := rs.get hd
  obtain ⟨v, hv, rx⟩ := vr.get hx
  rw [drop_get hd] at hm
  unfold minF at hm
  cases hkd : mk d with
  | none => rw [hkd] at hm; cases hm
  | some kd =>
   rw [hkd] at hm
   dsimp only at hm
   refine codeAny_builtin PySem.F.entry_min_loop ?_
   rw [Around.under_plainId PySem.F.plain_min_loop _]
   show wpAny _ X.A.in1 (seqItems? (.ref S) >>= _) _ _ _
   refine wpAny_bind (wpAny_seqItems hS rfl ?_)
   show wpAny _ X.A.in1 (tryCatch (pyNext (.ref I)) _ >>= _) _ _ _
   refine wpAny_bind (wpAny_tryCatch (wpAny_pyNext_list_item hit pl.isList (by simpa using hv) fun h1 hit1 s1 => ?_))
   have I1 : Inv X pins σ H { s with heap := h1, toks := s.toks } := I'.turnedL (fp := [I]) (fun b o hb e => s1.extBut b o (by simpa using hb) e) (fun b hb => by rw [List.mem_singleton.mp hb]; exact fI)
   have hS1 : h1.get? S = some (seqObj "list" #[vb, kb] c) := s1.extBut _ _ (Ne.symm hIS) hS
   obtain ⟨oI, eI, cI, dI⟩ := id hit1
   have Ip := I1.pin2 fI fS eI hS1 (fun v z => by rw [dI] at z; cases z) (fun v z => by cases z)
   show wpAny _ X.A.in1 (tryCatch (holding [v] (call (.ref q) [v])) _ >>= _) _ _ _
   refine wpAny_bind (wpAny_tryCatch (wpAny_holding (wpAny_mono (hk (pins ++ [(I, oI), (S, seqObj "list" #[vb, kb] c)]) σ H F _ x v d kd Ip ext.fh px rx hkd) (fun w s2 hw => ?_) fun _ _ z => z.elim)))
   obtain ⟨y, F2, H2, I2, rw2, x2, py2⟩ := hw
   have pI := I2.pin (I, oI) (by simp)
   have pS := I2.pin (S, seqObj "list" #[vb, kb] c) (by simp)
   have I2' : Inv X pins σ H2 s2 := I2.unpinned
   have fI2 : FpOk X pins H2 I := fI.now pI.2.1
   have fS2 : FpOk X pins H2 S := fS.now pS.2.1
   have hit2 : s2.heap.IsListIter I l (j + 1 + 1) := ⟨oI, pI.1, cI, dI⟩
   cases hlt8 : ltF 8 kd kdb with
   | none => rw [hlt8] at hm; cases hm
   | some bt =>
    rw [hlt8] at hm
    have hcmp := lt_at I2' 8 (A := X.A.in1) (by show X.A.units + 1 + 8 < cLine; omega) (py2.mono x2.fh) ((py.mono x2.ff).mono x2.fh) rw2 ry hlt8
    show wpAny _ X.A.in1 (tryCatch (holding [v, w] (richCompare .Lt w kb >>= _)) _ >>= _) _ _ _
    refine wpAny_bind (wpAny_tryCatch (wpAny_holding (wpAny_bind (hcmp X.prog X.w _ _ ?_))))
    refine wpAny_bind (wpAny_holding (wpAny_truthy_bool ?_))
    refine wpAny_bind (wpAny_letGo (wpAny_pure ?_))
    cases bt with
    | true =>
     have s3 := Heap.SameBut.update s2.heap S (Obj.mapSeq fun _ => #[v, w])
     obtain ⟨c2, hc2⟩ : ∃ c2, (s2.heap.update S (Obj.mapSeq fun _ => #[v, w])).get? S = some (seqObj "list" #[v, w] c2) := ⟨_, get?_update_seq pS.1 fun _ => #[v, w]⟩
     simp only [if_true]
     refine wpAny_bind ?_
     refine wpAny_updateSeq pS.1 rfl (wpAny_bind (wpAny_letGo ?_))
     rw [hname]
     have I3 : Inv X pins σ H2 { s2 with heap := s2.heap.update S (Obj.mapSeq fun _ => #[v, w]), toks := s2.toks } := I2'.turnedL (fp := [S]) (fun b o hb e => (s3.2 b (by simpa using hb)).trans e) (fun b hb => by rw [List.mem_singleton.mp hb]; exact fS2)
     refine wpAny_pure ⟨plainId_quiet PySem.F.plain_min_loop _, ih (j + 1) H2 F2 H0 F0 _ x y v w d kd c2 R (by omega) hlt I3 (ext.trans x2) (x2.hh.seq sq) (rs.mono x2.ff) ⟨oI, (s3.2 I hIS).trans pI.1, cI, dI⟩ hc2 fI2 fS2 rx (px.mono x2.ff) rw2 py2 hm hR⟩
    | false =>
     simp only [Bool.false_eq_true, if_false]
     refine wpAny_bind (wpAny_letGo ?_)
     rw [hname]
     refine wpAny_pure ⟨plainId_quiet PySem.F.plain_min_loop _, ih (j + 1) H2 F2 H0 F0 _ xb yb vb kb db kdb c R (by omega) hlt I2' (ext.trans x2) (x2.hh.seq sq) (rs.mono x2.ff) hit2 pS.1 fI2 fS2 rb (pb.mono x2.ff) ry (py.mono x2.ff) hm hR⟩
end
end
section
theorem args_min_kd (a v u : Value) : argsOk "min" ⟨[a], [(Str.ofString "key", v), (Str.ofString "default", u)]⟩ := by unfold argsOk; kernel_rfl
noncomputable def minD (mk : D -> Option D) (ds : List D) (d0 : D) : Option D := match ds with
 | [] => some d0
 | d :: ds => (match mk d with | some kd => minF mk ds d kd | none => none)
section
variable {X : Cx} {pins : List (Addr × Obj)} {σ : St}
set_option maxHeartbeats 8000000 in
theorem min_top {q : Addr} {mk : D -> Option D} (hk : KeyAt X (.ref q) mk) (hc : X.calm = true) (hu : X.A.units + 64 < cLine) {l : Addr} {xs : List V} {ds : List D} {dm d0 : D} {H F : Hp} {s : Shared} {x0 : V} {v0 : Value} {E : Value -> Shared -> Prop} {Q : Value -> Shared -> Prop}
  (I : Inv X pins σ H s) (sf : Same F H) (sq : SqL X.K H l xs) (rs : Reps X.K F xs ds) (r0 : RelV x0 v0) (p0 : Rep X.K F x0 d0) (hm : minD mk ds d0 = some dm)
  (hQ : ∀ x v F' H' s', Inv X pins σ H' s' -> RelV x v -> Ext F H F' H' -> Rep X.K F' x dm -> Q v s') :
  wpAny (model X.prog X.w) X.A (call (.builtin "min") [.ref l] [(Str.ofString "key", .ref q), (Str.ofString "default", v0)]) Q E s := by
 have hname : (toString "min" ++ toString ".loop" : String) = "min.loop" := by decide
 obtain ⟨its, vr, pl, _⟩ := I.list sq
 have hls := pl.isList
 obtain ⟨ol, hol, _⟩ := id hls
 have hll : l < s.heap.objs.size := Heap.lt_size hol
 refine kmk_tree PySem.F.kind_min PySem.F.plain_min PySem.F.entry_min (args_min_kd _ _ _) ?_
 show wpAny _ X.A.in1 (Builtin.Builtins.bindParams "min" ["key", "default"] 0 ⟨[], [(Str.ofString "key", .ref q), (Str.ofString "default", v0)]⟩ >>= _) _ _ s
 refine wpAny_bind (wpAny_of_eq (show Builtin.Builtins.bindParams "min" ["key", "default"] 0 ⟨[], [(Str.ofString "key", .ref q), (Str.ofString "default", v0)]⟩ = pure [some (.ref q), some v0] from rfl) ?_)
 refine wpAny_bind (wpAny_pure ?_)
 refine wpAny_bind (wpAny_pyIter_list hls ?_)
 refine wpAny_bind (wpAny_newList ?_ (Nat.zero_le _))
 rw [hname]
 refine wpAny_pure ⟨plainId_quiet PySem.F.plain_min_loop _, ?_⟩
 generalize hIo : ({ cls := .type "list_iterator", data := .fields #[.ref l, .int 0 0] } : Obj) = oI0
 have hS : (s.heap.push oI0).objs.size = s.heap.objs.size + 1 := size_push' ..
 have hlI : l ≠ s.heap.objs.size := Nat.ne_of_lt hll
 have hlS : l ≠ (s.heap.push oI0).objs.size := by rw [hS]; exact Nat.ne_of_lt (Nat.lt_succ_of_lt hll)
 have hIS : s.heap.objs.size ≠ (s.heap.push oI0).objs.size := by rw [hS]; exact Nat.ne_of_lt (Nat.lt_succ_self _)
 have gI : ((s.heap.push oI0).push (seqObj "list" #[] 0)).get? s.heap.objs.size = some oI0 := Heap.get?_push_of_some _ (Heap.get?_push_size _ (by rw [<- hIo]; rfl))
 have gS : ((s.heap.push oI0).push (seqObj "list" #[] 0)).get? (s.heap.push oI0).objs.size = some (seqObj "list" #[] 0) := Heap.get?_push_size _ rfl
 have fI : FpOk X pins H s.heap.objs.size := I.fpOk (Nat.le_refl _) (I.hok.fresh (Nat.le_refl _))
 have fS : FpOk X pins H (s.heap.push oI0).objs.size := I.fpOk (by rw [hS]; exact Nat.le_succ _) (I.hok.fresh (by rw [hS]; exact Nat.le_succ _))
 have I0 : Inv X pins σ H { s with heap := (s.heap.push oI0).push (seqObj "list" #[] 0), toks := s.toks } := I.turnedL (fp := []) (fun b o _ e => Heap.get?_push_of_some _ (Heap.get?_push_of_some _ e)) (fun b hb => by cases hb)
 generalize (s.heap.push oI0).objs.size = S at *
 generalize hI : s.heap.objs.size = J at *
 generalize (s.heap.push oI0).push (seqObj "list" #[] 0) = h0 at *
 have hit : h0.IsListIter J l 0 := ⟨_, gI, by rw [<- hIo], by rw [<- hIo]; rfl⟩
 have zl : its.length = ds.length := by rw [<- vr.length, rs.length]
 obtain ⟨its', vr', pl', _⟩ := I0.list sq
 have zl' : its'.length = ds.length := by rw [<- vr'.length, rs.length]
 refine codeAny_builtin PySem.F.entry_min_loop ?_
 rw [Around.under_plainId PySem.F.plain_min_loop _]
 show wpAny _ X.A.in1 (seqItems? (.ref S) >>= _) _ _ _
 refine wpAny_bind (wpAny_seqItems gS rfl ?_)
 show wpAny _ X.A.in1 (tryCatch (pyNext (.ref J)) _ >>= _) _ _ _
 cases ds with
 | nil =>
  have hm : some d0 = some dm := hm
  cases hm
  refine wpAny_bind (wpAny_tryCatch (wpAny_pyNext_list_end (I.ok.hd hc) hit pl'.isList (by simp at zl' ⊢; simp [zl']) fun h' hk' => ?_))
  refine wpAny_bind (wpAny_rule (wpAny_pure ?_))
  have I9 := I0.turnedL (h' := h') (fp := [J]) (t' := s.toks) (fun b o hb e => hk' b o (by simpa using hb) e) (fun b hb => by rw [List.mem_singleton.mp hb]; exact fI)
  exact hQ x0 v0 F H _ I9 r0 (Ext.refl sf) p0
 | cons d ds =>
  obtain ⟨x, hx, px⟩ := rs.get (i := 0) (d := d) rfl
  obtain ⟨v, hv, rx⟩ := vr'.get hx
  unfold minD at hm
  dsimp only at hm
  cases hkd : mk d with
  | none => rw [hkd] at hm; cases hm
  | some kd =>
   rw [hkd] at hm
   dsimp only at hm
   refine wpAny_bind (wpAny_tryCatch (wpAny_pyNext_list_item hit pl'.isList (by simpa using hv) fun h1 hit1 s1 => ?_))
   have I1 := I0.turnedL (h' := h1) (t' := s.toks) (fp := [J]) (fun b o hb e => s1.extBut b o (by simpa using hb) e) (fun b hb => by rw [List.mem_singleton.mp hb]; exact fI)
   have hS1 : h1.get? S = some (seqObj "list" #[] 0) := s1.extBut _ _ (Ne.symm hIS) gS
   obtain ⟨oI, eI, cI, dI⟩ := id hit1
   have Ip := I1.pin2 fI fS eI hS1 (fun v z => by rw [dI] at z; cases z) (fun v z => by cases z)
   show wpAny _ X.A.in1 (tryCatch (holding [v] (call (.ref q) [v])) _ >>= _) _ _ _
   refine wpAny_bind (wpAny_tryCatch (wpAny_holding (wpAny_mono (hk (pins ++ [(J, oI), (S, seqObj "list" #[] 0)]) σ H F _ x v d kd Ip sf px rx hkd) (fun w s2 hw => ?_) fun _ _ z => z.elim)))
   obtain ⟨y, F2, H2, I2, rw2, x2, py2⟩ := hw
   have pI := I2.pin (J, oI) (by simp)
   have pS := I2.pin (S, seqObj "list" #[] 0) (by simp)
   have I2' : Inv X pins σ H2 s2 := I2.unpinned
   have fI2 : FpOk X pins H2 J := fI.now pI.2.1
   have fS2 : FpOk X pins H2 S := fS.now pS.2.1
   have s3 := Heap.SameBut.update s2.heap S (Obj.mapSeq fun _ => #[v, w])
   obtain ⟨c2, hc2⟩ : ∃ c2, (s2.heap.update S (Obj.mapSeq fun _ => #[v, w])).get? S = some (seqObj "list" #[v, w] c2) := ⟨_, get?_update_seq pS.1 fun _ => #[v, w]⟩
   show wpAny _ X.A.in1 (updateSeq S (fun _ => #[v, w]) >>= _) _ _ _
   refine wpAny_bind (wpAny_updateSeq pS.1 rfl ?_)
   rw [hname]
   have I3 : Inv X pins σ H2 { s2 with heap := s2.heap.update S (Obj.mapSeq fun _ => #[v, w]), toks := s2.toks } := I2'.turnedL (fp := [S]) (fun b o hb e => (s3.2 b (by simpa using hb)).trans e) (fun b hb => by rw [List.mem_singleton.mp hb]; exact fS2)
   refine wpAny_pure ⟨plainId_quiet PySem.F.plain_min_loop _, min_loop hk hc hu (ds := d :: ds) (dm := dm) hIS hlI hlS _ 0 H2 F2 H F _ x y v w d kd c2 _ rfl (by simp) I3 x2 (x2.hh.seq sq) (rs.mono x2.ff) ⟨oI, (s3.2 J hIS).trans pI.1, cI, dI⟩ hc2 fI2 fS2 rx (px.mono x2.ff) rw2 py2 hm fun x v F' H' s' a b c d => hQ x v F' H' s' a b c d⟩
@[irreducible] noncomputable def mminK (mk : D -> Option D) (m : ML) (md : ME) : ME := fun ρ => (m ρ).bind fun ds => (md ρ).bind fun d0 => minD mk ds d0
theorem mminK_some {mk : D -> Option D} {m : ML} {md : ME} {ρ : Ro} {g : D} (h : mminK mk m md ρ = some g) : ∃ ds d0, m ρ = some ds /\ md ρ = some d0 /\ minD mk ds d0 = some g := by
 unfold mminK at h
 cases h1 : m ρ with
 | none => rw [h1] at h; cases h
 | some d =>
  cases h2 : md ρ with
  | none => rw [h1, h2] at h; cases h
  | some e => rw [h1, h2] at h; exact ⟨d, e, rfl, rfl, h⟩
theorem mminK_ev {mk : D -> Option D} {m : ML} {md : ME} {ρ : Ro} {ds : List D} {d0 : D} (h1 : m ρ = some ds) (h2 : md ρ = some d0) : mminK mk m md ρ = minD mk ds d0 := by
 unfold mminK
 rw [h1, h2]; rfl
theorem pd_minK {q : Addr} {mk : D -> Option D} {x : Str} {p pf kp kp2 pos : Pos} {e ed : Expr} {m : ML} {md : ME} (hk : KeyAt X (.ref q) mk) (hc : X.calm = true) (hu : X.A.units + 64 < cLine) (hg : Gl X "min") (hm : X.mg "min" = none) (hgf : Gl X x) (hmf : X.mg x = some (.ref q)) (ha : PB X e m) (hd : PD X ed md)
  (hdb : (x == ("__debug__" : Str)) = false := by decide) (hs : starEach (e :: []) X.env = (false, eval e X.env) :: starEach [] X.env := by rfl) :
  PD X (.Call (.Name "min" p) [e] [⟨some "key", .Name x pf, kp⟩, ⟨some "default", ed, kp2⟩] pos) (mminK mk m md) := by
 intro pins s σ H Q I h
 obtain ⟨F0, H0, F, ρ, g, rl, em, q0⟩ := h
 obtain ⟨ds, d0, h1, h2, h3⟩ := mminK_some em
 refine wpAny_Call_Name_kw (ld_blt I hg hm PyProof.Rows.boot_min ?_ (by decide) (by decide))
 have A := pa_cons ha pa_nil hs pos pins s σ H (fun vs H1 => ∃ p xs F1, vs = [.ref p] /\ Ext F H F1 H1 /\ SqL X.K H1 p xs /\ Reps X.K F1 xs ds) I ⟨F0, H0, F, ρ, ds, rl, h1, fun p xs F1 H1 x1 s1 r1 => ⟨p, xs, F1, rfl, x1, s1, r1⟩⟩
 refine callWith_kw (thn A fun us s1 hpat => ?_) (by rw [hs]; rfl) (by rw [hs]; rfl)
 obtain ⟨vs, H1, I1, r1, p, xs, F1, ev, x1, sq, rs⟩ := hpat
 subst ev
 obtain ⟨u, rfl, ru⟩ := vals1 r1
 cases ru
 have B := pk_cons (nm := some "key") (kpos := kp) (pe_glob (v := .ref q) (pos := pf) hgf hmf rfl hdb) (pk_cons (nm := some "default") (kpos := kp2) hd pk_nil) pos pins s1 σ H1 (fun vs H2 => ∃ y F2, vs = [.ref q, y] /\ Ext F1 H1 F2 H2 /\ Rep X.K F2 y d0) I1 ⟨F0, H0, F1, ρ, d0, rl.go x1, h2, fun y F2 H2 x2 r2 => ⟨y, F2, rfl, x2, r2⟩⟩
 refine thn B fun us s2 hpat => ?_
 obtain ⟨vs, H2, I2, r2, y, F2, ev, x2, p0⟩ := hpat
 subst ev
 obtain ⟨u1, u2, rfl, ru1, ru2⟩ := vals2 r2
 cases ru1
 exact min_top hk hc hu I2 x2.fh (x2.hh.seq sq) (rs.mono x2.ff) ru2 p0 h3 fun x v F' H' s' I' rx x3 px => ⟨x, H', I', rx, q0 x F' H' ((x1.trans x2).trans x3) px⟩
end
end
section
section
variable {prog : Program} {w : World} {A : Around} {E : Value -> Shared -> Prop} {s : Shared}
theorem sub_rit_reversed : isSubtype (.type "range_iterator") (.type "reversed") = pure false := by rw [isSubtype_type]; kernel_rfl
noncomputable def ritObj (x left step : Int) : Obj := { cls := .type "range_iterator", dict := none, data := .fields #[rawInt x, rawInt left, rawInt step], slots := #[] }
theorem call_range_reversed {l : Addr} {j : Int} {t u v : Tok} {Q : Value -> Shared -> Prop} (hl : IsRange s.heap l 0 j 1 t u v) (h1 : -(2 ^ 62) <= j) (h2 : j < 2 ^ 62)
  (h : Q (.ref s.heap.objs.size) { s with heap := s.heap.push (ritObj ((j.toNat : Int) - 1) j.toNat (-1)) }) : wpAny (model prog w) A (call (.builtin "range.__reversed__") [.ref l]) Q E s := by
 have hT : s.TypeIs (.ref l) "range" := ⟨_, hl, rfl⟩
 refine wpAny_call_entry F.slot_range_reversed hT F.entry_range_reversed ?_ (F.args_range_reversed_1 _)
 have hsz : Builtin.Range.rangeSize 0 j 1 = (j.toNat : Int) := by rw [rangeSize_one]; split <;> omega
 unfold Builtin.«range.__reversed__»
 refine wpAny_bind (wpAny_of_eq (a := Value.ref l) rfl ?_)
 unfold Builtin.Range.rangeFields
 refine wpAny_bind ?_
 refine wpAny_bind (wpAny_field hl rfl (x := .int 0 t) rfl ?_)
 refine wpAny_bind (wpAny_of_eq (a := some (0 : Int)) rfl ?_)
 refine wpAny_bind (wpAny_field hl rfl (x := .int j u) rfl ?_)
 refine wpAny_bind (wpAny_of_eq (a := some j) rfl ?_)
 refine wpAny_bind (wpAny_field hl rfl (x := .int 1 v) rfl ?_)
 refine wpAny_bind (wpAny_of_eq (a := some (1 : Int)) rfl ?_)
 refine wpAny_pure ?_
 dsimp only
 rw [hsz]
 have hsm : (Builtin.Range.rangeFitsLong 0 && Builtin.Range.rangeFitsLong j && Builtin.Range.rangeFitsLong 1 && Builtin.Range.rangeFitsLong (-1) && Builtin.Range.rangeFitsLong (0 - 1) && Builtin.Range.rangeFitsLong (j.toNat : Int)) = true := by
  simp only [Builtin.Range.rangeFitsLong, Bool.and_eq_true, decide_eq_true_eq]
  omega
 simp only [hsm, Bool.not_true, Bool.false_eq_true, if_false, if_true]
 have e : (0 : Int) + ((j.toNat : Int) - 1) * 1 = (j.toNat : Int) - 1 := by omega
 rw [e]
 exact wpAny_bind (wpAny_newObj_type (wpAny_pure ⟨_, rfl, h⟩))
theorem code_reversed_newR {l : Addr} {j : Int} {t u v : Tok} {Q₁ : Value -> Shared -> Prop} (hl : IsRange s.heap l 0 j 1 t u v) (h1 : -(2 ^ 62) <= j) (h2 : j < 2 ^ 62)
  (h : Q₁ (.ref s.heap.objs.size) { s with heap := s.heap.push (ritObj ((j.toNat : Int) - 1) j.toNat (-1)) }) :
  codeAny (model prog w) A (.call (.builtin "reversed.__new__") ⟨[.type "reversed", .ref l], []⟩) (wants Q₁ E) s := by
 have hT : s.TypeIs (.ref l) "range" := ⟨_, hl, rfl⟩
 refine codeAny_of_tree ?_
 show wpAny _ A.in1 (do checkBuiltinCall "reversed.__new__" ⟨[.type "reversed", .ref l], []⟩; again (.builtin "reversed.__new__" ⟨[.type "reversed", .ref l], []⟩)) _ _ s
 refine wpAny_bind (wpAny_of_eq (F.newCall_reversed_1 _) (wpAny_pure ⟨plainId_quiet F.plain_reversed_new _, codeAny_builtin F.entry_reversed_new ?_⟩))
 rw [Around.under_plainId F.plain_reversed_new _]
 unfold Builtin.«reversed.__new__»
 refine wpAny_bind (wpAny_of_eq (newClass_reversed _) ?_)
 try dsimp only
 refine wpAny_bind (wpAny_of_eq (a := ()) (by first | rfl | kernel_rfl) ?_)
 refine wpAny_bind (wpAny_of_eq (a := ()) (by first | rfl | kernel_rfl) ?_)
 try dsimp only
 refine wpAny_bind (wpAny_specialOf hT F.slot_range_reversed.lookup ?_)
 try dsimp only
 refine wpAny_bind (wpAny_of_eq (F.slot_range_reversed.bind _) ?_)
 try dsimp only
 first
 | rw [if_neg (show ¬ ((Value.builtin "range.__reversed__" == Value.none) = true) from Bool.false_ne_true)]
 | (show wpAny _ _ (if (Value.builtin "range.__reversed__" == Value.none) = true then _ else _) _ _ _; rw [if_neg (show ¬ ((Value.builtin "range.__reversed__" == Value.none) = true) from Bool.false_ne_true)])
 refine wpAny_bind (wpAny_rule ?_)
 refine wpAny_bind (m := runValue (.call (.builtin "range.__reversed__") ⟨[.ref l], []⟩)) (show wpAny _ _ (call (.builtin "range.__reversed__") [.ref l]) _ _ _ from call_range_reversed hl h1 h2 ?_)
 first
 | exact wpAny_pure h
 | exact wpAny_bind (wpAny_pure (wpAny_pure h))
theorem call_reversed_range {l : Addr} {j : Int} {t u v : Tok} {Q : Value -> Shared -> Prop} (hl : IsRange s.heap l 0 j 1 t u v) (h1 : -(2 ^ 62) <= j) (h2 : j < 2 ^ 62)
  (h : Q (.ref s.heap.objs.size) { s with heap := s.heap.push (ritObj ((j.toNat : Int) - 1) j.toNat (-1)) }) : wpAny (model prog w) A (call (.type "reversed") [.ref l]) Q E s := by
 refine callType_other (U := "range_iterator") (Q₁ := fun obj s₁ => obj = .ref s.heap.objs.size /\ s₁ = { s with heap := s.heap.push (ritObj ((j.toNat : Int) - 1) j.toNat (-1)) }) (by decide +kernel) F.create_reversed ⟨_, _, F.mro_reversed⟩ F.made_reversed sub_rit_reversed (F.typeCall_reversed_1 _) (code_reversed_newR hl h1 h2 ⟨rfl, rfl⟩) ?_
 rintro obj s₁ ⟨rfl, rfl⟩
 exact ⟨⟨_, Heap.get?_push_size _ rfl, rfl⟩, h⟩
end
noncomputable def Itdn (hi : Int) (n : Nat) : It := ⟨fun i _ => i < n, fun i H x H' => H' = H /\ x = .int (hi - i), fun i _ => n <= i⟩
theorem turn_down {P : Program} {w : World} {K : PySem.W.Frag} {tg : Expr} (it : Addr) (lo : Int) (n : Nat) : Turn P w K tg (Itdn lo n) [it] it (fun i h => IsRangeIter h it (lo + (i : Nat) * (-1)) ((n : Int) - (i : Nat)) (-1)) where
 mem := by simp
 obj := fun i h st b hb => by
  have e : b = it := by simpa using hb
  subst e
  exact ⟨_, st, fun v z => by
   have z' : Data.fields _ = Data.cell v := z
   cases z'⟩
 keep := fun i h h' st k => k it (by simp) _ st
 item := by
  intro X hP hw hK hc i pins s σ H E I hf st hg
  subst hP hw hK
  obtain ⟨f0, f1, f2, f3, f4, f5⟩ := hf it (by simp)
  have W := Walks.range (prog := X.prog) (w := X.w) (I.ok.hd hc) it lo (-1) n
  refine W.item i s _ _ hg st fun v h' tk hv st' kk => ?_
  obtain ⟨t, rfl⟩ := hv
  have I1 : Inv X pins σ H { s with heap := h', toks := tk } := I.turned (fun b o hb e => kk b o (by simpa using hb) e) f0 f1 f3 f4 f5
  refine ⟨_, rfl, go_of (s := { s with heap := h', toks := tk }) (n := "range_iterator") st' rfl rfl (by decide) ⟨.int (lo - i), H, I1, ⟨t, ?_⟩, ⟨rfl, rfl⟩, st', fun b hb => (hf b hb).1⟩⟩
  rw [show lo + (i : Int) * (-1) = lo - i by omega]
 done := by
  intro X hP hw hK hc i pins s σ H E I hf st hg
  subst hP hw hK
  obtain ⟨f0, f1, f2, f3, f4, f5⟩ := hf it (by simp)
  exact wpAny_pyNext_range_end (I.ok.hd hc) st (by have : n <= i := hg; omega) fun h' eb => ⟨rfl, I.turned (t' := s.toks) (fun b o hb e => eb b o hb e) f0 f1 f3 f4 f5⟩
 self := fun _ _ _ _ _ st h => wpAny_pyIter_rangeiter st h
section
variable {X : Cx}
noncomputable def downD (n : Nat) : List D := (List.range n).map fun (i : Nat) => D.int ((n : Int) - 1 - (i : Int))
theorem downD_length (n : Nat) : (downD n).length = n := by unfold downD; simp
theorem itd_down {K : W.Frag} {F : Hp} {n : Nat} : ItD K F (Itdn ((n : Int) - 1) n) (downD n) where
 go := fun i F1 H1 a b hi => by rw [downD_length] at hi; exact hi
 yld := fun i F1 H1 x H2 d a b e y => by
  obtain ⟨rfl, rfl⟩ := y
  unfold downD at e
  rw [getElem?_map] at e
  have hi : i < n := by
   rcases Nat.lt_or_ge i n with h | h
   ·exact h
   ·rw [getElem?_eq_none (by simpa using h)] at e; cases e
  rw [getElem?_range hi] at e
  cases e
  exact ⟨F1, .refl b, .int _⟩
 stop := fun F1 H1 a b => by rw [downD_length]; exact Nat.le_refl n
noncomputable def rngD : List D -> Option (List D)
 | [.int j] => if okR j = true then some (downD j.toNat) else none
 | _ => none
theorem pid_revR1 {tg a : Expr} {m : ML} {p p2 pos pos2 : Pos} (hg : Gl X "reversed") (hm : X.mg "reversed" = none) (hg' : Gl X "range") (hm' : X.mg "range" = none) (ha : PAs X [a] m) (he : starEach [a] X.env = (false, eval a X.env) :: starEach [] X.env := by rfl)
  (hpl : ∀ pos, (backTo pos (starEach [] X.env)).any (·.1) = false := by intro _; rfl)
  (hs : starEach (Expr.Call (.Name "range" p2) [a] [] pos2 :: []) X.env = (false, eval (Expr.Call (.Name "range" p2) [a] [] pos2) X.env) :: starEach [] X.env := by rfl) :
  PId X tg (.Call (.Name "reversed" p) [.Call (.Name "range" p2) [a] [] pos2] [] pos) (mlist rngD m) := by
 intro pins s σ H R I h
 obtain ⟨F0, H0, F, ρ, its, rl, e, q⟩ := h
 obtain ⟨ds, h1, h2⟩ := mlist_some e
 have A := pa_cons (pe_callTy call_rng1 hg' hm' boot_range ha (by decide) (by decide) he (hpl _)) pa_nil hs pos pins s σ H (fun vs H1 => ∃ p j F1 H2, vs = [.ref p] /\ ds = [.int j] /\ H2 p = none /\ H1 = upd H2 p (.rng 0 j) /\ Ext F H F1 H2) I ⟨F0, H0, F, ρ, ds, rl, h1, fun vs F1 H1 x1 r1 => by
  unfold rngD at h2
  split at h2
  ·rename_i j
   cases r1 with
   | cons r rr =>
    cases rr; cases r
    exact ⟨j, rfl, fun p hp => ⟨p, j, F1, H1, rfl, rfl, hp, rfl, x1⟩⟩
  ·cases h2⟩
 refine Call_ (ld_blt I hg hm boot_reversed (PyProof.Rows.callWith_type1 (thn A fun us s1 hpat => ?_) hs (hpl _)))
 obtain ⟨vs, H1, I1, r1, q1⟩ := hpat
 obtain ⟨l, j, F1, H2, ev, ed, hn, eH, x1⟩ := q1
 subst ev ed eH
 obtain ⟨u, rfl, ru⟩ := vals1 r1
 cases ru
 have h2 : (if okR j = true then some (downD j.toNat) else none) = some its := h2
 split at h2
 case isFalse => cases h2
 rename_i hk
 cases h2
 unfold okR at hk
 simp only [Bool.and_eq_true, decide_eq_true_eq] at hk
 obtain ⟨t, u, v, eo⟩ := I1.hok l _ upd_same
 refine call_reversed_range (j := j) eo hk.1 hk.2 ?_
 have hit : IsRangeIter (s1.heap.push (ritObj ((j.toNat : Int) - 1) j.toNat (-1))) s1.heap.objs.size ((j.toNat : Int) - 1) j.toNat (-1) := Heap.get?_push_size _ rfl
 refine wpAny_pyIter_rangeiter hit ?_
 have x2 : Ext F H F1 (upd H2 l (.rng 0 j)) := x1.trans (Ext.own x1.fh hn)
 refine ⟨s1.heap.objs.size, [s1.heap.objs.size], _, _, _, rfl, I1.kept (t' := s1.toks) fun b o e => Heap.get?_push_of_some _ e, turn_down _ ((j.toNat : Int) - 1) j.toNat, ?_, fun b hb => ?_, q _ F1 _ x2 itd_down⟩
 ·have e1 : ((j.toNat : Int) - 1) + ((0 : Nat) : Int) * (-1) = (j.toNat : Int) - 1 := by simp
  have e2 : ((j.toNat : Nat) : Int) - ((0 : Nat) : Int) = j.toNat := by simp
  show IsRangeIter _ _ (((j.toNat : Int) - 1) + ((0 : Nat) : Int) * (-1)) (((j.toNat : Nat) : Int) - ((0 : Nat) : Int)) (-1)
  rw [e1, e2]
  exact hit
 ·have e : b = s1.heap.objs.size := by simpa using hb
  subst e
  exact I1.fpOk (Nat.le_refl _) (I1.hok.fresh (Nat.le_refl _))
end
end
section
section
variable {X : Cx} {a b : Expr} {pos : Pos}
end
end
section
section
variable {X : Cx} {e : Expr} {pos : Pos} {es : List Expr} {E : XK} {mf : MG} {st : Stmt} {na : MEm}
end
section
variable {X : Cx} {a b : Expr} {pos : Pos}
noncomputable def repOk (n : Nat) (k : Int) : Bool := decide (-(2 ^ 62) <= k) && decide (k < 2 ^ 62) && decide (n * k.toNat <= sizeLine)
@[irreducible] noncomputable def mrep (x : ML) (y : ME) : ML := fun ρ => (x ρ).bind fun ds => match y ρ with
 | some (.int k) => if repOk ds.length k = true then some (List.replicate k.toNat ds).flatten else none
 | _ => none
theorem mrep_some {x : ML} {y : ME} {ρ : Ro} {gs : List D} (h : mrep x y ρ = some gs) : ∃ ds k, x ρ = some ds /\ y ρ = some (.int k) /\ repOk ds.length k = true /\ gs = (List.replicate k.toNat ds).flatten := by
 unfold mrep at h
 cases h1 : x ρ with
 | none => rw [h1] at h; cases h
 | some ds =>
  rw [h1, Option.bind_some] at h
  split at h
  ·rename_i k h2
   split at h
   ·rename_i hk
    exact ⟨ds, k, rfl, h2, hk, (Option.some.inj h).symm⟩
   ·cases h
  ·cases h
theorem mrep_ev {x : ML} {y : ME} {ρ : Ro} {ds : List D} {k : Int} (h1 : x ρ = some ds) (h2 : y ρ = some (.int k)) (hk : repOk ds.length k = true) : mrep x y ρ = some (List.replicate k.toNat ds).flatten := by
 unfold mrep
 rw [h1, Option.bind_some, h2]
 simp only [hk, if_true]
theorem reps_flat {K : W.Frag} {F : Hp} {xs : List V} {ds : List D} (r : Reps K F xs ds) : ∀ k : Nat, Reps K F (List.replicate k xs).flatten (List.replicate k ds).flatten
 | 0 => .nil
 | k + 1 => by
  rw [replicate_succ, replicate_succ, flatten_cons, flatten_cons]
  exact r.append (reps_flat r k)
theorem pf_rep {x : ML} {y : ME} (ha : PF X a x) (hb : PD X b y) : PF X (.BinOp a .Mult b pos) (mrep x y) := (pe_op op_rep ha hb).imp fun σ H Q hpat => by
 obtain ⟨F0, H0, F, ρ, g, rl, e, q⟩ := hpat
 obtain ⟨ds, k, h1, h2, hk, rfl⟩ := mrep_some e
 unfold repOk at hk
 simp only [Bool.and_eq_true, decide_eq_true_eq] at hk
 refine ⟨F0, H0, F, ρ, ds, rl, h1, fun p xs F1 H1 x1 n1 f1 g1 r1 => ⟨F0, H0, F1, ρ, .int k, rl.go x1, h2, fun v F2 H2 x2 r2 => ?_⟩⟩
 cases r2
 refine ⟨p, k, xs, rfl, rfl, x2.hh _ _ g1, by omega, by omega, by rw [r1.length]; exact hk.2, fun w hw => ?_⟩
 have xx := x1.trans x2
 exact q w _ F2 _ (xx.trans (Ext.own x2.fh hw)) (xx.hh.free hw) (x2.fh.free hw) upd_same (reps_flat (r1.mono x2.ff) k.toNat)
end
end
section
noncomputable def minN (mk : D -> Option D) (ds : List D) : Option D := match ds with
 | [] => none
 | d :: ds => (match mk d with | some kd => minF mk ds d kd | none => none)
section
variable {X : Cx} {pins : List (Addr × Obj)} {σ : St}
end
end
section
theorem args_max_kd (a v u : Value) : argsOk "max" ⟨[a], [(Str.ofString "key", v), (Str.ofString "default", u)]⟩ := by unfold argsOk; kernel_rfl
noncomputable def lenKey : D -> Option D
 | .lst ds => some (.int ds.length)
 | _ => none
noncomputable def gtI : D -> D -> Option Bool
 | .int i, .int j => some (decide (i > j))
 | _, _ => none
noncomputable def maxF : List D -> D -> D -> Option D
 | [], b, _ => some b
 | d :: ds, b, kb => match lenKey d with
  | some kd => (match gtI kd kb with | some true => maxF ds d kd | some false => maxF ds b kb | none => none)
  | none => none
noncomputable def maxD (ds : List D) (d0 : D) : Option D := match ds with
 | [] => some d0
 | d :: ds => (match lenKey d with | some kd => maxF ds d kd | none => none)
theorem gtI_inv {d e : D} {k : Bool} (h : gtI d e = some k) : ∃ i j, d = .int i /\ e = .int j /\ k = decide (i > j) := by
 cases d with
 | int i =>
  cases e with
  | int j => cases h; exact ⟨i, j, rfl, rfl, rfl⟩
  | _ => cases h
 | _ => cases h
theorem gt_at {K : W.Frag} {F F' : Hp} {A : Around} {s : Shared} {x y : V} {v u : Value} {d e : D} {k : Bool} (r1 : Rep K F x d) (r2 : Rep K F' y e) (q1 : RelV x v) (q2 : RelV y u) (h : gtI d e = some k) (prog : Program) (w : World) (E : Value -> Shared -> Prop) (Q : Value -> Shared -> Prop) (hQ : Q (.bool k) s) : wpAny (model prog w) A (richCompare .Gt v u) Q E s := by
 obtain ⟨i, j, rfl, rfl, rfl⟩ := gtI_inv h
 obtain rfl := r1.i'
 obtain rfl := r2.i'
 obtain ⟨t, rfl⟩ := q1
 obtain ⟨t', rfl⟩ := q2
 exact CmpOf.ints_gt (prog := prog) (w := w) (A := A) (P := fun n v => ∃ t, v = .int (if n = 1 then i else j) t) (fun n => if n = 1 then i else j) (fun i v h => h) 1 0 _ _ _ _ _ ⟨t, rfl⟩ ⟨t', rfl⟩ hQ
section
variable {X : Cx} {pins : List (Addr × Obj)} {σ : St}
theorem key_len (pins : List (Addr × Obj)) (σ : St) (H F : Hp) (s : Shared) (x : V) (u : Value) (d kd : D) (I : Inv X pins σ H s) (sf : Same F H) (r : Rep X.K F x d) (rx : RelV x u) (hm : lenKey d = some kd) :
  wpAny (model X.prog X.w) X.A.in1 (call (.builtin "len") [u]) (fun w s' => ∃ y F' H', Inv X pins σ H' s' /\ RelV y w /\ Ext F H F' H' /\ Rep X.K F' y kd) (fun _ _ => False) s := by
 cases r <;> first | (cases hm; done) | skip
 rename_i a xs ds sq rs
 cases hm
 cases rx
 have hn := line63
 obtain ⟨its, r', pl, hz⟩ := I.list (sf.seq sq)
 have hlen := r'.length
 refine Calls.call_len_list pl.isList (by simp only [size_toArray] <;> omega) ⟨.int ds.length, F, H, I.tok _, ⟨s.toks + 1, by rw [size_toArray, <- hlen, rs.length]⟩, .refl sf, .int _⟩
set_option maxHeartbeats 8000000 in
theorem max_loop (hc : X.calm = true) (hu : X.A.units + 64 < cLine) {l I S : Addr} {xs : List V} {ds : List D} {kw : List (Str × Value)} {dm : D} (hIS : I ≠ S) (hlI : l ≠ I) (hlS : l ≠ S) :
  ∀ (r j : Nat) (H F H0 F0 : Hp) (s : Shared) (xb yb : V) (vb kb : Value) (db kdb : D) (c : Nat) (R : Result -> Shared -> Prop),
   ds.length - (j + 1) = r -> j + 1 <= ds.length -> Inv X pins σ H s -> Ext F0 H0 F H -> SqL X.K H l xs -> Reps X.K F xs ds -> s.heap.IsListIter I l (j + 1) -> s.heap.get? S = some (seqObj "list" #[vb, kb] c) -> FpOk X pins H I -> FpOk X pins H S ->
   RelV xb vb -> Rep X.K F xb db -> RelV yb kb -> Rep X.K F yb kdb -> maxF (ds.drop (j + 1)) db kdb = some dm ->
   (∀ x v F' H' s', Inv X pins σ H' s' -> RelV x v -> Ext F0 H0 F' H' -> Rep X.K F' x dm -> R (.ok (.ret v)) s') ->
   codeAny (model X.prog X.w) X.A (.builtin "max.loop" ⟨[.ref I, .builtin "len", .ref S], kw⟩) R s := by
 have hname : (toString "max" ++ toString ".loop" : String) = "max.loop" := by decide
 intro r
 induction r with
 | zero =>
  intro j H F H0 F0 s xb yb vb kb db kdb c R hr hj I' ext sq rs hit hS fI fS rb pb ry py hm hR
  have hin : j + 1 = ds.length := by omega
  obtain ⟨its, vr, pl, _⟩ := I'.list sq
  have zl : its.length = ds.length := by rw [<- vr.length, rs.length]
  rw [hin, drop_length] at hm
  have hm : some db = some dm := hm
  cases hm
  refine codeAny_builtin PySem.F.entry_max_loop ?_
  rw [Around.under_plainId PySem.F.plain_max_loop _]
  show wpAny _ X.A.in1 (seqItems? (.ref S) >>= _) _ _ _
  refine wpAny_bind (wpAny_seqItems hS rfl ?_)
  show wpAny _ X.A.in1 (tryCatch (pyNext (.ref I)) _ >>= _) _ _ _
  refine wpAny_bind (wpAny_tryCatch (wpAny_pyNext_list_end (I'.ok.hd hc) hit pl.isList (by simp; omega) fun h' hk' => ?_))
  have hS' : h'.get? S = some (seqObj "list" #[vb, kb] c) := hk' S _ (Ne.symm hIS) hS
  have s1 := Heap.SameBut.update h' S (Obj.mapSeq fun _ => (#[] : Array Value))
  show wpAny _ X.A.in1 (updateSeq S (fun _ => #[]) >>= _) _ _ _
  refine wpAny_bind ?_
  refine wpAny_updateSeq hS' rfl (wpAny_bind (wpAny_letGo (wpAny_pure ?_)))
  have I9 : Inv X pins σ H { s with heap := h'.update S (Obj.mapSeq fun _ => (#[] : Array Value)), toks := s.toks } := I'.turnedL (fp := [I, S]) (t' := s.toks) (fun b o hb e => by
   simp only [mem_cons, not_mem_nil, or_false, not_or] at hb
   exact (s1.2 b hb.2).trans (hk' b o hb.1 e)) (fun b hb => by
   simp only [mem_cons, not_mem_nil, or_false] at hb
   rcases hb with rfl | rfl <;> assumption)
  exact hR xb vb F H _ I9 rb ext pb
 | succ r ih =>
  intro j H F H0 F0 s xb yb vb kb db kdb c R hr hj I' ext sq rs hit hS fI fS rb pb ry py hm hR
  have hlt : j + 1 < ds.length := by omega
  obtain ⟨its, vr, pl, _⟩ := I'.list sq
  have zl : its.length = ds.length := by rw [<- vr.length, rs.length]
  obtain ⟨d, hd⟩ : ∃ d, ds[j + 1]? = some d := ⟨_, getElem?_eq_getElem hlt⟩
  obtain ⟨x, hx, px⟩ := rs.get hd
  obtain ⟨v, hv, rx⟩ := vr.get hx
  rw [drop_get hd] at hm
  unfold maxF at hm
  cases hkd : lenKey d with
  | none => rw [hkd] at hm; cases hm
  | some kd =>
   rw [hkd] at hm
   dsimp only at hm
   refine codeAny_builtin PySem.F.entry_max_loop ?_
   rw [Around.under_plainId PySem.F.plain_max_loop _]
   show wpAny _ X.A.in1 (seqItems? (.ref S) >>= _) _ _ _
   refine wpAny_bind (wpAny_seqItems hS rfl ?_)
   show wpAny _ X.A.in1 (tryCatch (pyNext (.ref I)) _ >>= _) _ _ _
   refine wpAny_bind (wpAny_tryCatch (wpAny_pyNext_list_item hit pl.isList (by simpa using hv) fun h1 hit1 s1 => ?_))
   have I1 : Inv X pins σ H { s with heap := h1, toks := s.toks } := I'.turnedL (fp := [I]) (fun b o hb e => s1.extBut b o (by simpa using hb) e) (fun b hb => by rw [List.mem_singleton.mp hb]; exact fI)
   have hS1 : h1.get? S = some (seqObj "list" #[vb, kb] c) := s1.extBut _ _ (Ne.symm hIS) hS
   obtain ⟨oI, eI, cI, dI⟩ := id hit1
   have Ip := I1.pin2 fI fS eI hS1 (fun v z => by rw [dI] at z; cases z) (fun v z => by cases z)
   show wpAny _ X.A.in1 (tryCatch (holding [v] (call (.builtin "len") [v])) _ >>= _) _ _ _
   refine wpAny_bind (wpAny_tryCatch (wpAny_holding (wpAny_mono (key_len (pins ++ [(I, oI), (S, seqObj "list" #[vb, kb] c)]) σ H F _ x v d kd Ip ext.fh px rx hkd) (fun w s2 hw => ?_) fun _ _ z => z.elim)))
   obtain ⟨y, F2, H2, I2, rw2, x2, py2⟩ := hw
   have pI := I2.pin (I, oI) (by simp)
   have pS := I2.pin (S, seqObj "list" #[vb, kb] c) (by simp)
   have I2' : Inv X pins σ H2 s2 := I2.unpinned
   have fI2 : FpOk X pins H2 I := fI.now pI.2.1
   have fS2 : FpOk X pins H2 S := fS.now pS.2.1
   have hit2 : s2.heap.IsListIter I l (j + 1 + 1) := ⟨oI, pI.1, cI, dI⟩
   cases hlt8 : gtI kd kdb with
   | none => rw [hlt8] at hm; cases hm
   | some bt =>
    rw [hlt8] at hm
    have hcmp := gt_at (A := X.A.in1) (s := s2) py2 py rw2 ry hlt8
    show wpAny _ X.A.in1 (tryCatch (holding [v, w] (richCompare .Gt w kb >>= _)) _ >>= _) _ _ _
    refine wpAny_bind (wpAny_tryCatch (wpAny_holding (wpAny_bind (hcmp X.prog X.w _ _ ?_))))
    refine wpAny_bind (wpAny_holding (wpAny_truthy_bool ?_))
    refine wpAny_bind (wpAny_letGo (wpAny_pure ?_))
    cases bt with
    | true =>
     have s3 := Heap.SameBut.update s2.heap S (Obj.mapSeq fun _ => #[v, w])
     obtain ⟨c2, hc2⟩ : ∃ c2, (s2.heap.update S (Obj.mapSeq fun _ => #[v, w])).get? S = some (seqObj "list" #[v, w] c2) := ⟨_, get?_update_seq pS.1 fun _ => #[v, w]⟩
     simp only [if_true]
     refine wpAny_bind ?_
     refine wpAny_updateSeq pS.1 rfl (wpAny_bind (wpAny_letGo ?_))
     rw [hname]
     have I3 : Inv X pins σ H2 { s2 with heap := s2.heap.update S (Obj.mapSeq fun _ => #[v, w]), toks := s2.toks } := I2'.turnedL (fp := [S]) (fun b o hb e => (s3.2 b (by simpa using hb)).trans e) (fun b hb => by rw [List.mem_singleton.mp hb]; exact fS2)
     refine wpAny_pure ⟨plainId_quiet PySem.F.plain_max_loop _, ih (j + 1) H2 F2 H0 F0 _ x y v w d kd c2 R (by omega) hlt I3 (ext.trans x2) (x2.hh.seq sq) (rs.mono x2.ff) ⟨oI, (s3.2 I hIS).trans pI.1, cI, dI⟩ hc2 fI2 fS2 rx (px.mono x2.ff) rw2 py2 hm hR⟩
    | false =>
     simp only [Bool.false_eq_true, if_false]
     refine wpAny_bind (wpAny_letGo ?_)
     rw [hname]
     refine wpAny_pure ⟨plainId_quiet PySem.F.plain_max_loop _, ih (j + 1) H2 F2 H0 F0 _ xb yb vb kb db kdb c R (by omega) hlt I2' (ext.trans x2) (x2.hh.seq sq) (rs.mono x2.ff) hit2 pS.1 fI2 fS2 rb (pb.mono x2.ff) ry (py.mono x2.ff) hm hR⟩
set_option maxHeartbeats 8000000 in
theorem max_top (hc : X.calm = true) (hu : X.A.units + 64 < cLine) {l : Addr} {xs : List V} {ds : List D} {dm d0 : D} {H F : Hp} {s : Shared} {x0 : V} {v0 : Value} {E : Value -> Shared -> Prop} {Q : Value -> Shared -> Prop}
  (I : Inv X pins σ H s) (sf : Same F H) (sq : SqL X.K H l xs) (rs : Reps X.K F xs ds) (r0 : RelV x0 v0) (p0 : Rep X.K F x0 d0) (hm : maxD ds d0 = some dm)
  (hQ : ∀ x v F' H' s', Inv X pins σ H' s' -> RelV x v -> Ext F H F' H' -> Rep X.K F' x dm -> Q v s') :
  wpAny (model X.prog X.w) X.A (call (.builtin "max") [.ref l] [(Str.ofString "key", .builtin "len"), (Str.ofString "default", v0)]) Q E s := by
 have hname : (toString "max" ++ toString ".loop" : String) = "max.loop" := by decide
 obtain ⟨its, vr, pl, _⟩ := I.list sq
 have hls := pl.isList
 obtain ⟨ol, hol, _⟩ := id hls
 have hll : l < s.heap.objs.size := Heap.lt_size hol
 refine kmk_tree PySem.F.kind_max PySem.F.plain_max PySem.F.entry_max (args_max_kd _ _ _) ?_
 show wpAny _ X.A.in1 (Builtin.Builtins.bindParams "max" ["key", "default"] 0 ⟨[], [(Str.ofString "key", .builtin "len"), (Str.ofString "default", v0)]⟩ >>= _) _ _ s
 refine wpAny_bind (wpAny_of_eq (show Builtin.Builtins.bindParams "max" ["key", "default"] 0 ⟨[], [(Str.ofString "key", .builtin "len"), (Str.ofString "default", v0)]⟩ = pure [some (.builtin "len"), some v0] from rfl) ?_)
 refine wpAny_bind (wpAny_pure ?_)
 refine wpAny_bind (wpAny_pyIter_list hls ?_)
 refine wpAny_bind (wpAny_newList ?_ (Nat.zero_le _))
 rw [hname]
 refine wpAny_pure ⟨plainId_quiet PySem.F.plain_max_loop _, ?_⟩
 generalize hIo : ({ cls := .type "list_iterator", data := .fields #[.ref l, .int 0 0] } : Obj) = oI0
 have hS : (s.heap.push oI0).objs.size = s.heap.objs.size + 1 := size_push' ..
 have hlI : l ≠ s.heap.objs.size := Nat.ne_of_lt hll
 have hlS : l ≠ (s.heap.push oI0).objs.size := by rw [hS]; exact Nat.ne_of_lt (Nat.lt_succ_of_lt hll)
 have hIS : s.heap.objs.size ≠ (s.heap.push oI0).objs.size := by rw [hS]; exact Nat.ne_of_lt (Nat.lt_succ_self _)
 have gI : ((s.heap.push oI0).push (seqObj "list" #[] 0)).get? s.heap.objs.size = some oI0 := Heap.get?_push_of_some _ (Heap.get?_push_size _ (by rw [<- hIo]; rfl))
 have gS : ((s.heap.push oI0).push (seqObj "list" #[] 0)).get? (s.heap.push oI0).objs.size = some (seqObj "list" #[] 0) := Heap.get?_push_size _ rfl
 have fI : FpOk X pins H s.heap.objs.size := I.fpOk (Nat.le_refl _) (I.hok.fresh (Nat.le_refl _))
 have fS : FpOk X pins H (s.heap.push oI0).objs.size := I.fpOk (by rw [hS]; exact Nat.le_succ _) (I.hok.fresh (by rw [hS]; exact Nat.le_succ _))
 have I0 : Inv X pins σ H { s with heap := (s.heap.push oI0).push (seqObj "list" #[] 0), toks := s.toks } := I.turnedL (fp := []) (fun b o _ e => Heap.get?_push_of_some _ (Heap.get?_push_of_some _ e)) (fun b hb => by cases hb)
 generalize (s.heap.push oI0).objs.size = S at *
 generalize hI : s.heap.objs.size = J at *
 generalize (s.heap.push oI0).push (seqObj "list" #[] 0) = h0 at *
 have hit : h0.IsListIter J l 0 := ⟨_, gI, by rw [<- hIo], by rw [<- hIo]; rfl⟩
 have zl : its.length = ds.length := by rw [<- vr.length, rs.length]
 obtain ⟨its', vr', pl', _⟩ := I0.list sq
 have zl' : its'.length = ds.length := by rw [<- vr'.length, rs.length]
 refine codeAny_builtin PySem.F.entry_max_loop ?_
 rw [Around.under_plainId PySem.F.plain_max_loop _]
 show wpAny _ X.A.in1 (seqItems? (.ref S) >>= _) _ _ _
 refine wpAny_bind (wpAny_seqItems gS rfl ?_)
 show wpAny _ X.A.in1 (tryCatch (pyNext (.ref J)) _ >>= _) _ _ _
 cases ds with
 | nil =>
  have hm : some d0 = some dm := hm
  cases hm
  refine wpAny_bind (wpAny_tryCatch (wpAny_pyNext_list_end (I.ok.hd hc) hit pl'.isList (by simp at zl' ⊢; simp [zl']) fun h' hk' => ?_))
  refine wpAny_bind (wpAny_rule (wpAny_pure ?_))
  have I9 := I0.turnedL (h' := h') (fp := [J]) (t' := s.toks) (fun b o hb e => hk' b o (by simpa using hb) e) (fun b hb => by rw [List.mem_singleton.mp hb]; exact fI)
  exact hQ x0 v0 F H _ I9 r0 (Ext.refl sf) p0
 | cons d ds =>
  obtain ⟨x, hx, px⟩ := rs.get (i := 0) (d := d) rfl
  obtain ⟨v, hv, rx⟩ := vr'.get hx
  unfold maxD at hm
  dsimp only at hm
  cases hkd : lenKey d with
  | none => rw [hkd] at hm; cases hm
  | some kd =>
   rw [hkd] at hm
   dsimp only at hm
   refine wpAny_bind (wpAny_tryCatch (wpAny_pyNext_list_item hit pl'.isList (by simpa using hv) fun h1 hit1 s1 => ?_))
   have I1 := I0.turnedL (h' := h1) (t' := s.toks) (fp := [J]) (fun b o hb e => s1.extBut b o (by simpa using hb) e) (fun b hb => by rw [List.mem_singleton.mp hb]; exact fI)
   have hS1 : h1.get? S = some (seqObj "list" #[] 0) := s1.extBut _ _ (Ne.symm hIS) gS
   obtain ⟨oI, eI, cI, dI⟩ := id hit1
   have Ip := I1.pin2 fI fS eI hS1 (fun v z => by rw [dI] at z; cases z) (fun v z => by cases z)
   show wpAny _ X.A.in1 (tryCatch (holding [v] (call (.builtin "len") [v])) _ >>= _) _ _ _
   refine wpAny_bind (wpAny_tryCatch (wpAny_holding (wpAny_mono (key_len (pins ++ [(J, oI), (S, seqObj "list" #[] 0)]) σ H F _ x v d kd Ip sf px rx hkd) (fun w s2 hw => ?_) fun _ _ z => z.elim)))
   obtain ⟨y, F2, H2, I2, rw2, x2, py2⟩ := hw
   have pI := I2.pin (J, oI) (by simp)
   have pS := I2.pin (S, seqObj "list" #[] 0) (by simp)
   have I2' : Inv X pins σ H2 s2 := I2.unpinned
   have fI2 : FpOk X pins H2 J := fI.now pI.2.1
   have fS2 : FpOk X pins H2 S := fS.now pS.2.1
   have s3 := Heap.SameBut.update s2.heap S (Obj.mapSeq fun _ => #[v, w])
   obtain ⟨c2, hc2⟩ : ∃ c2, (s2.heap.update S (Obj.mapSeq fun _ => #[v, w])).get? S = some (seqObj "list" #[v, w] c2) := ⟨_, get?_update_seq pS.1 fun _ => #[v, w]⟩
   show wpAny _ X.A.in1 (updateSeq S (fun _ => #[v, w]) >>= _) _ _ _
   refine wpAny_bind (wpAny_updateSeq pS.1 rfl ?_)
   rw [hname]
   have I3 : Inv X pins σ H2 { s2 with heap := s2.heap.update S (Obj.mapSeq fun _ => #[v, w]), toks := s2.toks } := I2'.turnedL (fp := [S]) (fun b o hb e => (s3.2 b (by simpa using hb)).trans e) (fun b hb => by rw [List.mem_singleton.mp hb]; exact fS2)
   refine wpAny_pure ⟨plainId_quiet PySem.F.plain_max_loop _, max_loop hc hu (ds := d :: ds) (dm := dm) hIS hlI hlS _ 0 H2 F2 H F _ x y v w d kd c2 _ rfl (by simp) I3 x2 (x2.hh.seq sq) (rs.mono x2.ff) ⟨oI, (s3.2 J hIS).trans pI.1, cI, dI⟩ hc2 fI2 fS2 rx (px.mono x2.ff) rw2 py2 hm fun x v F' H' s' a b c d => hQ x v F' H' s' a b c d⟩
@[irreducible] noncomputable def mmaxLen (m : ML) (md : ME) : ME := fun ρ => (m ρ).bind fun ds => (md ρ).bind fun d0 => maxD ds d0
theorem mmaxLen_some {m : ML} {md : ME} {ρ : Ro} {g : D} (h : mmaxLen m md ρ = some g) : ∃ ds d0, m ρ = some ds /\ md ρ = some d0 /\ maxD ds d0 = some g := by
 unfold mmaxLen at h
 cases h1 : m ρ with
 | none => rw [h1] at h; cases h
 | some d =>
  cases h2 : md ρ with
  | none => rw [h1, h2] at h; cases h
  | some e => rw [h1, h2] at h; exact ⟨d, e, rfl, rfl, h⟩
theorem mmaxLen_ev {m : ML} {md : ME} {ρ : Ro} {ds : List D} {d0 : D} (h1 : m ρ = some ds) (h2 : md ρ = some d0) : mmaxLen m md ρ = maxD ds d0 := by
 unfold mmaxLen
 rw [h1, h2]; rfl
theorem pd_maxLen {p pf kp kp2 pos : Pos} {e ed : Expr} {m : ML} {md : ME} (hc : X.calm = true) (hu : X.A.units + 64 < cLine) (hg : Gl X "max") (hm : X.mg "max" = none) (hgf : Gl X "len") (hmf : X.mg "len" = none) (ha : PB X e m) (hd : PD X ed md)
  (hs : starEach (e :: []) X.env = (false, eval e X.env) :: starEach [] X.env := by rfl) :
  PD X (.Call (.Name "max" p) [e] [⟨some "key", .Name "len" pf, kp⟩, ⟨some "default", ed, kp2⟩] pos) (mmaxLen m md) := by
 intro pins s σ H Q I h
 obtain ⟨F0, H0, F, ρ, g, rl, em, q0⟩ := h
 obtain ⟨ds, d0, h1, h2, h3⟩ := mmaxLen_some em
 refine wpAny_Call_Name_kw (ld_blt I hg hm PyProof.Rows.boot_max ?_ (by decide) (by decide))
 have A := pa_cons ha pa_nil hs pos pins s σ H (fun vs H1 => ∃ p xs F1, vs = [.ref p] /\ Ext F H F1 H1 /\ SqL X.K H1 p xs /\ Reps X.K F1 xs ds) I ⟨F0, H0, F, ρ, ds, rl, h1, fun p xs F1 H1 x1 s1 r1 => ⟨p, xs, F1, rfl, x1, s1, r1⟩⟩
 refine callWith_kw (thn A fun us s1 hpat => ?_) (by rw [hs]; rfl) (by rw [hs]; rfl)
 obtain ⟨vs, H1, I1, r1, p, xs, F1, ev, x1, sq, rs⟩ := hpat
 subst ev
 obtain ⟨u, rfl, ru⟩ := vals1 r1
 cases ru
 show wpAny _ _ (evalAll ((do let v ← eval (.Name "len" pf) X.env; standAt pos; pure v) :: (backToKw pos (keywordEach [⟨some "default", ed, kp2⟩] X.env)).map (·.2))) _ _ s1
 refine wpAny_evalAll_cons (wpAny_bind (ld_blt I1 hgf hmf boot_len (wpAny_bind (wpAny_standAt (wpAny_pure ?_))) (by decide) (by decide)))
 have B := pk_cons (nm := some "default") (kpos := kp2) hd pk_nil pos pins s1 σ H1 (fun vs H2 => ∃ y F2, vs = [y] /\ Ext F1 H1 F2 H2 /\ Rep X.K F2 y d0) I1 ⟨F0, H0, F1, ρ, d0, rl.go x1, h2, fun y F2 H2 x2 r2 => ⟨y, F2, rfl, x2, r2⟩⟩
 refine thn B fun us s2 hpat => ?_
 obtain ⟨vs, H2, I2, r2, y, F2, ev, x2, p0⟩ := hpat
 subst ev
 obtain ⟨u2, rfl, ru2⟩ := vals1 r2
 exact max_top hc hu I2 x2.fh (x2.hh.seq sq) (rs.mono x2.ff) ru2 p0 h3 fun x v F' H' s' I' rx x3 px => ⟨x, H', I', rx, q0 x F' H' ((x1.trans x2).trans x3) px⟩
end
end
section
section
variable {X : Cx} {pins : List (Addr × Obj)} {σ : St}
end
section
variable {X : Cx}
end
end
section
theorem args_max_d (a u : Value) : argsOk "max" ⟨[a], [(Str.ofString "default", u)]⟩ := by unfold argsOk; kernel_rfl
noncomputable def maxP : List D -> D -> Option D
 | [], b => some b
 | d :: ds, b => (match gtI d b with | some true => maxP ds d | some false => maxP ds b | none => none)
noncomputable def maxE (ds : List D) (d0 : D) : Option D := match ds with
 | [] => some d0
 | d :: ds => maxP ds d
section
variable {X : Cx} {pins : List (Addr × Obj)} {σ : St}
set_option maxHeartbeats 8000000 in
theorem max_loop0 (hc : X.calm = true) (hu : X.A.units + 64 < cLine) {l I S : Addr} {xs : List V} {ds : List D} {kw : List (Str × Value)} {dm : D} (hIS : I ≠ S) (hlI : l ≠ I) (hlS : l ≠ S) :
  ∀ (r j : Nat) (H F H0 F0 : Hp) (s : Shared) (xb : V) (vb : Value) (db : D) (c : Nat) (R : Result -> Shared -> Prop),
   ds.length - (j + 1) = r -> j + 1 <= ds.length -> Inv X pins σ H s -> Ext F0 H0 F H -> SqL X.K H l xs -> Reps X.K F xs ds -> s.heap.IsListIter I l (j + 1) -> s.heap.get? S = some (seqObj "list" #[vb, vb] c) -> FpOk X pins H I -> FpOk X pins H S ->
   RelV xb vb -> Rep X.K F xb db -> maxP (ds.drop (j + 1)) db = some dm ->
   (∀ x v F' H' s', Inv X pins σ H' s' -> RelV x v -> Ext F0 H0 F' H' -> Rep X.K F' x dm -> R (.ok (.ret v)) s') ->
   codeAny (model X.prog X.w) X.A (.builtin "max.loop" ⟨[.ref I, .none, .ref S], kw⟩) R s := by
 have hname : (toString "max" ++ toString ".loop" : String) = "max.loop" := by decide
 intro r
 induction r with
 | zero =>
  intro j H F H0 F0 s xb vb db c R hr hj I' ext sq rs hit hS fI fS rb pb hm hR
  have hin : j + 1 = ds.length := by omega
  obtain ⟨its, vr, pl, _⟩ := I'.list sq
  have zl : its.length = ds.length := by rw [<- vr.length, rs.length]
  rw [hin, drop_length] at hm
  have hm : some db = some dm := hm
  cases hm
  refine codeAny_builtin PySem.F.entry_max_loop ?_
  rw [Around.under_plainId PySem.F.plain_max_loop _]
  show wpAny _ X.A.in1 (seqItems? (.ref S) >>= _) _ _ _
  refine wpAny_bind (wpAny_seqItems hS rfl ?_)
  show wpAny _ X.A.in1 (tryCatch (pyNext (.ref I)) _ >>= _) _ _ _
  refine wpAny_bind (wpAny_tryCatch (wpAny_pyNext_list_end (I'.ok.hd hc) hit pl.isList (by simp; omega) fun h' hk' => ?_))
  have hS' : h'.get? S = some (seqObj "list" #[vb, vb] c) := hk' S _ (Ne.symm hIS) hS
  have s1 := Heap.SameBut.update h' S (Obj.mapSeq fun _ => (#[] : Array Value))
  show wpAny _ X.A.in1 (updateSeq S (fun _ => #[]) >>= _) _ _ _
  refine wpAny_bind ?_
  refine wpAny_updateSeq hS' rfl (wpAny_bind (wpAny_letGo (wpAny_pure ?_)))
  have I9 : Inv X pins σ H { s with heap := h'.update S (Obj.mapSeq fun _ => (#[] : Array Value)), toks := s.toks } := I'.turnedL (fp := [I, S]) (t' := s.toks) (fun b o hb e => by
   simp only [mem_cons, not_mem_nil, or_false, not_or] at hb
   exact (s1.2 b hb.2).trans (hk' b o hb.1 e)) (fun b hb => by
   simp only [mem_cons, not_mem_nil, or_false] at hb
   rcases hb with rfl | rfl <;> assumption)
  exact hR xb vb F H _ I9 rb ext pb
 | succ r ih =>
  intro j H F H0 F0 s xb vb db c R hr hj I' ext sq rs hit hS fI fS rb pb hm hR
  have hlt : j + 1 < ds.length := by omega
  obtain ⟨its, vr, pl, _⟩ := I'.list sq
  have zl : its.length = ds.length := by rw [<- vr.length, rs.length]
  obtain ⟨d, hd⟩ : ∃ d, ds[j + 1]? = some d := ⟨_, getElem?_eq_getElem hlt⟩
  obtain ⟨x, hx, px⟩ := rs.get hd
  obtain ⟨v, hv, rx⟩ := vr.get hx
  rw [drop_get hd] at hm
  unfold maxP at hm
  refine codeAny_builtin PySem.F.entry_max_loop ?_
  rw [Around.under_plainId PySem.F.plain_max_loop _]
  show wpAny _ X.A.in1 (seqItems? (.ref S) >>= _) _ _ _
  refine wpAny_bind (wpAny_seqItems hS rfl ?_)
  show wpAny _ X.A.in1 (tryCatch (pyNext (.ref I)) _ >>= _) _ _ _
  refine wpAny_bind (wpAny_tryCatch (wpAny_pyNext_list_item hit pl.isList (by simpa using hv) fun h1 hit1 s1 => ?_))
  have I1 : Inv X pins σ H { s with heap := h1, toks := s.toks } := I'.turnedL (fp := [I]) (fun b o hb e => s1.extBut b o (by simpa using hb) e) (fun b hb => by rw [List.mem_singleton.mp hb]; exact fI)
  have hS1 : h1.get? S = some (seqObj "list" #[vb, vb] c) := s1.extBut _ _ (Ne.symm hIS) hS
  cases hlt8 : gtI d db with
  | none => rw [hlt8] at hm; cases hm
  | some bt =>
   rw [hlt8] at hm
   have hcmp := gt_at (A := X.A.in1) (s := { s with heap := h1, toks := s.toks }) px pb rx rb hlt8
   refine wpAny_bind (wpAny_pure ?_)
   show wpAny _ X.A.in1 (tryCatch (holding [v, v] (richCompare .Gt v vb >>= _)) _ >>= _) _ _ _
   refine wpAny_bind (wpAny_tryCatch (wpAny_holding (wpAny_bind (hcmp X.prog X.w _ _ ?_))))
   refine wpAny_bind (wpAny_holding (wpAny_truthy_bool ?_))
   refine wpAny_bind (wpAny_letGo (wpAny_pure ?_))
   cases bt with
   | true =>
    have s3 := Heap.SameBut.update h1 S (Obj.mapSeq fun _ => #[v, v])
    obtain ⟨c2, hc2⟩ : ∃ c2, (h1.update S (Obj.mapSeq fun _ => #[v, v])).get? S = some (seqObj "list" #[v, v] c2) := ⟨_, get?_update_seq hS1 fun _ => #[v, v]⟩
    simp only [if_true]
    refine wpAny_bind ?_
    refine wpAny_updateSeq hS1 rfl (wpAny_bind (wpAny_letGo ?_))
    rw [hname]
    have I3 := I1.turnedL (h' := h1.update S (Obj.mapSeq fun _ => #[v, v])) (t' := s.toks) (fp := [S]) (fun b o hb e => (s3.2 b (by simpa using hb)).trans e) (fun b hb => by rw [List.mem_singleton.mp hb]; exact fS)
    refine wpAny_pure ⟨plainId_quiet PySem.F.plain_max_loop _, ih (j + 1) H F H0 F0 _ x v d c2 R (by omega) hlt I3 ext sq rs (hit1.at fun o e => (s3.2 I hIS).trans e) hc2 fI fS rx px hm hR⟩
   | false =>
    simp only [Bool.false_eq_true, if_false]
    refine wpAny_bind (wpAny_letGo ?_)
    rw [hname]
    refine wpAny_pure ⟨plainId_quiet PySem.F.plain_max_loop _, ih (j + 1) H F H0 F0 _ xb vb db c R (by omega) hlt I1 ext sq rs hit1 hS1 fI fS rb pb hm hR⟩
set_option maxHeartbeats 8000000 in
theorem max_topD (hc : X.calm = true) (hu : X.A.units + 64 < cLine) {l : Addr} {xs : List V} {ds : List D} {dm d0 : D} {H F : Hp} {s : Shared} {x0 : V} {v0 : Value} {E : Value -> Shared -> Prop} {Q : Value -> Shared -> Prop}
  (I : Inv X pins σ H s) (sf : Same F H) (sq : SqL X.K H l xs) (rs : Reps X.K F xs ds) (r0 : RelV x0 v0) (p0 : Rep X.K F x0 d0) (hm : maxE ds d0 = some dm)
  (hQ : ∀ x v F' H' s', Inv X pins σ H' s' -> RelV x v -> Ext F H F' H' -> Rep X.K F' x dm -> Q v s') :
  wpAny (model X.prog X.w) X.A (call (.builtin "max") [.ref l] [(Str.ofString "default", v0)]) Q E s := by
 have hname : (toString "max" ++ toString ".loop" : String) = "max.loop" := by decide
 obtain ⟨its, vr, pl, _⟩ := I.list sq
 have hls := pl.isList
 obtain ⟨ol, hol, _⟩ := id hls
 have hll : l < s.heap.objs.size := Heap.lt_size hol
 refine kmk_tree PySem.F.kind_max PySem.F.plain_max PySem.F.entry_max (args_max_d _ _) ?_
 show wpAny _ X.A.in1 (Builtin.Builtins.bindParams "max" ["key", "default"] 0 ⟨[], [(Str.ofString "default", v0)]⟩ >>= _) _ _ s
 refine wpAny_bind (wpAny_of_eq (show Builtin.Builtins.bindParams "max" ["key", "default"] 0 ⟨[], [(Str.ofString "default", v0)]⟩ = pure [none, some v0] from rfl) ?_)
 refine wpAny_bind (wpAny_pure ?_)
 refine wpAny_bind (wpAny_pyIter_list hls ?_)
 refine wpAny_bind (wpAny_newList ?_ (Nat.zero_le _))
 rw [hname]
 refine wpAny_pure ⟨plainId_quiet PySem.F.plain_max_loop _, ?_⟩
 generalize hIo : ({ cls := .type "list_iterator", data := .fields #[.ref l, .int 0 0] } : Obj) = oI0
 have hS : (s.heap.push oI0).objs.size = s.heap.objs.size + 1 := size_push' ..
 have hlI : l ≠ s.heap.objs.size := Nat.ne_of_lt hll
 have hlS : l ≠ (s.heap.push oI0).objs.size := by rw [hS]; exact Nat.ne_of_lt (Nat.lt_succ_of_lt hll)
 have hIS : s.heap.objs.size ≠ (s.heap.push oI0).objs.size := by rw [hS]; exact Nat.ne_of_lt (Nat.lt_succ_self _)
 have gI : ((s.heap.push oI0).push (seqObj "list" #[] 0)).get? s.heap.objs.size = some oI0 := Heap.get?_push_of_some _ (Heap.get?_push_size _ (by rw [<- hIo]; rfl))
 have gS : ((s.heap.push oI0).push (seqObj "list" #[] 0)).get? (s.heap.push oI0).objs.size = some (seqObj "list" #[] 0) := Heap.get?_push_size _ rfl
 have fI : FpOk X pins H s.heap.objs.size := I.fpOk (Nat.le_refl _) (I.hok.fresh (Nat.le_refl _))
 have fS : FpOk X pins H (s.heap.push oI0).objs.size := I.fpOk (by rw [hS]; exact Nat.le_succ _) (I.hok.fresh (by rw [hS]; exact Nat.le_succ _))
 have I0 : Inv X pins σ H { s with heap := (s.heap.push oI0).push (seqObj "list" #[] 0), toks := s.toks } := I.turnedL (fp := []) (fun b o _ e => Heap.get?_push_of_some _ (Heap.get?_push_of_some _ e)) (fun b hb => by cases hb)
 generalize (s.heap.push oI0).objs.size = S at *
 generalize hI : s.heap.objs.size = J at *
 generalize (s.heap.push oI0).push (seqObj "list" #[] 0) = h0 at *
 have hit : h0.IsListIter J l 0 := ⟨_, gI, by rw [<- hIo], by rw [<- hIo]; rfl⟩
 have zl : its.length = ds.length := by rw [<- vr.length, rs.length]
 obtain ⟨its', vr', pl', _⟩ := I0.list sq
 have zl' : its'.length = ds.length := by rw [<- vr'.length, rs.length]
 refine codeAny_builtin PySem.F.entry_max_loop ?_
 rw [Around.under_plainId PySem.F.plain_max_loop _]
 show wpAny _ X.A.in1 (seqItems? (.ref S) >>= _) _ _ _
 refine wpAny_bind (wpAny_seqItems gS rfl ?_)
 show wpAny _ X.A.in1 (tryCatch (pyNext (.ref J)) _ >>= _) _ _ _
 cases ds with
 | nil =>
  have hm : some d0 = some dm := hm
  cases hm
  refine wpAny_bind (wpAny_tryCatch (wpAny_pyNext_list_end (I.ok.hd hc) hit pl'.isList (by simp at zl' ⊢; simp [zl']) fun h' hk' => ?_))
  refine wpAny_bind (wpAny_rule (wpAny_pure ?_))
  have I9 := I0.turnedL (h' := h') (fp := [J]) (t' := s.toks) (fun b o hb e => hk' b o (by simpa using hb) e) (fun b hb => by rw [List.mem_singleton.mp hb]; exact fI)
  exact hQ x0 v0 F H _ I9 r0 (Ext.refl sf) p0
 | cons d ds =>
  obtain ⟨x, hx, px⟩ := rs.get (i := 0) (d := d) rfl
  obtain ⟨v, hv, rx⟩ := vr'.get hx
  refine wpAny_bind (wpAny_tryCatch (wpAny_pyNext_list_item hit pl'.isList (by simpa using hv) fun h1 hit1 s1 => ?_))
  have I1 := I0.turnedL (h' := h1) (t' := s.toks) (fp := [J]) (fun b o hb e => s1.extBut b o (by simpa using hb) e) (fun b hb => by rw [List.mem_singleton.mp hb]; exact fI)
  have hS1 : h1.get? S = some (seqObj "list" #[] 0) := s1.extBut _ _ (Ne.symm hIS) gS
  refine wpAny_bind (wpAny_pure ?_)
  have s3 := Heap.SameBut.update h1 S (Obj.mapSeq fun _ => #[v, v])
  obtain ⟨c2, hc2⟩ : ∃ c2, (h1.update S (Obj.mapSeq fun _ => #[v, v])).get? S = some (seqObj "list" #[v, v] c2) := ⟨_, get?_update_seq hS1 fun _ => #[v, v]⟩
  show wpAny _ X.A.in1 (updateSeq S (fun _ => #[v, v]) >>= _) _ _ _
  refine wpAny_bind (wpAny_updateSeq hS1 rfl ?_)
  rw [hname]
  have I3 := I1.turnedL (h' := h1.update S (Obj.mapSeq fun _ => #[v, v])) (t' := s.toks) (fp := [S]) (fun b o hb e => (s3.2 b (by simpa using hb)).trans e) (fun b hb => by rw [List.mem_singleton.mp hb]; exact fS)
  exact wpAny_pure ⟨plainId_quiet PySem.F.plain_max_loop _, max_loop0 hc hu (ds := d :: ds) (dm := dm) hIS hlI hlS _ 0 H F H F _ x v d c2 _ rfl (by simp) I3 (.refl sf) sq rs (hit1.at fun o e => (s3.2 J hIS).trans e) hc2 fI fS rx px hm fun x v F' H' s' a b c d => hQ x v F' H' s' a b c d⟩
@[irreducible] noncomputable def mmaxE (m : ML) (md : ME) : ME := fun ρ => (m ρ).bind fun ds => (md ρ).bind fun d0 => maxE ds d0
theorem mmaxE_some {m : ML} {md : ME} {ρ : Ro} {g : D} (h : mmaxE m md ρ = some g) : ∃ ds d0, m ρ = some ds /\ md ρ = some d0 /\ maxE ds d0 = some g := by
 unfold mmaxE at h
 cases h1 : m ρ with
 | none => rw [h1] at h; cases h
 | some d =>
  cases h2 : md ρ with
  | none => rw [h1, h2] at h; cases h
  | some e => rw [h1, h2] at h; exact ⟨d, e, rfl, rfl, h⟩
theorem mmaxE_ev {m : ML} {md : ME} {ρ : Ro} {ds : List D} {d0 : D} (h1 : m ρ = some ds) (h2 : md ρ = some d0) : mmaxE m md ρ = maxE ds d0 := by
 unfold mmaxE
 rw [h1, h2]; rfl
theorem pd_maxE {p kp2 pos : Pos} {e ed : Expr} {m : ML} {md : ME} (hc : X.calm = true) (hu : X.A.units + 64 < cLine) (hg : Gl X "max") (hm : X.mg "max" = none) (ha : PB X e m) (hd : PD X ed md)
  (hs : starEach (e :: []) X.env = (false, eval e X.env) :: starEach [] X.env := by rfl) :
  PD X (.Call (.Name "max" p) [e] [⟨some "default", ed, kp2⟩] pos) (mmaxE m md) := by
 intro pins s σ H Q I h
 obtain ⟨F0, H0, F, ρ, g, rl, em, q0⟩ := h
 obtain ⟨ds, d0, h1, h2, h3⟩ := mmaxE_some em
 refine wpAny_Call_Name_kw (ld_blt I hg hm PyProof.Rows.boot_max ?_ (by decide) (by decide))
 have A := pa_cons ha pa_nil hs pos pins s σ H (fun vs H1 => ∃ p xs F1, vs = [.ref p] /\ Ext F H F1 H1 /\ SqL X.K H1 p xs /\ Reps X.K F1 xs ds) I ⟨F0, H0, F, ρ, ds, rl, h1, fun p xs F1 H1 x1 s1 r1 => ⟨p, xs, F1, rfl, x1, s1, r1⟩⟩
 refine callWith_kw (thn A fun us s1 hpat => ?_) (by rw [hs]; rfl) (by rw [hs]; rfl)
 obtain ⟨vs, H1, I1, r1, p, xs, F1, ev, x1, sq, rs⟩ := hpat
 subst ev
 obtain ⟨u, rfl, ru⟩ := vals1 r1
 cases ru
 have B := pk_cons (nm := some "default") (kpos := kp2) hd pk_nil pos pins s1 σ H1 (fun vs H2 => ∃ y F2, vs = [y] /\ Ext F1 H1 F2 H2 /\ Rep X.K F2 y d0) I1 ⟨F0, H0, F1, ρ, d0, rl.go x1, h2, fun y F2 H2 x2 r2 => ⟨y, F2, rfl, x2, r2⟩⟩
 refine thn B fun us s2 hpat => ?_
 obtain ⟨vs, H2, I2, r2, y, F2, ev, x2, p0⟩ := hpat
 subst ev
 obtain ⟨u2, rfl, ru2⟩ := vals1 r2
 exact max_topD hc hu I2 x2.fh (x2.hh.seq sq) (rs.mono x2.ff) ru2 p0 h3 fun x v F' H' s' I' rx x3 px => ⟨x, H', I', rx, q0 x F' H' ((x1.trans x2).trans x3) px⟩
end
end
end L2
namespace L2
open List
open PySem PySem.Spec PyProof.Rows PySem.Builtin PySem.Builtin.Str
section
section
variable {X : Cx} {a b c e o : Expr} {ma mb mo : ME} {pos : Pos}
end
end
section
section
variable {X : Cx} {a b c e o : Expr} {ma mb mo : ME} {pos : Pos}
end
end
end L2
namespace L2
open List
open PySem PySem.Spec PyProof.Rows
section
noncomputable def blkRoO (src : List (Option Nat)) (ρ : Ro) : Ro := src.map fun o => o.bind fun i => match ρ[i]? with | some (some (.sh d)) => some (.sh d) | some (some (.own ds)) => some (.own ds) | _ => none
@[irreducible] noncomputable def mcompO (src : List (Option Nat)) (mi : ML) (g : Tg) (c : MB) (elt : ME) : ML := fun ρ => (mi ρ).bind fun its => compD g c elt its (blkRoO src ρ) []
def srcOk (src : List (Option Nat)) : Prop := ∀ i j k : Nat, src[i]? = some (some k) -> src[j]? = some (some k) -> i = j
theorem srcOk_of {src : List (Option Nat)} (h : ∀ i, i < src.length -> ∀ j, j < src.length -> src[i]? = src[j]? -> src[i]? = some none \/ i = j) : srcOk src := fun i j k hi hj => by
 have li := (List.getElem?_eq_some_iff.mp hi).1
 have lj := (List.getElem?_eq_some_iff.mp hj).1
 rcases h i li j lj (by rw [hi, hj]) with e | e
 ·rw [hi] at e; cases e
 ·exact e
theorem blkO_at {src : List (Option Nat)} {ρ : Ro} {i : Nat} {x : S} (e : (blkRoO src ρ)[i]? = some (some x)) : ∃ k, src[i]? = some (some k) /\ ρ[k]? = some (some x) /\ nob (some x) := by
 unfold blkRoO at e
 rw [getElem?_map] at e
 cases h : src[i]? with
 | none => rw [h] at e; cases e
 | some o =>
  rw [h] at e
  cases o with
  | none => cases e
  | some k =>
   simp only [Option.map_some, Option.bind_some] at e
   split at e
   ·rename_i d h'; cases e; exact ⟨k, rfl, h', True.intro⟩
   ·rename_i ds h'; cases e; exact ⟨k, rfl, h', True.intro⟩
   ·cases e
theorem blk0_at {src : List (Option Nat)} {σ : St} {i k : Nat} {v : V} (h : src[i]? = some (some k)) (hv : σ[k]? = some (some v)) : (blk0 src σ)[i]? = some (some v) := by
 unfold blk0
 rw [getElem?_map, h]
 simp only [Option.map_some, Option.bind_some, hv]; rfl
theorem blk0_back {src : List (Option Nat)} {σ : St} {i k : Nat} {v : V} (h : src[i]? = some (some k)) (hv : (blk0 src σ)[i]? = some (some v)) : σ[k]? = some (some v) := by
 unfold blk0 at hv
 rw [getElem?_map, h] at hv
 simp only [Option.map_some, Option.bind_some] at hv
 cases hk : σ[k]? with
 | none => rw [hk] at hv; cases hv
 | some o => rw [hk] at hv; simpa using hv
theorem Rl.blkO {K : W.Frag} {F0 H0 F H : Hp} {σ : St} {ρ : Ro} (r : Rl K F0 H0 F H σ ρ) {src : List (Option Nat)} (ok : srcOk src) {p : Addr} (hp : H p = none) : Rl K F (upd F p (.lst [])) F (upd H p (.lst [])) (blk0 src σ) (blkRoO src ρ) := by
 have hF : F p = none := r.fh.free hp
 refine ⟨⟨Same.refl F, r.fh.put2, r.fh.put hF, fun b e n => absurd e n, fun _ _ _ z => z⟩, by unfold blk0 blkRoO; simp, fun i d e => ?_, fun i ds e => ?_, fun i j q ds es hij e1 e2 s1 s2 => ?_, fun i q ds e => ?_, fun i j q ds es e => ?_, fun i j q q' ds es e => ?_⟩
 ·obtain ⟨k, h1, h2, _⟩ := blkO_at e
  obtain ⟨v, a, b⟩ := r.sh k d h2
  exact ⟨v, blk0_at h1 a, b⟩
 ·obtain ⟨k, h1, h2, _⟩ := blkO_at e
  obtain ⟨q, xs, a, b, c, d, z⟩ := r.own k ds h2
  have hq : q ≠ p := fun w => by rw [w, hp] at c; cases c
  exact ⟨q, xs, blk0_at h1 a, b, by rw [upd_ne hq]; exact c, d, by rw [upd_ne hq]; exact b⟩
 ·obtain ⟨k, h1, h2, _⟩ := blkO_at e1
  obtain ⟨l, h3, h4, _⟩ := blkO_at e2
  refine r.inj k l q ds es (fun w => ?_) h2 h4 (blk0_back h1 s1) (blk0_back h3 s2)
  subst w
  exact hij (ok i j k h1 h3)
 ·obtain ⟨k, h1, h2, n⟩ := blkO_at e; exact n.elim
 ·obtain ⟨k, h1, h2, n⟩ := blkO_at e; exact n.elim
 ·obtain ⟨k, h1, h2, n⟩ := blkO_at e; exact n.elim
theorem comp_tfO {K : W.Frag} {src : List (Option Nat)} {mi : ML} {g : Tg} {c : MB} {elt : ME} (so : srcOk src) {σ : St} {H : Hp} {Q : VK} (h : TF K (mcompO src mi g c elt) σ H Q) : tComp src (TId K mi) (TGd K g) (TC K c) (TD K elt) σ H Q := by
 obtain ⟨F0, H0, F, ρ, out, rl, e, q⟩ := h
 unfold mcompO at e
 cases h1 : mi ρ with
 | none => rw [h1] at e; cases e
 | some its =>
  rw [h1] at e
  refine ⟨F0, H0, F, ρ, its, rl, h1, fun J F1 H1 x1 I p hp => ?_⟩
  exact comp_loop x1.fh hp ((rl.go x1).blkO so hp) I e fun xs F' H' xe hF' hH' ra => q p xs F' H' (x1.trans xe) (x1.hh.free hp) hF' hH' ra
section
variable {X : Cx} {a b c e o : Expr} {ma mb mo : ME} {pos : Pos} {st : Stmt}
theorem pf_compO {sc : Scope} {N : List Str} {src : List (Option Nat)} {tg elt iter : Expr} {ifs : List Expr} {mi : ML} {g : Tg} {cc : MB} {me : ME} (so : srcOk src) (B : Blk X sc N src) (hc : X.calm = true)
  (hi : PId X tg iter mi) (hg : ∀ C fp s H, PGd (blkCx X sc C N fp s H) tg g) (ht : ∀ C fp s H, PTsd (blkCx X sc C N fp s H) ifs cc) (he : ∀ C fp s H, PD (blkCx X sc C N fp s H) elt me)
  (hs : ∀ x, foldedSetIterable iter X.env x = pure x := by intro _; rfl) :
  PF X (.ListComp elt [⟨tg, iter, ifs, 0⟩] sc pos) (mcompO src mi g cc me) := (pe_comp (g := TGd X.K g) (tc := TC X.K cc) (te := TD X.K me) B hc hi (fun C fp s H => hg C fp s H) (fun C fp s H => ht C fp s H) (fun C fp s H => he C fp s H) hs).imp fun _ _ _ h => comp_tfO so h
end
end
section
section
variable {prog : Program} {w : World} {A : Around} {E : Value -> Shared -> Prop} {s : Shared} {l : Addr} {xs : Array (Int × Tok)}
end
section
variable {X : Cx} {a b c e o : Expr} {ma mb mo : ME} {pos : Pos} {st : Stmt}
end
section
variable {X : Cx} {a b c e : Expr} {na nb : MEm} {pos : Pos} {st : Stmt} {es : List Expr} {E : XK} {mf : MF} {m : MLm}
noncomputable abbrev MBm := Ro -> Option (Bool × Ro)
def TCm (K : W.Frag) (c : MBm) : TT := fun σ H Q => ∃ F0 H0 F ρ b ρ', Rl K F0 H0 F H σ ρ /\ c ρ = some (b, ρ') /\ ∀ F' H', Rl K F0 H0 F' H' σ ρ' -> Same F F' -> Q b H'
@[irreducible] noncomputable def mtestm (x : MEm) : MBm := fun ρ => match x ρ with | some (.bl b, ρ1) => some (b, ρ1) | _ => none
theorem pcm_cmp {op : CmpOp} {r : R2} {f : D -> D -> Option D} (ho : OpR X (compareOp op) r) (hf : OpD X.K r f) (ha : PDm X a na) (hb : PDm X b nb) (hm : behindInMarks op b = false) : PT X (.Compare a [op] [b] pos) (TCm X.K (mtestm (m2m f na nb))) := (pt_cmpR ho ha hb hm).imp fun σ H Q hpat => by
 obtain ⟨F0, H0, F, ρ, g, ρ', rl, e, q⟩ := hpat
 unfold mtestm at e
 split at e
 ·rename_i k ρ1 hk
  cases e
  refine opm_d hf ⟨F0, H0, F, ρ, .bl g, ρ', rl, hk, fun v F' H' rl' s' r => ?_⟩
  cases r
  exact ⟨_, rfl, q F' H' rl' s'⟩
 ·cases e
@[irreducible] noncomputable def mifm (c : MBm) (x y : MS) : MS := fun ρ => match c ρ with | some (true, ρ1) => x ρ1 | some (false, ρ1) => y ρ1 | none => none
theorem psd_ifm {ca : MBm} {x y : List Stmt} {mx my : MS} (hc : PT X c (TCm X.K ca)) (hx : PSsd X x mx) (hy : PSsd X y my) : PSd X (.If c x y pos) (mifm ca mx my) := (ps_if hc hx hy).imp fun D σ H hpat => by
 obtain ⟨F0, H0, F, ρ, o, rl, e, ok⟩ := hpat
 unfold mifm at e
 split at e
 ·rename_i ρ1 h1
  exact ⟨F0, H0, F, ρ, _, ρ1, rl, h1, fun F1 H1 rl1 s1 => iteT ⟨F0, H0, F1, ρ1, o, rl1, e, ok.mono s1⟩⟩
 ·rename_i ρ1 h1
  exact ⟨F0, H0, F, ρ, _, ρ1, rl, h1, fun F1 H1 rl1 s1 => iteF ⟨F0, H0, F1, ρ1, o, rl1, e, ok.mono s1⟩⟩
 ·cases e
end
end
section
section
variable {X : Cx} {a b c e : Expr} {na nb : MEm} {pos : Pos} {st : Stmt} {es : List Expr} {m : MLm}
@[irreducible] noncomputable def mappm (i : Nat) (x : MEm) : MS := fun ρ => match ρ[i]? with
 | some (some (.own _)) => (match x ρ with
  | some (d, ρ1) => (match ρ1[i]? with | some (some (.own ds)) => if ds.length < sizeLine then some (.nx (ρ1.set i (some (.own (ds ++ [d]))))) else none | _ => none)
  | none => none)
 | _ => none
theorem psd_appm {i : Nat} {x : Str} {px apos cpos : Pos} (hE : ∀ t, PA X [e] t -> PE X (.Call (.Attribute (.Name x px) "append" apos) [e] [] cpos) (tBM X.K "list" rAppend (tVar i) t)) (hA : PAm X [e] (aconsm na (apu anil))) (hs : swapsWith (.Call (.Attribute (.Name x px) "append" apos) [e] [] cpos) none pos.line X.env = pure false := by rfl) :
  PSd X (.Expr (.Call (.Attribute (.Name x px) "append" apos) [e] [] cpos) pos) (mappm i na) := (ps_expr (hE _ hA) hs).imp fun D σ H hpat => by
 obtain ⟨F0, H0, F, ρ, o, rl, e, ok⟩ := hpat
 unfold mappm at e
 split at e
 ·rename_i ds0 h0
  obtain ⟨p, xs0, e1, e2, e3, e4, e5⟩ := rl.own i _ h0
  split at e
  ·rename_i d ρ1 h1
   split at e
   ·rename_i ds h2
    split at e
    ·rename_i hz
     cases e
     refine ⟨_, e1, .inl ⟨rfl, _, SqL.of e3⟩, F0, H0, F, ρ, [d], ρ1, rl, by unfold aconsm apu anil; rw [h1], fun vs F1 H1 rl1 s1 r1 => ?_⟩
     cases r1 with
     | cons r rr =>
      cases rr
      obtain ⟨p', xs, f1, f2, f3, f4, f5⟩ := rl1.own i _ h2
      rw [e1] at f1; cases f1
      exact ⟨p, xs, _, rfl, rfl, f3, by rw [f4.length]; exact hz, ok F1 _ σ (rl1.write h2 e1 (f4.append (.cons r .nil))) s1⟩
    ·cases e
   ·cases e
  ·cases e
 ·cases e
end
noncomputable def compDm (elt : MEm) : List D -> Ro -> List D -> Option (List D × Ro)
 | [], ρ, acc => some (acc, ρ)
 | d :: ds, ρ, acc => match elt (ρ.set 0 (some (.sh d))) with
  | some (x, ρ1) => if acc.length < sizeLine then compDm elt ds ρ1 (acc ++ [x]) else none
  | none => none
theorem Rl.rebaseB {K : W.Frag} {F1 F H B : Hp} {σ : St} {ρ : Ro} {p : Addr} {xs ys : List V} (r : Rl K F1 (upd B p (.lst xs)) F H σ ρ) (hF : F p = none) : Rl K F1 (upd B p (.lst ys)) F (upd H p (.lst ys)) σ ρ := by
 have ne : ∀ q, upd B p (.lst xs) q = none -> q ≠ p := fun q z w => by rw [w, upd_same] at z; cases z
 refine ⟨⟨r.ext.ff, fun b u e => ?_, r.fh.put hF, fun b e n => ?_, r.ext.nf⟩, r.len, r.sh, fun i ds e => ?_, r.inj, fun i q ds e => ?_, r.obn, r.ob1⟩
 ·by_cases hb : b = p
  ·subst hb; rw [upd_same] at e ⊢; exact e
  ·rw [upd_ne hb] at e ⊢
   exact r.ext.hh b u (by rw [upd_ne hb]; exact e)
 ·have hb : b ≠ p := fun w => by rw [w, hF] at n; exact n rfl
  have := r.ext.new b e n
  rw [upd_ne hb] at this ⊢; exact this
 ·obtain ⟨q, zs, a, b, c, d, z⟩ := r.own i ds e
  have hq := ne q z
  rw [upd_ne hq] at z
  exact ⟨q, zs, a, b, by rw [upd_ne hq]; exact c, d, by rw [upd_ne hq]; exact z⟩
 ·obtain ⟨a, b, z, zs, c, d⟩ := r.ob i q ds e
  have hq := ne q z
  rw [upd_ne hq] at z
  exact ⟨a, b, by rw [upd_ne hq]; exact z, zs, by rw [upd_ne hq]; exact c, d⟩
theorem compDm_cons {elt : MEm} {d : D} {ds acc : List D} {ρ : Ro} {r : List D × Ro} (h : compDm elt (d :: ds) ρ acc = some r) : ∃ x ρ1, elt (ρ.set 0 (some (.sh d))) = some (x, ρ1) /\ acc.length < sizeLine /\ compDm elt ds ρ1 (acc ++ [x]) = some r := by
 rw [compDm] at h
 cases h4 : elt (ρ.set 0 (some (.sh d))) with
 | none => rw [h4] at h; cases h
 | some z =>
  rw [h4] at h
  obtain ⟨x, ρ1⟩ := z
  simp only at h
  by_cases hz : acc.length < sizeLine
  ·rw [if_pos hz] at h; exact ⟨x, ρ1, rfl, hz, h⟩
  ·rw [if_neg hz] at h; cases h
theorem Rl.stayB {K : W.Frag} {F1 F H B : Hp} {σ : St} {ρ : Ro} {p : Addr} {o : HO} (r : Rl K F1 (upd B p o) F H σ ρ) (h : F1 p = none) : F p = none := by
 cases w : F p with
 | none => rfl
 | some u => have := r.ext.new p h (by rw [w]; simp); rw [upd_same] at this; cases this
theorem compm_loop {K : PySem.W.Frag} {src : List (Option Nat)} {elt : MEm} {its out r1 : List D} {ρb ρs : Ro} {j : Nat} {F1 H1 : Hp} {σ : St} {p rr : Addr} {J : It} {Q : VK} (f1 : Same F1 H1) (hp : H1 p = none) (hrp : rr ≠ p) (hj : j ≠ 0) (I : ItD K F1 J its) (rb : Rl K F1 (upd (del H1 rr) p (.lst [])) F1 (upd H1 p (.lst [])) (blk0 src σ) ρs) (hσ0 : (blk0 src σ)[j]? = some (some (.ref rr))) (h2 : compDm elt its ρs [] = some (out, ρb)) (h3 : ρb[j]? = some (some (.own r1)))
  (q : ∀ xs zs F' H', Ext F1 (del H1 rr) F' H' -> F' rr = none -> H' rr = some (.lst zs) -> Reps K F' zs r1 -> F' p = some (.lst xs) -> Reps K F' xs out -> Q (.ref p) H') :
  ∃ W : Nat -> Nat -> St -> Hp -> Prop, (∃ m, W 0 m (blk0 src σ) (upd H1 p (.lst []))) /\ ∀ i m σ' H', W i m σ' H' ->
   (J.stop i H' /\ Q (.ref p) H') \/ (J.go i H' /\ ∃ N : St -> Hp -> Prop, (∀ σ2 H2, N σ2 H2 -> ∃ m', m' < m /\ W (i + 1) m' σ2 H2) /\ ∀ x H2, J.yld i H' x H2 -> gName 0 x σ' H2 fun σ3 H3 => tYes σ3 H3 fun b H4 =>
    if b = true then TDm K elt σ3 H4 fun y H5 => ∃ xs, H5 p = some (.lst xs) /\ xs.length < sizeLine /\ N σ3 (upd H5 p (.lst (xs ++ [y]))) else N σ3 H4) := by
 have hF1 : F1 p = none := f1.free hp
 have hdp : del H1 rr p = none := by rw [del_ne (Ne.symm hrp)]; exact hp
 refine ⟨fun k m σ' H' => ∃ F' ρ' acc xs, Rl K F1 (upd (del H1 rr) p (.lst xs)) F' H' σ' ρ' /\ Reps K F' xs acc /\ σ'[j]? = some (some (.ref rr)) /\ k <= its.length /\ m = its.length - k /\ compDm elt (its.drop k) ρ' acc = some (out, ρb),
  ⟨_, F1, _, [], [], rb, .nil, hσ0, Nat.zero_le _, rfl, h2⟩, ?_⟩
 clear rb hσ0 h2
 rintro k m σ' H' ⟨F', ρ', acc, xs, rl', ra, hσ, hk', rfl, e'⟩
 by_cases hlt : k < its.length
 ·right
  have hd := getElem?_eq_getElem hlt
  refine ⟨I.go k F' H' rl'.ext.ff rl'.fh hlt, fun σ2 H2 => ∃ F2 ρ2 acc2 xs2, Rl K F1 (upd (del H1 rr) p (.lst xs2)) F2 H2 σ2 ρ2 /\ Reps K F2 xs2 acc2 /\ σ2[j]? = some (some (.ref rr)) /\ compDm elt (its.drop (k + 1)) ρ2 acc2 = some (out, ρb), ?_, fun x H2 y => ?_⟩
  ·rintro σ2 H2 ⟨F2, ρ2, acc2, xs2, b1, b2, b3, b4⟩
   exact ⟨its.length - (k + 1), Nat.sub_lt_sub_left hlt (Nat.lt_succ_self k), F2, ρ2, acc2, xs2, b1, b2, b3, hlt, rfl, b4⟩
  ·obtain ⟨F2, x2, r2⟩ := I.yld k F' H' x H2 _ rl'.ext.ff rl'.fh hd y
   rw [drop_get hd] at e'
   obtain ⟨d, ρ1, h4, hz, e4⟩ := compDm_cons e'
   clear e' I q y hd h3
   unfold gName tYes
   refine iteT ⟨F1, _, F2, _, d, ρ1, (rl'.go x2).set r2, h4, fun v F5 H5 rl5 s5 r5 => ?_⟩
   exact ⟨xs, rl5.ext.hh p _ upd_same, by rw [ra.length]; exact hz, F5, ρ1, acc ++ [d], xs ++ [v], rl5.rebaseB (rl5.stayB hF1), (ra.mono (x2.ff.trans s5)).append (.cons r5 .nil), by rw [getElem?_set_ne (Ne.symm hj)]; exact hσ, e4⟩
 ·left
  have hieq : k = its.length := Nat.le_antisymm hk' (Nat.le_of_not_lt hlt)
  subst hieq
  rw [drop_length] at e'
  have e' : some (acc, ρ') = some (out, ρb) := e'
  cases e'
  refine ⟨I.stop F' H' rl'.ext.ff rl'.fh, ?_⟩
  have hF' := rl'.stayB hF1
  obtain ⟨q', zs, f1', f2, f3, f4, f5⟩ := rl'.own j r1 h3
  rw [hσ] at f1'; cases f1'
  have x : Ext F1 (del H1 rr) F' H' := ⟨rl'.ext.ff, fun b u hb => rl'.ext.hh b u (by
    have : b ≠ p := fun w => by rw [w, hdp] at hb; cases hb
    rw [upd_ne this]; exact hb), rl'.fh, fun b hb n => by
    have nb : b ≠ p := fun w => by rw [w, hF'] at n; exact n rfl
    have := rl'.ext.new b hb n
    rwa [upd_ne nb] at this, rl'.ext.nf⟩
  have s2 : Same F' (upd F' p (.lst xs)) := (Same.refl F').put hF'
  exact q xs zs _ H' (x.freeze hF' hdp (rl'.ext.hh p _ upd_same)) (by rw [upd_ne hrp]; exact f2) f3 (f4.mono s2) upd_same (ra.mono s2)
section
variable {X : Cx} {pos : Pos}
end
end
section
section
variable {X : Cx} {e : Expr} {na : MEm} {pos : Pos} {st : Stmt} {es : List Expr} {m : ML} {mf : MG} {E : XK}
noncomputable def numsD : List D -> Bool
 | [] => true
 | .int _ :: r => numsD r
 | _ => false
theorem reps_nums {K : W.Frag} {F F' : Hp} : ∀ {vs : List V} {ds : List D}, numsD ds = true -> Reps K F vs ds -> Reps K F' vs ds
 | _, [], _, .nil => .nil
 | _, d :: ds, h, .cons r rr => by
  cases r with
  | int k => exact .cons (.int k) (reps_nums h rr)
  | _ => cases h
open Classical in
end
end
section
noncomputable def rng3 : List D -> Option (List D)
 | [.int i, .int j, .int k] => if -1 <= i /\ i < 2 ^ 61 /\ j = -1 /\ k = -1 then some (downD (i + 1).toNat) else none
 | _ => none
theorem size_down (i : Int) (h : -1 <= i) : Builtin.Range.rangeSize i (-1) (-1) = ((i + 1).toNat : Int) := by
 unfold Builtin.Range.rangeSize
 rw [if_neg (by decide)]
 split
 ·rw [show (-(-1) : Int) = 1 by decide, Int.ediv_one]; omega
 ·omega
theorem small_down (i : Int) (h : -1 <= i) (h2 : i < 2 ^ 61) : Builtin.Range.small i (-1) (-1) = true := by
 unfold Builtin.Range.small
 rw [size_down i h]
 unfold Builtin.Range.rangeFitsLong
 simp
 omega
section
variable {X : Cx}
theorem pid_range3 {tg a b c : Expr} {m : ML} {p pos : Pos} (hg : Gl X "range") (hm : X.mg "range" = none) (ha : PAs X [a, b, c] m) (he : starEach [a, b, c] X.env = (false, eval a X.env) :: starEach [b, c] X.env := by rfl) (hpl : (backTo pos (starEach [b, c] X.env)).any (·.1) = false := by rfl) :
  PId X tg (.Call (.Name "range" p) [a, b, c] [] pos) (mlist rng3 m) := by
 intro pins s σ H R I h
 obtain ⟨F0, H0, F, ρ, its, rl, e, q⟩ := h
 obtain ⟨ds, h1, h2⟩ := mlist_some e
 refine Call_ (ld_blt I hg hm boot_range (PyProof.Rows.callWith_type1 (thn (ha pos pins s σ H (fun vs H1 => ∃ i : Int, vs = [.int i, .int (-1), .int (-1)] /\ -1 <= i /\ i < 2 ^ 61 /\ R (Itdn i (i + 1).toNat) H1) I ⟨F0, H0, F, ρ, ds, rl, h1, fun vs F1 H1 x1 r1 => ?_⟩) fun us s1 ⟨vs, H1, I1, r1, q1⟩ => ?_) he hpl))
 ·unfold rng3 at h2
  split at h2
  ·rename_i i j k
   split at h2
   ·rename_i hk
    obtain ⟨k1, k2, rfl, rfl⟩ := hk
    cases h2
    cases r1 with
    | cons r rr =>
     cases rr with
     | cons r2 rr =>
      cases rr with
      | cons r3 rr =>
       cases rr; cases r; cases r2; cases r3
       refine ⟨i, rfl, k1, k2, q _ F1 H1 x1 ?_⟩
       have : i = ((i + 1).toNat : Int) - 1 := by omega
       have z := itd_down (K := X.K) (F := F1) (n := (i + 1).toNat)
       rw [<- this] at z
       exact z
   ·cases h2
  ·cases h2
 ·obtain ⟨i, e, k1, k2, q⟩ := q1
  subst e
  cases r1 with
  | cons r rr =>
   cases rr with
   | cons r2 rr =>
    cases rr with
    | cons r3 rr =>
     cases rr
     obtain ⟨t, rfl⟩ := r
     obtain ⟨t2, rfl⟩ := r2
     obtain ⟨t3, rfl⟩ := r3
     refine call_range_3 (by decide) ?_ (Or.inl (PyProof.noPylong_small (by omega)))
     refine wpAny_pyIter_range (IsRange.new ..) (small_down i k1 k2) ?_
     have I2 : Inv X pins σ H1 { s1 with heap := s1.heap.push { cls := .type "range", data := .fields #[.int i t, .int (-1) t2, .int (-1) t3] }, toks := s1.toks } := I1.kept fun b o e => Heap.get?_push_of_some _ e
     refine ⟨_, [(s1.heap.push { cls := .type "range", data := .fields #[.int i t, .int (-1) t2, .int (-1) t3] }).objs.size], _, _, H1, rfl,
      I2.kept (t' := s1.toks) fun b o e => Heap.get?_push_of_some _ e, turn_down _ i (i + 1).toNat, ?_, fun b hb => ?_, q⟩
     ·have e1 : i + ((0 : Nat) : Int) * (-1) = i := by simp
      have e2 : (((i + 1).toNat : Nat) : Int) - ((0 : Nat) : Int) = Builtin.Range.rangeSize i (-1) (-1) := by rw [size_down i k1]; simp
      show IsRangeIter _ _ (i + ((0 : Nat) : Int) * (-1)) ((((i + 1).toNat : Nat) : Int) - ((0 : Nat) : Int)) (-1)
      rw [e1, e2]
      exact Heap.get?_push_size _ rfl
     ·have e : b = (s1.heap.push { cls := .type "range", data := .fields #[.int i t, .int (-1) t2, .int (-1) t3] }).objs.size := by simpa using hb
      subst e
      exact I2.fpOk (Nat.le_refl _) (I2.hok.fresh (Nat.le_refl _))
end
end
section
section
variable {X : Cx} {e : Expr} {pos : Pos}
@[irreducible] noncomputable def many (m : ML) : ME := fun ρ => match m ρ with | some ds => (match intsD ds with | some ns => some (.bl (ns.any fun i => i != 0)) | none => none) | none => none
end
end
section
section
variable {X : Cx} {e : Expr} {ma : ME} {pos : Pos}
end
end
section
section
variable {X : Cx} {e : Expr} {ma : ME} {pos : Pos}
end
end
section
section
variable {prog : Program} {w : World} {A : Around} {E : Value -> Shared -> Prop} {s : Shared}
end
section
variable {X : Cx}
end
end
section
section
variable {X : Cx} {a : Expr} {na : MEm} {pos : Pos} {ca : MBm}
theorem pcm_bool (ha : PDm X a na) (he : ∀ whole, isTrue a X.env whole = (do let v ← whole; standAt a.pos; holding [v] (truthy v)) := by intro _; rfl) : PT X a (TCm X.K (mtestm na)) := (pt_truth ha he).imp fun σ H Q h0 => by
 obtain ⟨F0, H0, F, ρ, b, ρ', rl, e, q⟩ := h0
 unfold mtestm at e
 split at e
 ·rename_i b' ρ1 h1
  cases e
  refine ⟨F0, H0, F, ρ, _, _, rl, h1, fun x F1 H1 rl1 s1 r1 => ⟨b, ?_, q F1 H1 rl1 s1⟩⟩
  cases r1
  rfl
 ·cases e
@[irreducible] noncomputable def cnotm (c : MBm) : MBm := fun ρ => match c ρ with | some (b, ρ1) => some (!b, ρ1) | none => none
theorem pcm_not (ha : PT X a (TCm X.K ca)) : PT X (.UnaryOp .Not a pos) (TCm X.K (cnotm ca)) := (pt_not ha).imp fun σ H Q h0 => by
 obtain ⟨F0, H0, F, ρ, b, ρ', rl, e, q⟩ := h0
 unfold cnotm at e
 split at e
 ·rename_i k ρ1 h1
  cases e
  exact ⟨F0, H0, F, ρ, k, ρ', rl, h1, fun F1 H1 rl1 s1 => q F1 H1 rl1 s1⟩
 ·cases e
end
end
section
section
variable {X : Cx} {a b : Expr} {m : ML} {pos : Pos}
end
end
end L2
namespace L2
open List
open PySem
section
section
open PySem.Sem (wp)
end
end
end L2
namespace L2
open List
open PySem PySem.Spec PyProof.Rows
section
section
variable {M : Model} {A : Around} {E : Value -> Shared -> Prop} {s : Shared} {base : Heap} {env : Env} {outer : List Env} {L e : Addr}
end
end
end L2
namespace L2
open List
open PySem PySem.Spec PyProof.Rows PySem.W PySem.Builtin PySem.Builtin.ObjectAttr PySem.Builtin.Getset_descriptor
section
structure XCls (K : W.Frag) (C : Addr) : Prop where
 ga : findIn K (.ref C) "__getattribute__" = some (some (.builtin "BaseException.__getattribute__"))
 nog : findIn K (.ref C) "__getattr__" = some none
 cl : findIn K (.ref C) "__class__" = some (some (.builtin "object.__class__"))
 ob : mroIn K C (.type "object") = some true
 be : mroIn K C (.type "BaseException") = some true
section
variable {prog : Program} {w : World} {A : Around} {E : Value -> Shared -> Prop} {K : W.Frag} {x C : Addr} {ox : Obj} {h : Heap} {g : Array GenState} {d : Drawn} {t : Nat} {os : OsState}
end
end
end L2
namespace L2
open List
open PySem PySem.Spec PyProof.Rows
section
structure Flown (P : Program) (w : World) (outer : List Env) (H : Hp) (s : Shared) (H' : Hp) (B h' : Heap) : Prop where
 un : Un (frs outer) [] H H' s.heap h'
 ok : HOk P w H' h'
 st : B.StaysIn h'
 trk : ∀ b o, H' b = some o -> ∃ ob, B.get? b = some ob
 old : ∀ b o, s.heap.get? b = some o -> b ∉ frs outer -> ∃ ob, B.get? b = some ob
section
variable {P : Program} {w : World} {outer : List Env} {H H' : Hp} {s : Shared} {B h1 h2 base : Heap}
end
structure Top (X : Cx) : Prop where
 stk : X.stack = X.env :: X.outer
 frm : X.env.frame = some X.env.locals
 ex : X.ex = []
section
variable {X : Cx} {pins : List (Addr × Obj)} {σ : St} {H H' : Hp} {s : Shared} {B h1 : Heap}
end
def XC (K : W.Frag) (c : Str) (C : Addr) : Prop := W.nsIn K mainGlobals c = some (some (.ref C)) /\ xName K C = some c
section
variable {X : Cx} {pins : List (Addr × Obj)} {σ : St} {H : Hp} {s : Shared} {W : Str -> St -> Hp -> Prop}
end
section
variable {X : Cx} {pins pins' : List (Addr × Obj)} {σ : St} {H : Hp} {s : Shared} {E : Value -> Shared -> Prop}
variable (nx : X.xe = noE)
include nx
end
end
section
section
variable {X : Cx} {st : Stmt} {rest : List Stmt} {e c : Expr} {pos : Pos}
end
end
section
section
variable {X : Cx} {pins : List (Addr × Obj)} {E : Value -> Shared -> Prop} (nx : X.xe = noE)
include nx
end
section
variable {X : Cx} {e c : Expr} {pos : Pos} {st : Stmt} {rest : List Stmt}
end
end
section
section
variable {X : Cx} {pins : List (Addr × Obj)} {σ : St} {H : Hp} {s : Shared} {a C : Addr}
end
section
variable {X : Cx} {pos np hpos : Pos}
end
end
section
structure RoomN (k : Nat) (A : Around) : Prop where
 dp : A.depth + 3 * k + 5 < recursionLimit
 un : A.units + 16 * k + 200 < cLine
structure FnOkN (P : Program) (w : World) (K : W.Frag) (mg : Str -> Option Value) (base : Heap) (CX : CXT) (k : Nat) (f : Addr) (fd : FuncData) (ps : List Str) (sp : Sp) : Prop where
 len : ∀ vs H Q E, sp vs H Q E -> vs.length = ps.length
 run : ∀ (A : Around) (outer : List Env) (s : Shared) (H : Hp) (args : Args) (us : List Value) (vs : List V) (Q : VK) (E : XK), RoomN k A -> Env0 P w K mg base A outer s H -> BindsTo s fd args (ps.zip us) -> Vals vs us -> sp vs H Q E ->
  codeAny (model P w) A (.call (.ref f) args) (CR CX outer P w H s Q E) s
section
variable {X : Cx} {CX : CXT} {k : Nat} {f : Addr} {fd : FuncData} {ps : List Str} {sp : Sp} {dvs : List V} {ds : List Value} {E : XK} {x : Str} {p pos : Pos} {e : Expr} {es : List Expr} {t : TA}
end
section
variable {X : Cx} {a : Expr} {ma : ME} {pos : Pos}
end
end
section
section
variable {X : Cx} {a : Expr} {ma : ME} {pos : Pos}
open PySem.SeqAt in
end
end
section
@[irreducible] noncomputable def mcompmB (src : List (Option Nat)) (mi : ML) (i j : Nat) (elt : MEm) : MEm := fun ρ => match ρ[i]? with
 | some (some (.ob rr r0)) => (match mi ρ with
  | some its => (match compDm elt its ((blkRo src ρ).set j (some (.own r0))) [] with
   | some (out, ρb) => (match ρb[j]? with | some (some (.own r1)) => some (.lst out, ρ.set i (some (.ob rr r1))) | _ => none)
   | none => none)
  | none => none)
 | _ => none
theorem Rl.blkJB {K : W.Frag} {F0 H0 F H : Hp} {σ : St} {ρ : Ro} (r : Rl K F0 H0 F H σ ρ) {src : List (Option Nat)} {i j : Nat} {r0 : List D} {rr p : Addr} (hs : src[j]? = some (some i)) (hi : ρ[i]? = some (some (.ob rr r0))) (hp : H p = none) :
  Rl K F (upd (del H rr) p (.lst [])) F (upd H p (.lst [])) (blk0 src σ) ((blkRo src ρ).set j (some (.own r0))) := by
 obtain ⟨rb, no⟩ := r.blk src
 obtain ⟨ha, b, z, xs, c, d⟩ := r.ob i rr r0 hi
 have hrp : rr ≠ p := fun w => by rw [w, hp] at c; cases c
 have hF : F p = none := r.fh.free hp
 have only : ∀ k ds, ((blkRo src ρ).set j (some (S.own r0)))[k]? = some (some (.own ds)) -> k = j /\ ds = r0 := fun k ds e => by
  by_cases hk : j = k
  ·subst hk
   have hl : j < (blkRo src ρ).length := by
    rcases Nat.lt_or_ge j (blkRo src ρ).length with w | w
    ·exact w
    ·rw [getElem?_eq_none (by simpa using w)] at e; cases e
   rw [getElem?_set_self hl] at e; cases e; exact ⟨rfl, rfl⟩
  ·rw [getElem?_set_ne hk] at e; exact absurd e (no k ds).1
 have nob' : ∀ (k : Nat) (q : Addr) (ds : List D), ((blkRo src ρ).set j (some (S.own r0)))[k]? ≠ some (some (S.ob q ds)) := fun k q ds e => (no k ds).2 q (set_ob e).2
 refine ⟨⟨Same.refl F, fun b u e => ?_, r.fh.put hF, fun b e n => absurd e n, fun _ _ _ z => z⟩, by simp [rb.len], fun k d' e => ?_, fun k ds e => ?_, fun k l q ds es hkl e1 e2 => ?_, fun k q ds e => absurd e (nob' k q ds), fun k l q ds es e => absurd e (nob' k q ds), fun k l q q' ds es e => absurd e (nob' k q ds)⟩
 ·by_cases hb : b = p
  ·subst hb; rw [upd_same] at e ⊢; exact e
  ·rw [upd_ne hb] at e ⊢
   by_cases hr : b = rr
   ·rw [hr, del_self] at e; cases e
   ·rw [del_ne hr] at e; exact e
 ·by_cases hk : j = k
  ·subst hk
   have hl : j < (blkRo src ρ).length := by
    rcases Nat.lt_or_ge j (blkRo src ρ).length with w | w
    ·exact w
    ·rw [getElem?_eq_none (by simpa using w)] at e; cases e
   rw [getElem?_set_self hl] at e; cases e
  ·rw [getElem?_set_ne hk] at e
   exact rb.sh k d' e
 ·obtain ⟨rfl, rfl⟩ := only k ds e
  exact ⟨rr, xs, blk0_at hs ha, b, by rw [upd_ne hrp]; exact c, d, by rw [upd_ne hrp, del_self]⟩
 ·exact absurd ((only k ds e1).1.trans (only l es e2).1.symm) hkl
theorem comp_tdmB {K : W.Frag} {src : List (Option Nat)} {mi : ML} {i j : Nat} {elt : MEm} (hs : src[j]? = some (some i)) (hj : j ≠ 0) {σ : St} {H : Hp} {Q : VK} (h : TDm K (mcompmB src mi i j elt) σ H Q) : tComp src (TId K mi) (gName 0) tYes (TDm K elt) σ H Q := by
 obtain ⟨F0, H0, F, ρ, g, ρ', rl, e, q⟩ := h
 unfold mcompmB at e
 split at e
 ·rename_i rr r0 hi
  split at e
  ·rename_i its h1
   split at e
   ·rename_i out ρb h2
    split at e
    ·rename_i r1 h3
     cases e
     refine ⟨F0, H0, F, ρ, its, rl, h1, fun J F1 H1 x1 I p hp => ?_⟩
     have rl1 := rl.go x1
     obtain ⟨a1, a2, a5, ys, a3, a4⟩ := rl1.ob i rr r0 hi
     have hrp : rr ≠ p := fun w => by rw [w, hp] at a3; cases a3
     exact compm_loop x1.fh hp hrp hj I (rl1.blkJB hs hi hp) (blk0_at hs a1) h2 h3 fun xs zs F' H' xf b1 b2 b3 b4 b5 => q _ _ _ (rl1.lentB hi xf b1 b2 b3) (x1.ff.trans xf.ff) (.lst (SqL.of b4) b5)
    ·cases e
   ·cases e
  ·cases e
 ·cases e
section
variable {X : Cx} {pos : Pos}
end
end
section
section
variable {X : Cx} {v : Expr} {mv : ME} {pos : Pos}
end
end
section
noncomputable def insI (a : Int) : List Int -> List Int
 | [] => [a]
 | b :: r => if a <= b then a :: b :: r else b :: insI a r
noncomputable def isort : List Int -> List Int
 | [] => []
 | a :: r => insI a (isort r)
theorem insI_perm (a : Int) : ∀ r, (insI a r).Perm (a :: r)
 | [] => .refl _
 | b :: r => by
  unfold insI
  split
  ·exact .refl _
  ·exact ((insI_perm a r).cons b).trans (.swap a b r)
theorem isort_perm : ∀ ns, (isort ns).Perm ns
 | [] => .refl _
 | a :: r => (insI_perm a _).trans ((isort_perm r).cons a)
theorem insI_sorted (a : Int) : ∀ r, r.Pairwise (· <= ·) -> (insI a r).Pairwise (· <= ·)
 | [], _ => pairwise_singleton ..
 | b :: r, h => by
  have h' := List.pairwise_cons.mp h
  unfold insI
  split
  ·rename_i hab
   refine List.pairwise_cons.mpr ⟨fun x hx => ?_, h⟩
   rcases List.mem_cons.mp hx with e | hx
   ·rw [e]; exact hab
   ·exact Int.le_trans hab (h'.1 x hx)
  ·rename_i hab
   refine List.pairwise_cons.mpr ⟨fun x hx => ?_, insI_sorted a r h'.2⟩
   rcases List.mem_cons.mp ((insI_perm a r).mem_iff.mp hx) with e | hx
   ·rw [e]; omega
   ·exact h'.1 x hx
theorem isort_sorted : ∀ ns, (isort ns).Pairwise (· <= ·)
 | [] => .nil
 | a :: r => insI_sorted a _ (isort_sorted r)
theorem sorted_uniq : ∀ {a b : List Int}, a.Perm b -> a.Pairwise (· <= ·) -> b.Pairwise (· <= ·) -> a = b
 | [], b, p, _, _ => (List.Perm.nil_eq p)
 | x :: a, [], p, _, _ => absurd p.length_eq (by simp)
 | x :: a, y :: b, p, ha, hb => by
  have h1 := List.pairwise_cons.mp ha
  have h2 := List.pairwise_cons.mp hb
  have e : x = y := by
   have m1 : x ∈ y :: b := p.mem_iff.mp mem_cons_self
   have m2 : y ∈ x :: a := p.mem_iff.mpr mem_cons_self
   rcases List.mem_cons.mp m1 with e | m1
   ·exact e
   ·rcases List.mem_cons.mp m2 with e | m2
    ·exact e.symm
    ·have := h2.1 x m1
     have := h1.1 y m2
     omega
  subst e
  rw [sorted_uniq ((perm_cons x).mp p) h1.2 h2.2]
theorem isort_length (ns : List Int) : (isort ns).length = ns.length := (isort_perm ns).length_eq
theorem ints_vals : ∀ {ns : List Int} {its : List Value}, Vals (ns.map V.int) its -> IntsAre its ns
 | [], _, .nil => .nil
 | n :: ns, _, .cons r t => by
  obtain ⟨k, rfl⟩ := r
  exact .cons n k (ints_vals t)
theorem vals_intsA : ∀ {ns : List Int} {its : List Value}, IntsAre its ns -> Vals (ns.map V.int) its
 | [], _, .nil => .nil
 | n :: ns, _, .cons _ k t => .cons ⟨k, rfl⟩ (vals_intsA t)
section
variable {X : Cx} {e : Expr} {pos : Pos}
def rSorted (K : W.Frag) : List V -> Hp -> VK -> Prop := fun vs H Q => ∃ (p : Addr) (ns : List Int), vs = [.ref p] /\ SqL K H p (ns.map V.int) /\ ns.length < 64 /\ ∀ q, H q = none -> Q (.ref q) (upd H q (.lst ((isort ns).map V.int)))
theorem call_sorted : CallR X (.builtin "sorted") (rSorted X.K) := by
 intro pins s σ H xs us Q I r h
 obtain ⟨p, ns, rfl, sq, h64, q⟩ := h
 obtain ⟨u, rfl, rx⟩ := vals1 r
 cases rx
 obtain ⟨its, vr, pl, hz⟩ := I.list sq
 have hl : its.length = ns.length := by rw [<- vr.length, length_map]
 refine sorted_ints pl.isList (ints_vals vr) (by rw [hl]; exact h64) fun out ns' a1 a2 a3 => ?_
 have e : ns' = isort ns := sorted_uniq (a2.trans (isort_perm ns).symm) a3 (isort_sorted ns)
 subst e
 obtain ⟨c, hc⟩ := sortedAll_at s.heap its out
 refine ⟨.ref (s.heap.objs.size + 1), _, I.laid (t' := s.toks) (o := .lst ((isort ns).map V.int)) (fun b o z => sortedAll_old z) (Nat.le_succ _) ⟨?_, out.toList, c, vals_intsA a1, by simpa using hc⟩, rfl, q _ (I.hok.fresh (Nat.le_succ _))⟩
 rw [length_map, isort_length, sizeLine_eq]; omega
@[irreducible] noncomputable def msorted (m : ML) : ML := fun ρ => match m ρ with | some ds => (match intsD ds with | some ns => if ns.length < 64 then some ((isort ns).map .int) else none | none => none) | none => none
theorem pf_sorted {p : Pos} {m : ML} (hg : Gl X "sorted") (hm : X.mg "sorted" = none) (ha : PB X e m) (hv : bootBuiltins "sorted" = some (.builtin "sorted")) (hs : starEach (e :: []) X.env = (false, eval e X.env) :: starEach [] X.env := by rfl) (he : starEach [e] X.env = (false, eval e X.env) :: starEach [] X.env := by rfl) (hpl : (backTo pos (starEach [] X.env)).any (·.1) = false := by rfl) : PF X (.Call (.Name "sorted" p) [e] [] pos) (msorted m) :=
 (pe_callB call_sorted hg hm hv (pa_cons ha pa_nil hs) (by decide) (by decide) he hpl).imp fun σ H Q hpat => by
  obtain ⟨F0, H0, F, ρ, g, rl, e, q⟩ := hpat
  unfold msorted at e
  cases h1 : m ρ with
  | none => simp only [h1] at e; cases e
  | some ds =>
   simp only [h1] at e
   cases h2 : intsD ds with
   | none => simp only [h2] at e; cases e
   | some ns =>
    simp only [h2] at e
    split at e
    ·rename_i h64
     cases e
     refine ⟨F0, H0, F, ρ, ds, rl, h1, fun p xs F1 H1 x1 s1 r1 => ⟨p, ns, rfl, ?_, h64, fun w hw => ?_⟩⟩
     ·rw [<- intsD_reps r1 h2]; exact s1
     ·exact q w _ F1 _ (x1.trans (Ext.own x1.fh hw)) (x1.hh.free hw) (x1.fh.free hw) upd_same (reps_ints _)
    ·cases e
end
end
section
section
variable {X : Cx} {pins : List (Addr × Obj)} {σ : St}
set_option maxHeartbeats 8000000 in
theorem min_loopT {q : Addr} {mk : D -> Option D} (hk : KeyAt X (.ref q) mk) (hc : X.calm = true) (hu : X.A.units + 64 < cLine) {l I S : Addr} {xs : List V} {ds : List D} {kw : List (Str × Value)} {dm : D} (hIS : I ≠ S) (hlI : l ≠ I) (hlS : l ≠ S) :
  ∀ (r j : Nat) (H F H0 F0 : Hp) (s : Shared) (xb yb : V) (vb kb : Value) (db kdb : D) (c : Nat) (R : Result -> Shared -> Prop),
   ds.length - (j + 1) = r -> j + 1 <= ds.length -> Inv X pins σ H s -> Ext F0 H0 F H -> SqT X.K H l xs -> Reps X.K F xs ds -> s.heap.IsTupleIter I l (j + 1) -> s.heap.get? S = some (seqObj "list" #[vb, kb] c) -> FpOk X pins H I -> FpOk X pins H S ->
   RelV xb vb -> Rep X.K F xb db -> RelV yb kb -> Rep X.K F yb kdb -> minF mk (ds.drop (j + 1)) db kdb = some dm ->
   (∀ x v F' H' s', Inv X pins σ H' s' -> RelV x v -> Ext F0 H0 F' H' -> Rep X.K F' x dm -> R (.ok (.ret v)) s') ->
   codeAny (model X.prog X.w) X.A (.builtin "min.loop" ⟨[.ref I, .ref q, .ref S], kw⟩) R s := by
 have hname : (toString "min" ++ toString ".loop" : String) = "min.loop" := by decide
 intro r
 induction r with
 | zero =>
  intro j H F H0 F0 s xb yb vb kb db kdb c R hr hj I' ext sq rs hit hS fI fS rb pb ry py hm hR
  have hin : j + 1 = ds.length := by omega
  obtain ⟨its, vr, pl, _⟩ := I'.tuple sq
  have zl : its.length = ds.length := by rw [<- vr.length, rs.length]
  rw [hin, drop_length] at hm
  have hm : some db = some dm := hm
  cases hm
  refine codeAny_builtin PySem.F.entry_min_loop ?_
  rw [Around.under_plainId PySem.F.plain_min_loop _]
  show wpAny _ X.A.in1 (seqItems? (.ref S) >>= _) _ _ _
  refine wpAny_bind (wpAny_seqItems hS rfl ?_)
  show wpAny _ X.A.in1 (tryCatch (pyNext (.ref I)) _ >>= _) _ _ _
  refine wpAny_bind (wpAny_tryCatch (wpAny_pyNext_tuple_end (I'.ok.hd hc) hit pl (by simp; omega) fun h' hk' => ?_))
  have hS' : h'.get? S = some (seqObj "list" #[vb, kb] c) := hk' S _ (Ne.symm hIS) hS
  have s1 := Heap.SameBut.update h' S (Obj.mapSeq fun _ => (#[] : Array Value))
  show wpAny _ X.A.in1 (updateSeq S (fun _ => #[]) >>= _) _ _ _
  refine wpAny_bind ?_
  refine wpAny_updateSeq hS' rfl (wpAny_bind (wpAny_letGo (wpAny_pure ?_)))
  have I9 : Inv X pins σ H { s with heap := h'.update S (Obj.mapSeq fun _ => (#[] : Array Value)), toks := s.toks } := I'.turnedL (fp := [I, S]) (t' := s.toks) (fun b o hb e => by
   simp only [mem_cons, not_mem_nil, or_false, not_or] at hb
   exact (s1.2 b hb.2).trans (hk' b o hb.1 e)) (fun b hb => by
   simp only [mem_cons, not_mem_nil, or_false] at hb
   rcases hb with rfl | rfl <;> assumption)
  exact hR xb vb F H _ I9 rb ext pb
 | succ r ih =>
  intro j H F H0 F0 s xb yb vb kb db kdb c R hr hj I' ext sq rs hit hS fI fS rb pb ry py hm hR
  have hlt : j + 1 < ds.length := by omega
  obtain ⟨its, vr, pl, _⟩ := I'.tuple sq
  have zl : its.length = ds.length := by rw [<- vr.length, rs.length]
  obtain ⟨d, hd⟩ : ∃ d, ds[j + 1]? = some d := ⟨_, getElem?_eq_getElem hlt⟩
  obtain ⟨x, hx, px⟩ := rs.get hd
  obtain ⟨v, hv, rx⟩ := vr.get hx
  rw [drop_get hd] at hm
  unfold minF at hm
  cases hkd : mk d with
  | none => rw [hkd] at hm; cases hm
  | some kd =>
   rw [hkd] at hm
   dsimp only at hm
   refine codeAny_builtin PySem.F.entry_min_loop ?_
   rw [Around.under_plainId PySem.F.plain_min_loop _]
   show wpAny _ X.A.in1 (seqItems? (.ref S) >>= _) _ _ _
   refine wpAny_bind (wpAny_seqItems hS rfl ?_)
   show wpAny _ X.A.in1 (tryCatch (pyNext (.ref I)) _ >>= _) _ _ _
   refine wpAny_bind (wpAny_tryCatch (wpAny_pyNext_tuple_item hit pl (by simpa using hv) fun h1 hit1 s1 => ?_))
   have I1 : Inv X pins σ H { s with heap := h1, toks := s.toks } := I'.turnedL (fp := [I]) (fun b o hb e => s1.extBut b o (by simpa using hb) e) (fun b hb => by rw [List.mem_singleton.mp hb]; exact fI)
   have hS1 : h1.get? S = some (seqObj "list" #[vb, kb] c) := s1.extBut _ _ (Ne.symm hIS) hS
   obtain ⟨oI, eI, cI, dI⟩ := id hit1
   have Ip := I1.pin2 fI fS eI hS1 (fun v z => by rw [dI] at z; cases z) (fun v z => by cases z)
   show wpAny _ X.A.in1 (tryCatch (holding [v] (call (.ref q) [v])) _ >>= _) _ _ _
   refine wpAny_bind (wpAny_tryCatch (wpAny_holding (wpAny_mono (hk (pins ++ [(I, oI), (S, seqObj "list" #[vb, kb] c)]) σ H F _ x v d kd Ip ext.fh px rx hkd) (fun w s2 hw => ?_) fun _ _ z => z.elim)))
   obtain ⟨y, F2, H2, I2, rw2, x2, py2⟩ := hw
   have pI := I2.pin (I, oI) (by simp)
   have pS := I2.pin (S, seqObj "list" #[vb, kb] c) (by simp)
   have I2' : Inv X pins σ H2 s2 := I2.unpinned
   have fI2 : FpOk X pins H2 I := fI.now pI.2.1
   have fS2 : FpOk X pins H2 S := fS.now pS.2.1
   have hit2 : s2.heap.IsTupleIter I l (j + 1 + 1) := ⟨oI, pI.1, cI, dI⟩
   cases hlt8 : ltF 8 kd kdb with
   | none => rw [hlt8] at hm; cases hm
   | some bt =>
    rw [hlt8] at hm
    have hcmp := lt_at I2' 8 (A := X.A.in1) (by show X.A.units + 1 + 8 < cLine; omega) (py2.mono x2.fh) ((py.mono x2.ff).mono x2.fh) rw2 ry hlt8
    show wpAny _ X.A.in1 (tryCatch (holding [v, w] (richCompare .Lt w kb >>= _)) _ >>= _) _ _ _
    refine wpAny_bind (wpAny_tryCatch (wpAny_holding (wpAny_bind (hcmp X.prog X.w _ _ ?_))))
    refine wpAny_bind (wpAny_holding (wpAny_truthy_bool ?_))
    refine wpAny_bind (wpAny_letGo (wpAny_pure ?_))
    cases bt with
    | true =>
     have s3 := Heap.SameBut.update s2.heap S (Obj.mapSeq fun _ => #[v, w])
     obtain ⟨c2, hc2⟩ : ∃ c2, (s2.heap.update S (Obj.mapSeq fun _ => #[v, w])).get? S = some (seqObj "list" #[v, w] c2) := ⟨_, get?_update_seq pS.1 fun _ => #[v, w]⟩
     simp only [if_true]
     refine wpAny_bind ?_
     refine wpAny_updateSeq pS.1 rfl (wpAny_bind (wpAny_letGo ?_))
     rw [hname]
     have I3 : Inv X pins σ H2 { s2 with heap := s2.heap.update S (Obj.mapSeq fun _ => #[v, w]), toks := s2.toks } := I2'.turnedL (fp := [S]) (fun b o hb e => (s3.2 b (by simpa using hb)).trans e) (fun b hb => by rw [List.mem_singleton.mp hb]; exact fS2)
     refine wpAny_pure ⟨plainId_quiet PySem.F.plain_min_loop _, ih (j + 1) H2 F2 H0 F0 _ x y v w d kd c2 R (by omega) hlt I3 (ext.trans x2) (x2.hh.seqT sq) (rs.mono x2.ff) ⟨oI, (s3.2 I hIS).trans pI.1, cI, dI⟩ hc2 fI2 fS2 rx (px.mono x2.ff) rw2 py2 hm hR⟩
    | false =>
     simp only [Bool.false_eq_true, if_false]
     refine wpAny_bind (wpAny_letGo ?_)
     rw [hname]
     refine wpAny_pure ⟨plainId_quiet PySem.F.plain_min_loop _, ih (j + 1) H2 F2 H0 F0 _ xb yb vb kb db kdb c R (by omega) hlt I2' (ext.trans x2) (x2.hh.seqT sq) (rs.mono x2.ff) hit2 pS.1 fI2 fS2 rb (pb.mono x2.ff) ry (py.mono x2.ff) hm hR⟩
theorem args_min_2k (a b v : Value) : argsOk "min" ⟨[a, b], [(Str.ofString "key", v)]⟩ := by unfold argsOk; kernel_rfl
set_option maxHeartbeats 8000000 in
theorem min_topT {q : Addr} {mk : D -> Option D} (hk : KeyAt X (.ref q) mk) (hc : X.calm = true) (hu : X.A.units + 64 < cLine) {xs : List V} {ds : List D} {dm : D} {Hb Fb : Hp} {sb : Shared} {E : Value -> Shared -> Prop} {Q : Value -> Shared -> Prop}
  {u1 u2 : Value} (Ib : Inv X pins σ Hb sb) (sfb : Same Fb Hb) (vb : Vals xs [u1, u2]) (rsb : Reps X.K Fb xs ds) (hm : minN mk ds = some dm)
  (hQ : ∀ x v F' H' s', Inv X pins σ H' s' -> RelV x v -> Ext Fb Hb F' H' -> Rep X.K F' x dm -> Q v s') :
  wpAny (model X.prog X.w) X.A (call (.builtin "min") [u1, u2] [(Str.ofString "key", .ref q)]) Q E sb := by
 have hname : (toString "min" ++ toString ".loop" : String) = "min.loop" := by decide
 refine kmk_tree PySem.F.kind_min PySem.F.plain_min PySem.F.entry_min (args_min_2k _ _ _) ?_
 show wpAny _ X.A.in1 (Builtin.Builtins.bindParams "min" ["key", "default"] 0 ⟨[], [(Str.ofString "key", .ref q)]⟩ >>= _) _ _ sb
 refine wpAny_bind (wpAny_of_eq (show Builtin.Builtins.bindParams "min" ["key", "default"] 0 ⟨[], [(Str.ofString "key", .ref q)]⟩ = pure [some (.ref q), none] from rfl) ?_)
 have hzl : xs.length = 2 := vb.length
 have hfr : Hb sb.heap.objs.size = none := Ib.hok.fresh (Nat.le_refl _)
 show wpAny _ X.A.in1 (newTuple [u1, u2] >>= _) _ _ sb
 refine wpAny_bind (wpAny_newTuple ?_ (by show 2 <= sizeLine; rw [sizeLine_eq]; decide))
 have I : Inv X pins σ (upd Hb sb.heap.objs.size (.tup xs)) { sb with heap := sb.heap.push (seqObj "tuple" #[u1, u2] 0), toks := sb.toks } := Ib.laid (t' := sb.toks) (fun b u e => Heap.get?_push_of_some _ e) (Nat.le_refl _) ⟨by rw [hzl, sizeLine_eq]; decide, _, vb, ⟨_, Heap.get?_push_size _ rfl, rfl, _, rfl⟩⟩
 have xb : Ext Fb Hb (upd Fb sb.heap.objs.size (.tup xs)) (upd Hb sb.heap.objs.size (.tup xs)) := Ext.laid sfb hfr
 have sf : Same (upd Fb sb.heap.objs.size (.tup xs)) (upd Hb sb.heap.objs.size (.tup xs)) := xb.fh
 have sq : SqT X.K (upd Hb sb.heap.objs.size (.tup xs)) sb.heap.objs.size xs := SqT.of upd_same
 have rs : Reps X.K (upd Fb sb.heap.objs.size (.tup xs)) xs ds := rsb.mono xb.ff
 have hQ : ∀ x v F' H' s', Inv X pins σ H' s' -> RelV x v -> Ext (upd Fb sb.heap.objs.size (.tup xs)) (upd Hb sb.heap.objs.size (.tup xs)) F' H' -> Rep X.K F' x dm -> Q v s' := fun x v F' H' s' a b c d => hQ x v F' H' s' a b (xb.trans c) d
 generalize upd Fb sb.heap.objs.size (.tup xs) = F at *
 generalize upd Hb sb.heap.objs.size (.tup xs) = H at *
 show wpAny _ X.A.in1 (pyIter (.ref sb.heap.objs.size) >>= _) _ _ { sb with heap := sb.heap.push (seqObj "tuple" #[u1, u2] 0), toks := sb.toks }
 generalize sb.heap.objs.size = l at *
 generalize ({ sb with heap := sb.heap.push (seqObj "tuple" #[u1, u2] 0), toks := sb.toks } : Shared) = s at *
 obtain ⟨its, vr, pl, _⟩ := I.tuple sq
 have hls := pl
 obtain ⟨ol, hol, _⟩ := id hls
 have hll : l < s.heap.objs.size := Heap.lt_size hol
 refine wpAny_bind (wpAny_pyIter_tuple hls ?_)
 refine wpAny_bind (wpAny_newList ?_ (Nat.zero_le _))
 rw [hname]
 refine wpAny_pure ⟨plainId_quiet PySem.F.plain_min_loop _, ?_⟩
 generalize hIo : ({ cls := .type "tuple_iterator", data := .fields #[.ref l, .int 0 0] } : Obj) = oI0
 have hS : (s.heap.push oI0).objs.size = s.heap.objs.size + 1 := size_push' ..
 have hlI : l ≠ s.heap.objs.size := Nat.ne_of_lt hll
 have hlS : l ≠ (s.heap.push oI0).objs.size := by rw [hS]; exact Nat.ne_of_lt (Nat.lt_succ_of_lt hll)
 have hIS : s.heap.objs.size ≠ (s.heap.push oI0).objs.size := by rw [hS]; exact Nat.ne_of_lt (Nat.lt_succ_self _)
 have gI : ((s.heap.push oI0).push (seqObj "list" #[] 0)).get? s.heap.objs.size = some oI0 := Heap.get?_push_of_some _ (Heap.get?_push_size _ (by rw [<- hIo]; rfl))
 have gS : ((s.heap.push oI0).push (seqObj "list" #[] 0)).get? (s.heap.push oI0).objs.size = some (seqObj "list" #[] 0) := Heap.get?_push_size _ rfl
 have fI : FpOk X pins H s.heap.objs.size := I.fpOk (Nat.le_refl _) (I.hok.fresh (Nat.le_refl _))
 have fS : FpOk X pins H (s.heap.push oI0).objs.size := I.fpOk (by rw [hS]; exact Nat.le_succ _) (I.hok.fresh (by rw [hS]; exact Nat.le_succ _))
 have I0 : Inv X pins σ H { s with heap := (s.heap.push oI0).push (seqObj "list" #[] 0), toks := s.toks } := I.turnedL (fp := []) (fun b o _ e => Heap.get?_push_of_some _ (Heap.get?_push_of_some _ e)) (fun b hb => by cases hb)
 generalize (s.heap.push oI0).objs.size = S at *
 generalize hI : s.heap.objs.size = J at *
 generalize (s.heap.push oI0).push (seqObj "list" #[] 0) = h0 at *
 have hit : h0.IsTupleIter J l 0 := ⟨_, gI, by rw [<- hIo], by rw [<- hIo]; rfl⟩
 have zl : its.length = ds.length := by rw [<- vr.length, rs.length]
 obtain ⟨its', vr', pl', _⟩ := I0.tuple sq
 have zl' : its'.length = ds.length := by rw [<- vr'.length, rs.length]
 refine codeAny_builtin PySem.F.entry_min_loop ?_
 rw [Around.under_plainId PySem.F.plain_min_loop _]
 show wpAny _ X.A.in1 (seqItems? (.ref S) >>= _) _ _ _
 refine wpAny_bind (wpAny_seqItems gS rfl ?_)
 show wpAny _ X.A.in1 (tryCatch (pyNext (.ref J)) _ >>= _) _ _ _
 cases ds with
 | nil => cases hm
 | cons d ds =>
  obtain ⟨x, hx, px⟩ := rs.get (i := 0) (d := d) rfl
  obtain ⟨v, hv, rx⟩ := vr'.get hx
  unfold minN at hm
  dsimp only at hm
  cases hkd : mk d with
  | none => rw [hkd] at hm; cases hm
  | some kd =>
   rw [hkd] at hm
   dsimp only at hm
   refine wpAny_bind (wpAny_tryCatch (wpAny_pyNext_tuple_item hit pl' (by simpa using hv) fun h1 hit1 s1 => ?_))
   have I1 := I0.turnedL (h' := h1) (t' := s.toks) (fp := [J]) (fun b o hb e => s1.extBut b o (by simpa using hb) e) (fun b hb => by rw [List.mem_singleton.mp hb]; exact fI)
   have hS1 : h1.get? S = some (seqObj "list" #[] 0) := s1.extBut _ _ (Ne.symm hIS) gS
   obtain ⟨oI, eI, cI, dI⟩ := id hit1
   have Ip := I1.pin2 fI fS eI hS1 (fun v z => by rw [dI] at z; cases z) (fun v z => by cases z)
   show wpAny _ X.A.in1 (tryCatch (holding [v] (call (.ref q) [v])) _ >>= _) _ _ _
   refine wpAny_bind (wpAny_tryCatch (wpAny_holding (wpAny_mono (hk (pins ++ [(J, oI), (S, seqObj "list" #[] 0)]) σ H F _ x v d kd Ip sf px rx hkd) (fun w s2 hw => ?_) fun _ _ z => z.elim)))
   obtain ⟨y, F2, H2, I2, rw2, x2, py2⟩ := hw
   have pI := I2.pin (J, oI) (by simp)
   have pS := I2.pin (S, seqObj "list" #[] 0) (by simp)
   have I2' : Inv X pins σ H2 s2 := I2.unpinned
   have fI2 : FpOk X pins H2 J := fI.now pI.2.1
   have fS2 : FpOk X pins H2 S := fS.now pS.2.1
   have s3 := Heap.SameBut.update s2.heap S (Obj.mapSeq fun _ => #[v, w])
   obtain ⟨c2, hc2⟩ : ∃ c2, (s2.heap.update S (Obj.mapSeq fun _ => #[v, w])).get? S = some (seqObj "list" #[v, w] c2) := ⟨_, get?_update_seq pS.1 fun _ => #[v, w]⟩
   show wpAny _ X.A.in1 (updateSeq S (fun _ => #[v, w]) >>= _) _ _ _
   refine wpAny_bind (wpAny_updateSeq pS.1 rfl ?_)
   rw [hname]
   have I3 : Inv X pins σ H2 { s2 with heap := s2.heap.update S (Obj.mapSeq fun _ => #[v, w]), toks := s2.toks } := I2'.turnedL (fp := [S]) (fun b o hb e => (s3.2 b (by simpa using hb)).trans e) (fun b hb => by rw [List.mem_singleton.mp hb]; exact fS2)
   refine wpAny_pure ⟨plainId_quiet PySem.F.plain_min_loop _, min_loopT hk hc hu (ds := d :: ds) (dm := dm) hIS hlI hlS _ 0 H2 F2 H F _ x y v w d kd c2 _ rfl (by simp) I3 x2 (x2.hh.seqT sq) (rs.mono x2.ff) ⟨oI, (s3.2 J hIS).trans pI.1, cI, dI⟩ hc2 fI2 fS2 rx (px.mono x2.ff) rw2 py2 hm fun x v F' H' s' a b c d => hQ x v F' H' s' a b c d⟩
@[irreducible] noncomputable def mmin2K (mk : D -> Option D) (m : ML) : ME := fun ρ => (m ρ).bind fun ds => minN mk ds
theorem mmin2K_ev {mk : D -> Option D} {m : ML} {ρ : Ro} {ds : List D} (h1 : m ρ = some ds) : mmin2K mk m ρ = minN mk ds := by
 unfold mmin2K
 rw [h1]; rfl
theorem pd_min2K {q : Addr} {mk : D -> Option D} {x : Str} {p pf kp pos : Pos} {e1 e2 : Expr} {m : ML} (hk : KeyAt X (.ref q) mk) (hc : X.calm = true) (hu : X.A.units + 64 < cLine) (hg : Gl X "min") (hm : X.mg "min" = none) (hgf : Gl X x) (hmf : X.mg x = some (.ref q)) (ha : PAs X [e1, e2] m) (hl : ∀ ρ ds, m ρ = some ds -> ds.length = 2)
  (hdb : (x == ("__debug__" : Str)) = false := by decide) (hs : starEach [e1, e2] X.env = (false, eval e1 X.env) :: starEach [e2] X.env := by rfl) (hpl : (backTo pos (starEach [e2] X.env)).any (·.1) = false := by rfl) :
  PD X (.Call (.Name "min" p) [e1, e2] [⟨some "key", .Name x pf, kp⟩] pos) (mmin2K mk m) := by
 intro pins s σ H Q I h
 obtain ⟨F0, H0, F, ρ, g, rl, em, q0⟩ := h
 unfold mmin2K at em
 cases h1 : m ρ with
 | none => rw [h1] at em; cases em
 | some ds =>
  rw [h1, Option.bind_some] at em
  refine wpAny_Call_Name_kw (ld_blt I hg hm PyProof.Rows.boot_min ?_ (by decide) (by decide))
  have A := ha pos pins s σ H (fun vs H1 => ∃ F1, Ext F H F1 H1 /\ Reps X.K F1 vs ds) I ⟨F0, H0, F, ρ, ds, rl, h1, fun vs F1 H1 x1 r1 => ⟨F1, x1, r1⟩⟩
  refine callWith_kw (thn A fun us s1 hpat => ?_) (by rw [hs]; rfl) (by rw [hs]; show ((false, eval e1 X.env) :: backTo pos (starEach [e2] X.env)).any (·.1) = false; rw [any_cons, hpl]; rfl)
  obtain ⟨vs, H1, I1, r1, F1, x1, rs⟩ := hpat
  have B := pk_cons (nm := some "key") (kpos := kp) (pe_glob (v := .ref q) (pos := pf) hgf hmf rfl hdb) pk_nil pos pins s1 σ H1 (fun vs H2 => vs = [.ref q] /\ H2 = H1) I1 ⟨rfl, rfl⟩
  refine thn B fun us' s2 hpat => ?_
  obtain ⟨ws, H2, I2, r2, ev, eH⟩ := hpat
  subst ev eH
  obtain ⟨w1, rfl, ru1⟩ := vals1 r2
  cases ru1
  have hl2 : us.length = 2 := by rw [<- r1.length, rs.length, hl ρ ds h1]
  match us, hl2, r1 with
  | [u1, u2], _, r1 => exact min_topT hk hc hu I2 x1.fh r1 rs em fun x v F' H' s' I' rx x3 px => ⟨x, H', I', rx, q0 x F' H' (x1.trans x3) px⟩
end
end
section
inductive RPs (K : W.Frag) (F H : Hp) : List Addr -> List (List D) -> Prop
 | nil : RPs K F H [] []
 | cons {q : Addr} {xs : List V} {ds : List D} {qs : List Addr} {dss : List (List D)} : H q = some (.lst xs) -> Reps K F xs ds -> RPs K F H qs dss -> RPs K F H (q :: qs) (ds :: dss)
section
variable {K : W.Frag} {F H F' H' : Hp}
theorem RPs.mono (e : Same F F') (k : Same H H') : ∀ {qs : List Addr} {dss : List (List D)}, RPs K F H qs dss -> RPs K F' H' qs dss
 | _, _, .nil => .nil
 | _, _, .cons h r t => .cons (k _ _ h) (r.mono e) (RPs.mono e k t)
theorem RPs.keep (e : Same F F') : ∀ {qs : List Addr} {dss : List (List D)}, (∀ q ∈ qs, ∀ o, H q = some o -> H' q = some o) -> RPs K F H qs dss -> RPs K F' H' qs dss
 | _, _, _, .nil => .nil
 | _, _, k, .cons h r t => .cons (k _ mem_cons_self _ h) (r.mono e) (RPs.keep e (fun q hq => k q (mem_cons_of_mem _ hq)) t)
theorem RPs.snoc {q : Addr} {xs : List V} {ds : List D} (h : H q = some (.lst xs)) (r : Reps K F xs ds) : ∀ {qs : List Addr} {dss : List (List D)}, RPs K F H qs dss -> RPs K F H (qs ++ [q]) (dss ++ [ds])
 | _, _, .nil => .cons h r .nil
 | _, _, .cons a b t => .cons a b (RPs.snoc h r t)
theorem RPs.length : ∀ {qs : List Addr} {dss : List (List D)}, RPs K F H qs dss -> qs.length = dss.length
 | _, _, .nil => rfl
 | _, _, .cons _ _ t => congrArg (· + 1) (RPs.length t)
theorem RPs.get : ∀ {qs : List Addr} {dss : List (List D)} {i : Nat} {ds : List D}, RPs K F H qs dss -> dss[i]? = some ds -> ∃ q xs, qs[i]? = some q /\ H q = some (.lst xs) /\ Reps K F xs ds
 | _, _, _, _, .nil, e => by simp at e
 | _, _, 0, _, .cons a b _, e => by simp at e; subst e; exact ⟨_, _, rfl, a, b⟩
 | _, _, i + 1, ds, .cons _ _ t, e => by
  obtain ⟨q, xs, h1, h2⟩ := RPs.get (i := i) (ds := ds) t (by simpa using e)
  exact ⟨q, xs, by simpa using h1, h2⟩
theorem RPs.some : ∀ {qs : List Addr} {dss : List (List D)}, RPs K F H qs dss -> ∀ q ∈ qs, ∃ o, H q = some o
 | _, _, .cons a _ t, q, hq => by
  rcases List.mem_cons.mp hq with e | hq
  ·rw [e]; exact ⟨_, a⟩
  ·exact RPs.some t q hq
end
noncomputable abbrev MP := Ro -> Option (List (List D))
structure Pots (K : W.Frag) (H F' H' : Hp) (p : Addr) (qs : List Addr) (dss : List (List D)) : Prop where
 hp : H p = none
 fp : F' p = none
 at' : H' p = some (.lst (qs.map V.ref))
 new : ∀ q ∈ qs, H q = none /\ F' q = none
 nd : (p :: qs).Nodup
 rep : RPs K F' H' qs dss
def TPt (K : W.Frag) (m : MP) : TE := fun σ H Q => ∃ F0 H0 F ρ dss, Rl K F0 H0 F H σ ρ /\ m ρ = some dss /\ ∀ p qs F' H', Ext F H F' H' -> Pots K H F' H' p qs dss -> Q (.ref p) H'
def PP (X : Cx) (e : Expr) (m : MP) : Prop := PE X e (TPt X.K m)
theorem Ext.stays {F H F' H' : Hp} {p : Addr} {o : HO} (x : Ext F H F' H') (hF : F p = none) (hH : H p = some o) : F' p = none := by
 cases q : F' p with
 | none => rfl
 | some u => have := x.new p hF (by rw [q]; simp); rw [this] at hH; cases hH
section
variable {X : Cx} {a b c e : Expr} {pos : Pos}
noncomputable def mlst1 (m : ML) : MP := fun ρ => (m ρ).map fun ds => [ds]
theorem pp_lst1 {m : ML} (ha : PF X a m) (hs : starEach (a :: []) X.env = (false, eval a X.env) :: starEach [] X.env := by rfl) : PP X (.List [a] pos) (mlst1 m) := (pe_lst (pa_cons ha pa_nil hs)).imp fun σ H Q hpat => by
 obtain ⟨F0, H0, F, ρ, dss, rl, e, q⟩ := hpat
 unfold mlst1 at e
 cases h1 : m ρ with
 | none => rw [h1] at e; cases e
 | some ds =>
  rw [h1] at e; cases e
  refine ⟨F0, H0, F, ρ, ds, rl, h1, fun w xs F1 H1 x1 hw hF hH rs => ⟨by show 1 <= sizeLine; rw [sizeLine_eq]; decide, fun p hp => ?_⟩⟩
  have hne : w ≠ p := fun z => by rw [z, hp] at hH; cases hH
  refine q p [w] F1 _ (x1.trans (Ext.own x1.fh hp)) ⟨x1.hh.free hp, x1.fh.free hp, upd_same, fun z hz => ?_, ?_, .cons (by rw [upd_ne hne]; exact hH) rs .nil⟩
  ·rw [List.mem_singleton.mp hz]; exact ⟨hw, hF⟩
  ·simp only [nodup_cons, mem_singleton, not_mem_nil, not_false_eq_true, nodup_nil, and_true]
   exact fun z => hne z.symm
noncomputable def compP (g : Tg) (elt : ML) : List D -> Ro -> List (List D) -> Option (List (List D))
 | [], _, acc => some acc
 | it :: its, ρ, acc => match tgD g it ρ with
  | some ρ1 => (match elt ρ1 with
   | some ds => if acc.length < sizeLine then compP g elt its ρ1 (acc ++ [ds]) else none
   | none => none)
  | none => none
noncomputable def mcompP (src : List (Option Nat)) (mi : ML) (g : Tg) (elt : ML) : MP := fun ρ => (mi ρ).bind fun its => compP g elt its (blkRo src ρ) []
theorem comp_tp {K : W.Frag} {src : List (Option Nat)} {mi : ML} {g : Tg} {elt : ML} {σ : St} {H : Hp} {Q : VK} (h : TPt K (mcompP src mi g elt) σ H Q) : tComp src (TId K mi) (TGd K g) (TC K cyes) (TF K elt) σ H Q := by
 obtain ⟨F0, H0, F, ρ, out, rl, e, q⟩ := h
 unfold mcompP at e
 cases h1 : mi ρ with
 | none => rw [h1] at e; cases e
 | some its =>
  rw [h1] at e
  have e : compP g elt its (blkRo src ρ) [] = some out := e
  refine ⟨F0, H0, F, ρ, its, rl, h1, fun J F1 H1 x1 I => ?_⟩
  intro p hp
  obtain ⟨rb, no⟩ := (rl.go x1).blk src
  have hF1 : F1 p = none := x1.fh.free hp
  refine ⟨fun i m σ' H' => ∃ F' ρ' acc qs, Rl K F1 H1 F' H' σ' ρ' /\ NoOwn ρ' /\ H' p = some (.lst (qs.map V.ref)) /\ F' p = none /\ RPs K F' H' qs acc /\ (∀ w ∈ qs, H1 w = none /\ F' w = none) /\ (p :: qs).Nodup /\ i <= its.length /\ m = its.length - i /\ compP g elt (its.drop i) ρ' acc = some out,
   ⟨_, F1, blkRo src ρ, [], [], rb.other no hp hF1, no, upd_same, hF1, .nil, (fun w hw => by cases hw), by simp, Nat.zero_le _, rfl, e⟩, ?_⟩
  rintro i m σ' H' ⟨F', ρ', acc, qs, rl', no', hH', hF', ra, hnew, hnd, hi', rfl, e'⟩
  by_cases hlt : i < its.length
  ·right
   have hd := getElem?_eq_getElem hlt
   refine ⟨I.go i F' H' rl'.ext.ff rl'.fh hlt, fun σ2 H2 => ∃ F2 ρ2 acc2 qs2, Rl K F1 H1 F2 H2 σ2 ρ2 /\ NoOwn ρ2 /\ H2 p = some (.lst (qs2.map V.ref)) /\ F2 p = none /\ RPs K F2 H2 qs2 acc2 /\ (∀ w ∈ qs2, H1 w = none /\ F2 w = none) /\ (p :: qs2).Nodup /\ compP g elt (its.drop (i + 1)) ρ2 acc2 = some out, ?_, fun x H2 y => ?_⟩
   ·rintro σ2 H2 ⟨F2, ρ2, acc2, qs2, b1, b2, b3, b4, b5, b6, b7, b8⟩
    exact ⟨its.length - (i + 1), by omega, F2, ρ2, acc2, qs2, b1, b2, b3, b4, b5, b6, b7, hlt, rfl, b8⟩
   ·obtain ⟨F2, x2, r2⟩ := I.yld i F' H' x H2 _ rl'.ext.ff rl'.fh hd y
    rw [drop_get hd] at e'
    unfold compP at e'
    cases h2 : tgD g its[i] ρ' with
    | none => simp only [h2] at e'; cases e'
    | some ρ1 =>
     simp only [h2] at e'
     refine ⟨F1, H1, F2, ρ', _, ρ1, rl'.go x2, r2, h2, fun F3 H3 σ3 rl3 x3 => ?_⟩
     have no1 := no'.tg h2
     have x23 := x2.trans x3
     refine ⟨F1, H1, F3, ρ1, true, rl3, rfl, fun F4 H4 x4 => iteT ?_⟩
     have x24 := x23.trans x4
     cases h4 : elt ρ1 with
     | none => simp only [h4] at e'; cases e'
     | some ds =>
      simp only [h4] at e'
      split at e'
      ·rename_i hz
       refine ⟨F1, H1, F4, ρ1, ds, rl3.go x4, h4, fun w xs F5 H5 x5 hw hwF hwH r5 => ?_⟩
       have x25 := x24.trans x5
       have hp5 := x25.hh _ _ hH'
       have hwp : w ≠ p := fun z => by rw [z, x24.hh _ _ hH'] at hw; cases hw
       have ra5 : RPs K F5 H5 qs acc := ra.mono x25.ff x25.hh
       have hwq : w ∉ qs := fun z => by
        obtain ⟨o, ho⟩ := ra.some w z
        rw [x24.hh _ _ ho] at hw; cases hw
       refine ⟨qs.map V.ref, hp5, by rw [length_map, ra.length]; exact hz, F5, ρ1, acc ++ [ds], qs ++ [w], ((rl3.go x4).go x5).other no1 hp (x25.stays hF' hH'), no1, by rw [upd_same, map_append]; rfl, x25.stays hF' hH', ?_, fun z hz' => ?_, ?_, e'⟩
       ·refine ((ra5.snoc hwH r5)).keep (Same.refl _) fun z hz' o ho => ?_
        have : z ≠ p := by
         rcases List.mem_append.mp hz' with z1 | z1
         ·exact fun zz => (List.nodup_cons.mp hnd).1 (zz ▸ z1)
         ·rw [List.mem_singleton.mp z1]; exact hwp
        rw [upd_ne this]; exact ho
       ·rcases List.mem_append.mp hz' with z1 | z1
        ·obtain ⟨o, ho⟩ := ra.some z z1
         exact ⟨(hnew z z1).1, x25.stays (hnew z z1).2 ho⟩
        ·rw [List.mem_singleton.mp z1]
         exact ⟨(rl3.go x4).ext.hh.free hw, hwF⟩
       ·have hn := List.nodup_cons.mp hnd
        refine List.nodup_cons.mpr ⟨fun z => ?_, List.nodup_append.mpr ⟨hn.2, by simp, fun a ha b hb => ?_⟩⟩
        ·rcases List.mem_append.mp z with z1 | z1
         ·exact hn.1 z1
         ·exact hwp (List.mem_singleton.mp z1).symm
        ·rw [List.mem_singleton.mp hb]; exact fun zz => hwq (zz ▸ ha)
      ·cases e'
  ·left
   have hieq : i = its.length := by omega
   subst hieq
   rw [drop_length] at e'
   have e' : some acc = some out := e'
   cases e'
   exact ⟨I.stop F' H' rl'.ext.ff rl'.fh, q p qs F' H' (x1.trans rl'.ext) ⟨x1.hh.free hp, hF', hH', fun w hw => ⟨x1.hh.free (hnew w hw).1, (hnew w hw).2⟩, hnd, ra⟩⟩
theorem pp_comp {sc : Scope} {N : List Str} {src : List (Option Nat)} {tg elt iter : Expr} {mi : ML} {g : Tg} {me : ML} (B : Blk X sc N src) (hc : X.calm = true)
  (hi : PId X tg iter mi) (hg : ∀ C fp s H, PGd (blkCx X sc C N fp s H) tg g) (he : ∀ C fp s H, PF (blkCx X sc C N fp s H) elt me)
  (hs : ∀ x, foldedSetIterable iter X.env x = pure x := by intro _; rfl) :
  PP X (.ListComp elt [⟨tg, iter, [], 0⟩] sc pos) (mcompP src mi g me) := (pe_comp (g := TGd X.K g) (tc := TC X.K cyes) (te := TF X.K me) B hc hi (fun C fp s H => hg C fp s H) (fun C fp s H => ptsd_nil) (fun C fp s H => he C fp s H) hs).imp fun _ _ _ h => comp_tp h
end
noncomputable abbrev MFP := List D -> Option (List (List D))
def spP (K : W.Frag) (n : Nat) (m : MFP) : Sp := fun vs H Q _ => vs.length = n /\ ∃ F ds dss, Same F H /\ Reps K F vs ds /\ m ds = some dss /\ ∀ p qs F' H', Ext F H F' H' -> Pots K H F' H' p qs dss -> Q (.ref p) H'
noncomputable def runP (n : Nat) (c : MB) (m1 m2 : MP) : MFP := fun ds => match c (startS n ds) with
 | some true => m1 (startS n ds)
 | some false => m2 (startS n ds)
 | none => none
theorem Fun.okP {P : Program} {w : World} {K : W.Frag} {mg : Str -> Option Value} {base : Heap} {x qual : Str} {st : Stmt} {f : Addr} {fd : FuncData} {N ps : List Str} {k : Nat} {c e1 e2 : Expr} {p1 p2 p3 : Pos} {cc : MB} {m1 m2 : MP} (Fn : Fun K x qual st f fd) (Sc : FnScope N ps (defScope st))
  (hst : defBody st = [.If c [.Return (some e1) p1] [] p2, .Return (some e2) p3])
  (hc : ∀ (cdv : Value) (A : Around) (outer : List Env) (s : Shared) (H : Hp) (E : XK), Room k (A.deeper (envOfC qual (defScope st) s.heap.objs.size f cdv)) -> PC' (cxOf CX0 P w K mg base N qual (defScope st) f cdv A outer s H E).nox c cc)
  (h1 : ∀ (cdv : Value) (A : Around) (outer : List Env) (s : Shared) (H : Hp) (E : XK), Room k (A.deeper (envOfC qual (defScope st) s.heap.objs.size f cdv)) -> PP (cxOf CX0 P w K mg base N qual (defScope st) f cdv A outer s H E).nox e1 m1)
  (h2 : ∀ (cdv : Value) (A : Around) (outer : List Env) (s : Shared) (H : Hp) (E : XK), Room k (A.deeper (envOfC qual (defScope st) s.heap.objs.size f cdv)) -> PP (cxOf CX0 P w K mg base N qual (defScope st) f cdv A outer s H E).nox e2 m2) :
  FnOk P w K mg base CX0 (k + 1) f fd ps (spP K ps.length (runP N.length cc m1 m2)) := by
 refine Fn.ok Sc (fun vs H Q E h => h.1) fun cdv A outer s H vs Q E hr h => ?_
 obtain ⟨hl, F, ds, dss, sf, rs, e, ok⟩ := h
 rw [hst]
 refine ⟨_, pss_cons (ps_if (hc cdv A outer s H E hr) (pss_one (ps_ret (h1 cdv A outer s H E hr))) pss_nil) (pss_one (ps_ret (h2 cdv A outer s H E hr))), ?_⟩
 have rl := rl_start (N := N) sf rs
 unfold runP at e
 cases q : cc (startS N.length ds) with
 | none => simp only [q] at e; cases e
 | some b =>
  simp only [q] at e
  refine ⟨F, H, F, startS N.length ds, b, rl, q, fun F1 H1 x1 => ?_⟩
  cases b with
  | true =>
   refine iteT ⟨F, H, F1, _, dss, rl.go x1, e, fun p qs F2 H2 x2 pt => ?_⟩
   exact ok p qs F2 H2 (x1.trans x2) ⟨x1.hh.free pt.hp, pt.fp, pt.at', fun z hz => ⟨x1.hh.free (pt.new z hz).1, (pt.new z hz).2⟩, pt.nd, pt.rep⟩
  | false =>
   refine iteF ⟨F, H, F1, _, dss, rl.go x1, e, fun p qs F2 H2 x2 pt => ?_⟩
   exact ok p qs F2 H2 (x1.trans x2) ⟨x1.hh.free pt.hp, pt.fp, pt.at', fun z hz => ⟨x1.hh.free (pt.new z hz).1, (pt.new z hz).2⟩, pt.nd, pt.rep⟩
end
section
noncomputable def Hx (H0 H1 : Hp) (A : List Addr) : Hp := fun b => if b ∈ A then H1 b else H0 b
theorem Hx_in {H0 H1 : Hp} {A : List Addr} {b : Addr} (h : b ∈ A) : Hx H0 H1 A b = H1 b := if_pos h
theorem Hx_out {H0 H1 : Hp} {A : List Addr} {b : Addr} (h : b ∉ A) : Hx H0 H1 A b = H0 b := if_neg h
theorem Ext.less {F0 H0 H0' F H : Hp} (s : Same H0 H0') (x : Ext F0 H0' F H) : Ext F0 H0 F H := ⟨x.ff, s.trans x.hh, x.fh, fun b e n => s.free (x.new b e n), x.nf⟩
section
variable {K : W.Frag} {F0 H0 H0' F H : Hp} {σ : St} {ρ : Ro}
theorem Rl.less (s : Same H0 H0') (r : Rl K F0 H0' F H σ ρ) : Rl K F0 H0 F H σ ρ where
 ext := r.ext.less s
 len := r.len
 sh := r.sh
 own := fun i ds h => let ⟨p, xs, a, b, c, d, z⟩ := r.own i ds h; ⟨p, xs, a, b, c, d, s.free z⟩
 inj := r.inj
 ob := fun i p ds h => let ⟨a, b, c, d⟩ := r.ob i p ds h; ⟨a, b, s.free c, d⟩
 obn := r.obn
 ob1 := r.ob1
theorem okO.less {Fb : Hp} {Dn : Ends} (s : Same H0 H0') : ∀ {o : Out}, okO K F0 H0 Fb Dn o -> okO K F0 H0' Fb Dn o
 | .nx _, h => fun F H σ rl q => h F H σ (rl.less s) q
 | .bk _, h => fun F H σ rl q => h F H σ (rl.less s) q
 | .ct _, h => fun F H σ rl q => h F H σ (rl.less s) q
 | .rt _, h => fun v F H x r => h v F H (x.less s) r
 | .rf _, h => fun p xs F H x a b c d => h p xs F H (x.less s) (s.free a) b c d
 | .rp _ _, h => fun t v p xs F H x a b c d e f g i j => h t v p xs F H (x.less s) (s.free a) (s.free b) c d e f g i j
 | .rg _ _ _, h => fun v F H xs x a b c d => h v F H xs (x.less s) a b c d
 | .rgf _ _ _, h => fun q ys F H xs x a b c d e f g i => h q ys F H xs (x.less s) (s.free a) b c d e f g i
end
section
variable {X : Cx} {a b c e : Expr} {pos : Pos} {st : Stmt}
variable {E : XK} {es : List Expr} {m : ML}
noncomputable def mcallP (f : MFP) (m : ML) : MP := fun ρ => (m ρ).bind f
theorem pp_call {n : Nat} {mf : MFP} (h : ∀ t, PA X es t -> PE X e (tCall (spP X.K n mf) [] E t)) (hl : es.length = n) (ha : PAs X es m) (hm : ∀ ρ ds, m ρ = some ds -> ds.length = es.length) : PP X e (mcallP mf m) := (h _ ha).imp fun σ H Q hpat => by
 obtain ⟨F0, H0, F, ρ, d, rl, e, q⟩ := hpat
 unfold mcallP at e
 cases h1 : m ρ with
 | none => rw [h1] at e; cases e
 | some ds =>
  rw [h1] at e
  refine ⟨F0, H0, F, ρ, ds, rl, h1, fun vs F1 H1 x1 r1 => ?_⟩
  show spP X.K n mf (vs ++ []) H1 Q E
  rw [append_nil]
  refine ⟨by rw [r1.length, hm ρ ds h1, hl], F1, ds, d, x1.fh, r1, e, fun p qs F2 H2 x2 pt => ?_⟩
  exact q p qs F2 H2 (x1.trans x2) ⟨x1.hh.free pt.hp, pt.fp, pt.at', fun z hz => ⟨x1.hh.free (pt.new z hz).1, (pt.new z hz).2⟩, pt.nd, pt.rep⟩
theorem asg_m {t : TE} {i : Nat} {na : MEm} (h : PS X st (tAsg t (gName i))) (ht : ∀ σ H Q, TDm X.K na σ H Q -> t σ H Q) : PSd X st (msetm i na) := h.imp fun D σ H hpat => by
 obtain ⟨F0, H0, F, ρ, o, rl, e, ok⟩ := hpat
 unfold msetm at e
 split at e
 ·rename_i d ρ1 h1
  cases e
  exact ht _ _ _ ⟨F0, H0, F, ρ, d, ρ1, rl, h1, fun v F1 H1 rl1 s1 r1 => ok F1 H1 _ (rl1.set r1) s1⟩
 ·cases e
theorem psd_setCmB {k i j : Nat} {src : List (Option Nat)} {mi : ML} {me : MEm} (hsj : src[j]? = some (some i)) (hj : j ≠ 0) (h : PS X st (tAsg (tComp src (TId X.K mi) (gName 0) tYes (TDm X.K me)) (gName k))) : PSd X st (msetm k (mcompmB src mi i j me)) := asg_m h fun _ _ _ q => comp_tdmB hsj hj q
end
end
section
section
variable {K : W.Frag} {F0 H0 F H : Hp} {σ : St} {ρ : Ro}
theorem Rl.freezeQ (r : Rl K F0 H0 F H σ ρ) {i : Nat} {ds : List D} (h : ρ[i]? = some (some (.own ds))) : ∃ p xs, F p = none /\ Reps K F xs ds /\ Rl K F0 H0 (upd F p (.lst xs)) H σ (ρ.set i (some (.sh (.lst ds)))) := by
 obtain ⟨p, xs, a, b, c, d, z⟩ := r.own i ds h
 have hl : i < ρ.length := (List.getElem?_eq_some_iff.mp h).1
 have e : Ext F0 H0 (upd F p (.lst xs)) H := r.ext.freeze b z c
 have ff : Same F (upd F p (.lst xs)) := (Same.refl F).put b
 refine ⟨p, xs, b, d, ⟨e, by simp [r.len], fun j d' q => ?_, fun j es q => ?_, fun j k q es es' hjk e1 e2 e3 e4 => ?_, fun j q es e1 => ?_, fun j k q es es' e1 e2 e3 => ?_, fun j k q q' es es' e1 e2 => r.ob1 j k q q' es es' (set_ob e1).2 (set_ob e2).2⟩⟩
 ·by_cases hj : i = j
  ·subst hj
   rw [getElem?_set_self hl] at q
   cases q
   exact ⟨_, a, .lst (SqL.of upd_same) (d.mono ff)⟩
  ·rw [getElem?_set_ne hj] at q
   obtain ⟨v, v1, v2⟩ := r.sh j d' q
   exact ⟨v, v1, v2.mono ff⟩
 ·by_cases hj : i = j
  ·subst hj
   rw [getElem?_set_self hl] at q
   cases q
  ·rw [getElem?_set_ne hj] at q
   obtain ⟨p', xs', a', b', c', d', z'⟩ := r.own j es q
   have hp : p' ≠ p := fun w => r.inj i j p ds es hj h q a (by rw [<- w]; exact a')
   exact ⟨p', xs', a', by rw [upd_ne hp]; exact b', c', d'.mono ff, z'⟩
 ·have n1 : i ≠ j := fun w => by subst w; rw [getElem?_set_self hl] at e1; cases e1
  have n2 : i ≠ k := fun w => by subst w; rw [getElem?_set_self hl] at e2; cases e2
  rw [getElem?_set_ne n1] at e1
  rw [getElem?_set_ne n2] at e2
  exact r.inj j k q es es' hjk e1 e2 e3 e4
 ·obtain ⟨n, e1⟩ := set_ob e1
  obtain ⟨o1, o2, o3, zs, o4, o5⟩ := r.ob j q es e1
  have hp : q ≠ p := fun w => r.obn j i q es ds e1 h (by rw [w]; exact a)
  exact ⟨o1, by rw [upd_ne hp]; exact o2, o3, zs, o4, o5.mono ff⟩
 ·obtain ⟨n, e1⟩ := set_ob e1
  have n2 : i ≠ k := fun w => by subst w; rw [getElem?_set_self hl] at e2; cases e2
  rw [getElem?_set_ne n2] at e2
  exact r.obn j k q es es' e1 e2 e3
end
noncomputable def hasL : List D -> Bool
 | [] => false
 | .lst _ :: _ => true
 | _ :: r => hasL r
theorem hasL_no {K : W.Frag} {F : Hp} : ∀ {xs : List V} {ds es : List D}, hasL ds = true -> numsD es = true -> Reps K F xs ds -> Reps K F xs es -> False
 | _, [], _, h, _, _, _ => by cases h
 | _, d :: ds, [], h, _, .cons _ _, r => by cases r
 | _, d :: ds, e :: es, h, h2, .cons a r, .cons b r2 => by
  cases e with
  | int k =>
   cases b
   cases a
   exact hasL_no (show hasL ds = true from h) (show numsD es = true from h2) r r2
  | _ => cases h2
noncomputable def tellL (ds : List D) : D -> Bool
 | .lst es => numsD es && hasL ds
 | _ => false
@[irreducible] noncomputable def mborL (i : Nat) (m : ME) : ME := fun ρ => match ρ[i]? with
 | some (some (.own ds)) => (match m (ρ.set i (some (.sh (.lst ds)))) with | some d => if tellL ds d = true then some d else none | none => none)
 | _ => m ρ
theorem tellL_rep {K : W.Frag} {F : Hp} {p : Addr} {xs : List V} {ds : List D} {v : V} {d : D} (hp : F p = some (.lst xs)) (hx : Reps K F xs ds) (h : tellL ds d = true) (r : Rep K F v d) : Rep K (fun b => if b = p then none else F b) v d := by
 cases r with
 | lst sq rs =>
  rename_i a ys es
  have h : (numsD es && hasL ds) = true := h
  rw [Bool.and_eq_true] at h
  refine .lst ?_ (reps_nums h.1 rs)
  rcases sq with (sq | ⟨o, sq⟩) | sq
  ·have hne : a ≠ p := fun z => by
    rw [z, hp] at sq; cases sq
    exact hasL_no h.2 h.1 hx rs
   exact .inl (.inl (by show (if a = p then none else F a) = _; rw [if_neg hne]; exact sq))
  ·have hne : a ≠ p := fun z => by rw [z, hp] at sq; cases sq
   exact .inl (.inr ⟨o, by show (if a = p then none else F a) = _; rw [if_neg hne]; exact sq⟩)
  ·exact .inr sq
 | _ => cases h
theorem pd_borL {X : Cx} {e : Expr} {m : ME} (i : Nat) (h : PD X e m) : PD X e (mborL i m) := h.imp fun σ H Q hpat => by
 obtain ⟨F0, H0, F, ρ, d, rl, e, q⟩ := hpat
 unfold mborL at e
 split at e
 ·rename_i ds h1
  obtain ⟨p, xs, hp, hx, rl'⟩ := rl.freezeQ h1
  split at e
  ·rename_i d' h2
   split at e
   ·rename_i hs
    cases e
    refine ⟨F0, H0, _, _, d, rl', h2, fun v F2 H2 x2 r2 => ?_⟩
    have hp2 : F2 p = some (.lst xs) := x2.ff _ _ upd_same
    refine q v (fun b => if b = p then none else F2 b) H2 ⟨fun b o hb => ?_, x2.hh, fun b o hb => ?_, fun b hb hn => ?_, fun b o u z => by
     have z : (if b = p then none else F2 b) = some (.frz o u) := z
     split at z
     ·cases z
     ·rename_i hne
      have := x2.nf b o u z
      rwa [upd_ne hne] at this⟩ (tellL_rep hp2 (hx.mono (((Same.refl F).put hp).trans x2.ff)) hs r2)
    ·have hne : b ≠ p := fun w => by rw [w, hp] at hb; cases hb
     show (if b = p then none else F2 b) = some o
     rw [if_neg hne]
     exact x2.ff b o (by rw [upd_ne hne]; exact hb)
    ·have hb : (if b = p then none else F2 b) = some o := hb
     split at hb
     ·cases hb
     ·exact x2.fh b o hb
    ·have hn : (if b = p then none else F2 b) ≠ none := hn
     split at hn
     ·exact absurd rfl hn
     ·rename_i hne
      exact x2.new b (by rw [upd_ne hne]; exact hb) hn
   ·cases e
  ·cases e
 ·exact ⟨F0, H0, F, ρ, d, rl, e, q⟩
end
section
section
variable {X : Cx} {a b : Expr} {ma mb : ME} {pos : Pos}
end
section
variable {X : Cx} {a b : Expr}
open PySem.SeqAt in
end
end
section
section
variable {X : Cx} {a b c e o : Expr} {ma mb mo : ME} {pos : Pos} {st : Stmt}
end
open Classical in
section
variable {X : Cx} {pos : Pos}
end
end
section
section
variable {X : Cx} {st : Stmt}
end
end
section
inductive Fl where
 | v (d : D) | l (ds : List D)
inductive Cell where
 | ins (c : Str) (ns : List Str) (fs : List Fl)
 | row (fs : List Fl)
 | tb (P : Addr) (mw : Str) (pos : Pos) (q : Str)
def CodeAt (c : Addr) (q : Str) : Heap -> Prop := fun h => h.CodeRec (.ref c) q
structure CodeT (K : W.Frag) (cdv : Value) (P : Addr) : Prop where
 hd : ∃ c, cdv = .ref c /\ ∀ h : Heap, K.In h -> W.CodeHd h c P
 ne : mainGlobals ≠ P
def TabF (K : W.Frag) (mw : Str) (P : Addr) : Prop := ∃ f oc od fd sl, W.nsIn K mainGlobals mw = some (some (.ref f)) /\ K.lookup f = some ⟨oc, od, .func fd, sl⟩ /\ CodeT K fd.code P
noncomputable abbrev Bx := List (Addr × Cell)
inductive FlR (K : W.Frag) (F B : Hp) : List Addr -> List V -> List Fl -> Prop
 | nil : FlR K F B [] [] []
 | v {fp : List Addr} {x : V} {d : D} {xs : List V} {fs : List Fl} : Rep K F x d -> FlR K F B fp xs fs -> FlR K F B fp (x :: xs) (.v d :: fs)
 | l {fp : List Addr} {q : Addr} {ys : List V} {ds : List D} {xs : List V} {fs : List Fl} : B q = some (.lst ys) -> Reps K F ys ds -> FlR K F B fp xs fs -> FlR K F B (q :: fp) (.ref q :: xs) (.l ds :: fs)
inductive CellR (K : W.Frag) (F B : Hp) : List Addr -> Addr -> Cell -> Prop
 | ins {fp : List Addr} {p dx C : Addr} {c : Str} {ns : List Str} {xs : List V} {fs : List Fl} : W.nsIn K mainGlobals c = some (some (.ref C)) -> ns.length = xs.length -> B p = some (.ins C dx (ns.zip xs)) -> B dx = some (.own p) -> FlR K F B fp xs fs ->
   CellR K F B (p :: dx :: fp) p (.ins c ns fs)
 | row {fp : List Addr} {p : Addr} {xs : List V} {fs : List Fl} : B p = some (.lst xs) -> FlR K F B fp xs fs -> CellR K F B (p :: fp) p (.row fs)
 | tb {P : Addr} {mw : Str} {pos : Pos} {q : Str} {ps : Array Value} : TabF K mw P -> B P = some (.tbl ps) -> TriplesOk ps.toList -> (codeAmong pos ps.toList = none \/ ∃ c, codeAmong pos ps.toList = some (.ref c) /\ F c = some (.ext (CodeAt c q))) -> CellR K F B [P] P (.tb P mw pos q)
inductive BxR (K : W.Frag) (F B : Hp) : List Addr -> Bx -> Prop
 | nil : BxR K F B [] []
 | cons {fp fq : List Addr} {p : Addr} {c : Cell} {β : Bx} : CellR K F B fp p c -> BxR K F B fq β -> BxR K F B (fp ++ fq) ((p, c) :: β)
section
variable {K : W.Frag} {F F' B B' : Hp}
theorem FlR.mono (e : Same F F') {fp : List Addr} {xs : List V} {fs : List Fl} (h : FlR K F B fp xs fs) (k : ∀ a ∈ fp, B' a = B a) : FlR K F' B' fp xs fs := by
 induction h with
 | nil => exact .nil
 | v r _ ih => exact .v (r.mono e) (ih k)
 | l b r _ ih => exact .l (by rw [k _ (by simp)]; exact b) (r.mono e) (ih fun a ha => k a (mem_cons_of_mem _ ha))
theorem CellR.mono (e : Same F F') {fp : List Addr} {p : Addr} {c : Cell} (h : CellR K F B fp p c) (k : ∀ a ∈ fp, B' a = B a) : CellR K F' B' fp p c := by
 cases h with
 | ins a l b d r => exact .ins a l (by rw [k _ (by simp)]; exact b) (by rw [k _ (by simp)]; exact d) (r.mono e fun a ha => k a (by simp [ha]))
 | row b r => exact .row (by rw [k _ (by simp)]; exact b) (r.mono e fun a ha => k a (by simp [ha]))
 | tb a b t h => exact .tb a (by rw [k _ (by simp)]; exact b) t (h.imp id fun ⟨c, h1, h2⟩ => ⟨c, h1, e _ _ h2⟩)
theorem BxR.mono (e : Same F F') {fp : List Addr} {β : Bx} (h : BxR K F B fp β) (k : ∀ a ∈ fp, B' a = B a) : BxR K F' B' fp β := by
 induction h with
 | nil => exact .nil
 | cons c _ ih => exact .cons (c.mono e fun a ha => k a (by simp [ha])) (ih fun a ha => k a (by simp [ha]))
theorem FlR.mem {fp : List Addr} {xs : List V} {fs : List Fl} (h : FlR K F B fp xs fs) : ∀ a ∈ fp, B a ≠ none := by
 induction h with
 | nil => intro a ha; cases ha
 | v _ _ ih => exact ih
 | l b _ _ ih =>
  intro a ha
  rcases List.mem_cons.mp ha with rfl | ha
  ·rw [b]; simp
  ·exact ih a ha
theorem CellR.mem {fp : List Addr} {p : Addr} {c : Cell} (h : CellR K F B fp p c) : ∀ a ∈ fp, B a ≠ none := by
 intro a ha
 cases h with
 | ins _ _ b d r =>
  rcases List.mem_cons.mp ha with rfl | ha
  ·rw [b]; simp
  ·rcases List.mem_cons.mp ha with rfl | ha
   ·rw [d]; simp
   ·exact r.mem a ha
 | row b r =>
  rcases List.mem_cons.mp ha with rfl | ha
  ·rw [b]; simp
  ·exact r.mem a ha
 | tb _ b _ _ => rw [List.mem_singleton.mp ha, b]; simp
theorem BxR.mem {fp : List Addr} {β : Bx} (h : BxR K F B fp β) : ∀ a ∈ fp, B a ≠ none := by
 induction h with
 | nil => intro a ha; cases ha
 | cons c _ ih =>
  intro a ha
  rcases List.mem_append.mp ha with ha | ha
  ·exact c.mem a ha
  ·exact ih a ha
end
noncomputable def jn (H0 B : Hp) : Hp := fun a => match B a with | some o => some o | none => H0 a
theorem jn_some {H0 B : Hp} {a : Addr} {o : HO} (h : B a = some o) : jn H0 B a = some o := by unfold jn; rw [h]
theorem jn_none {H0 B : Hp} {a : Addr} (h : B a = none) : jn H0 B a = H0 a := by unfold jn; rw [h]
theorem jn_free {H0 B : Hp} {a : Addr} (h : jn H0 B a = none) : B a = none /\ H0 a = none := by
 cases b : B a with
 | none => rw [jn_none b] at h; exact ⟨rfl, h⟩
 | some o => rw [jn_some b] at h; cases h
structure BxOk (K : W.Frag) (F0 H0 F B : Hp) (fp : List Addr) (β : Bx) : Prop where
 out : ∀ a, B a ≠ none -> H0 a = none /\ F0 a = none
 bx : BxR K F B fp β
 nd : fp.Nodup
 plain : ∀ a o u, B a ≠ some (.frz o u)
theorem BxOk.mono {K : W.Frag} {F0 H0 F F' B : Hp} {fp : List Addr} {β : Bx} (h : BxOk K F0 H0 F B fp β) (e : Same F F') : BxOk K F0 H0 F' B fp β := ⟨h.out, h.bx.mono e fun _ _ => rfl, h.nd, h.plain⟩
def RlW (K : W.Frag) (F0 H0 F H : Hp) (σ : St) (ρ : Ro) (β : Bx) : Prop := ∃ B fp, Rl K F0 (jn H0 B) F H σ ρ /\ BxOk K F0 H0 F B fp β
noncomputable abbrev MW := Ro -> Bx -> Option (Out × Bx)
noncomputable def okW (K : W.Frag) (F0 H0 Fb : Hp) (Dn : Ends) : Out -> Bx -> Prop
 | .nx ρ, β => ∀ F H σ, RlW K F0 H0 F H σ ρ β -> Same Fb F -> Dn.nx σ H
 | .bk ρ, β => ∀ F H σ, RlW K F0 H0 F H σ ρ β -> Same Fb F -> Dn.bk σ H
 | .ct ρ, β => ∀ F H σ, RlW K F0 H0 F H σ ρ β -> Same Fb F -> Dn.ct σ H
 | .rt d, β => ∀ v F H B fp, Ext F0 (jn H0 B) F H -> BxOk K F0 H0 F B fp β -> Rep K F v d -> Dn.rt v H
 | .rf ds, β => ∀ p xs F H B fp, Ext F0 (jn H0 B) F H -> BxOk K F0 H0 F B fp β -> jn H0 B p = none -> F p = none -> H p = some (.lst xs) -> Reps K F xs ds -> Dn.rt (.ref p) H
 | .rg d p r, β => ∀ v F H xs B fp, Ext F0 (jn H0 B) F H -> BxOk K F0 H0 F B fp β -> Rep K F v d -> jn H0 B p = none -> F p = none -> H p = some (.lst xs) -> Reps K F xs r -> Dn.rt v H
 | .rp _ _, _ => False
 | .rgf _ _ _, _ => False
theorem okW.mono {K : W.Frag} {F0 H0 Fb Fb' : Hp} {Dn : Ends} (s : Same Fb Fb') : ∀ {o : Out} {β : Bx}, okW K F0 H0 Fb Dn o β -> okW K F0 H0 Fb' Dn o β
 | .nx _, _, h => fun F H σ rl q => h F H σ rl (s.trans q)
 | .bk _, _, h => fun F H σ rl q => h F H σ rl (s.trans q)
 | .ct _, _, h => fun F H σ rl q => h F H σ rl (s.trans q)
 | .rt _, _, h => h
 | .rf _, _, h => h
 | .rp _ _, _, h => h
 | .rg _ _ _, _, h => h
 | .rgf _ _ _, _, h => h
def TSw (K : W.Frag) (m : MW) : TS := fun Dn σ H => ∃ F0 H0 F ρ β o β', RlW K F0 H0 F H σ ρ β /\ m ρ β = some (o, β') /\ okW K F0 H0 F Dn o β'
def TDw (K : W.Frag) (m : Ro -> Bx -> Option D) : TE := fun σ H Q => ∃ F0 H0 F ρ β d, RlW K F0 H0 F H σ ρ β /\ m ρ β = some d /\ ∀ v F' H', RlW K F0 H0 F' H' σ ρ β -> Same F F' -> Same H H' -> Rep K F' v d -> Q v H'
def TCw (K : W.Frag) (m : Ro -> Bx -> Option Bool) : TT := fun σ H Q => ∃ F0 H0 F ρ β b, RlW K F0 H0 F H σ ρ β /\ m ρ β = some b /\ ∀ F' H', RlW K F0 H0 F' H' σ ρ β -> Same F F' -> Q b H'
def PSw (X : Cx) (st : Stmt) (m : MW) : Prop := PS X st (TSw X.K m)
def PSsw (X : Cx) (st : List Stmt) (m : MW) : Prop := PSs X st (TSw X.K m)
def PDw (X : Cx) (e : Expr) (m : Ro -> Bx -> Option D) : Prop := PE X e (TDw X.K m)
def PCw' (X : Cx) (e : Expr) (m : Ro -> Bx -> Option Bool) : Prop := PT X e (TCw X.K m)
section
variable {X : Cx} {a b c e : Expr} {pos : Pos} {st : Stmt} {rest : List Stmt}
noncomputable def wS (m : MS) : MW := fun ρ β => match m ρ with | some (.nx ρ') => some (.nx ρ', β) | some (.bk ρ') => some (.bk ρ', β) | some (.ct ρ') => some (.ct ρ', β) | _ => none
noncomputable def wE {α : Type} (m : Ro -> Option α) : Ro -> Bx -> Option α := fun ρ _ => m ρ
theorem psw {m : MS} (h : PSd X st m) : PSw X st (wS m) := PS.imp h fun Dn σ H ⟨F0, H0, F, ρ, β, o, β', ⟨B, fp, rl, ok⟩, e, k⟩ => by
 unfold wS at e
 split at e
 ·rename_i ρ' h1
  cases e
  exact ⟨F0, jn H0 B, F, ρ, _, rl, h1, fun F' H' σ' rl' sf => k F' H' σ' ⟨B, fp, rl', ok.mono sf⟩ sf⟩
 ·rename_i ρ' h1
  cases e
  exact ⟨F0, jn H0 B, F, ρ, _, rl, h1, fun F' H' σ' rl' sf => k F' H' σ' ⟨B, fp, rl', ok.mono sf⟩ sf⟩
 ·rename_i ρ' h1
  cases e
  exact ⟨F0, jn H0 B, F, ρ, _, rl, h1, fun F' H' σ' rl' sf => k F' H' σ' ⟨B, fp, rl', ok.mono sf⟩ sf⟩
 ·cases e
theorem pcw {m : MB} (h : PC' X e m) : PCw' X e (wE m) := PT.imp h fun σ H Q ⟨F0, H0, F, ρ, β, d, ⟨B, fp, rl, ok⟩, e, q⟩ =>
 ⟨F0, jn H0 B, F, ρ, d, rl, e, fun F' H' x => q F' H' ⟨B, fp, rl.go x, ok.mono x.ff⟩ x.ff⟩
noncomputable def mseqW (x y : MW) : MW := fun ρ β => match x ρ β with | some (.nx ρ', β') => y ρ' β' | o => o
theorem pssw_one {m : MW} (h : PSw X st m) : PSsw X [st] m := pss_one h
theorem pssw_nil : PSsw X [] (wS mnext) := PSs.imp pss_nil fun Dn σ H ⟨F0, H0, F, ρ, β, o, β', ⟨B, fp, rl, ok⟩, e, k⟩ => by
 cases e
 exact k F H σ ⟨B, fp, rl, ok⟩ (Same.refl _)
theorem pssw_cons {m1 m2' : MW} (h1 : PSw X st m1) (h2 : PSsw X rest m2') : PSsw X (st :: rest) (mseqW m1 m2') := PSs.imp (pss_cons h1 h2) fun D σ H hpat => by
 obtain ⟨F0, H0, F, ρ, β, o, β', rw', e, ok⟩ := hpat
 unfold mseqW at e
 cases h : m1 ρ β with
 | none => rw [h] at e; cases e
 | some ob =>
  obtain ⟨o1, β1⟩ := ob
  rw [h] at e
  cases o1 with
  | nx ρ1 => exact ⟨F0, H0, F, ρ, β, _, β1, rw', h, fun F' H' σ' rl' sf => ⟨F0, H0, F', ρ1, β1, o, β', rl', e, ok.mono sf⟩⟩
  | bk ρ1 => cases e; exact ⟨F0, H0, F, ρ, β, _, _, rw', h, ok⟩
  | ct ρ1 => cases e; exact ⟨F0, H0, F, ρ, β, _, _, rw', h, ok⟩
  | rt d => cases e; exact ⟨F0, H0, F, ρ, β, _, _, rw', h, ok⟩
  | rf d => cases e; exact ⟨F0, H0, F, ρ, β, _, _, rw', h, ok⟩
  | rp d ds => cases e; exact ⟨F0, H0, F, ρ, β, _, _, rw', h, ok⟩
  | rg d p r => cases e; exact ⟨F0, H0, F, ρ, β, _, _, rw', h, ok⟩
  | rgf d p r => cases e; exact ⟨F0, H0, F, ρ, β, _, _, rw', h, ok⟩
noncomputable def mifW (c : Ro -> Bx -> Option Bool) (x y : MW) : MW := fun ρ β => match c ρ β with | some true => x ρ β | some false => y ρ β | none => none
theorem psw_if {ca : Ro -> Bx -> Option Bool} {x y : List Stmt} {mx my : MW} (hc : PCw' X c ca) (hx : PSsw X x mx) (hy : PSsw X y my) : PSw X (.If c x y pos) (mifW ca mx my) := PS.imp (ps_if hc hx hy) fun D σ H hpat => by
 obtain ⟨F0, H0, F, ρ, β, o, β', rw', e, ok⟩ := hpat
 unfold mifW at e
 split at e
 ·rename_i h1
  exact ⟨F0, H0, F, ρ, β, _, rw', h1, fun F1 H1 r1 x1 => iteT ⟨F0, H0, F1, ρ, β, o, β', r1, e, ok.mono x1⟩⟩
 ·rename_i h1
  exact ⟨F0, H0, F, ρ, β, _, rw', h1, fun F1 H1 r1 x1 => iteF ⟨F0, H0, F1, ρ, β, o, β', r1, e, ok.mono x1⟩⟩
 ·cases e
noncomputable def msetW (i : Nat) (x : Ro -> Bx -> Option D) : MW := fun ρ β => (x ρ β).map fun d => (.nx (ρ.set i (some (.sh d))), β)
theorem psw_set {i : Nat} {x : Str} {pos' : Pos} {ma : Ro -> Bx -> Option D} (hN : X.N.Nodup) (hi : X.N[i]? = some x) (hx : Loc X.env.scope x) (he : PDw X e ma) (hs : swapsWith e (some (.Name x pos')) pos.line X.env = pure false := by rfl) (hf : X.fn x = true \/ X.env.scope.names.lookup x = some .local := by first | exact .inl rfl | exact .inr rfl) :
  PSw X (.Assign [.Name x pos'] e pos) (msetW i ma) := PS.imp (ps_set hN hi hx he hs hf) fun D σ H hpat => by
 obtain ⟨F0, H0, F, ρ, β, o, β', rw', e, ok⟩ := hpat
 unfold msetW at e
 cases h1 : ma ρ β with
 | none => rw [h1] at e; cases e
 | some d =>
  rw [h1] at e; cases e
  refine ⟨F0, H0, F, ρ, β, d, rw', h1, fun v F1 H1 r1 x1 _ rp => ?_⟩
  obtain ⟨B, fp, rl, k⟩ := r1
  exact ok F1 H1 _ ⟨B, fp, rl.set rp, k⟩ x1
noncomputable def forW (g : Tg) (body : MW) : List D -> MW
 | [], ρ, β => some (.nx ρ, β)
 | d :: ds, ρ, β => match tgD g d ρ with
  | some ρ1 => match body ρ1 β with
   | some (.nx ρ2, β2) => forW g body ds ρ2 β2
   | some (.ct ρ2, β2) => forW g body ds ρ2 β2
   | some (.bk ρ2, β2) => some (.nx ρ2, β2)
   | o => o
  | none => none
noncomputable def mforW (mi : ML) (g : Tg) (body : MW) : MW := fun ρ β => (mi ρ).bind fun its => forW g body its ρ β
theorem psw_for {tg iter : Expr} {body : List Stmt} {mi : ML} {g : Tg} {mb : MW} (hp : PassesOwn (model X.prog X.w) X.A X.env X.xe) (hc : X.calm = true) (hi : PId X tg iter mi) (hg : PGd X tg g) (hb : PSsw X body mb)
  (hs : ∀ x, foldedSetIterable iter X.env x = pure x := by intro _; rfl) : PSw X (.For tg iter body [] pos) (mforW mi g mb) := PS.imp (ps_for hp hc hi hg hb hs) fun Dn σ H ⟨F0, H0, F, ρ, β, o, β', ⟨B, fp, rl, ok⟩, e, k⟩ => by
 unfold mforW at e
 cases h1 : mi ρ with
 | none => rw [h1] at e; cases e
 | some its =>
  rw [h1] at e
  have e : forW g mb its ρ β = some (o, β') := e
  refine ⟨F0, jn H0 B, F, ρ, its, rl, h1, fun J F1 H1 x1 I => ?_⟩
  refine ⟨fun i m σ' H' => ∃ F' ρ' β1, RlW X.K F0 H0 F' H' σ' ρ' β1 /\ Same F1 F' /\ i <= its.length /\ m = its.length - i /\ forW g mb (its.drop i) ρ' β1 = some (o, β'), ⟨_, F1, ρ, β, ⟨B, fp, rl.go x1, ok.mono x1.ff⟩, Same.refl _, Nat.zero_le _, rfl, e⟩, ?_⟩
  rintro i m σ' H' ⟨F', ρ', β1, ⟨B1, fp1, rl', ok'⟩, sf, hi', rfl, e'⟩
  by_cases hlt : i < its.length
  ·right
   have hd := getElem?_eq_getElem hlt
   refine ⟨I.go i F' H' sf rl'.fh hlt, fun σ2 H2 => ∃ F2 ρ2 β2, RlW X.K F0 H0 F2 H2 σ2 ρ2 β2 /\ Same F1 F2 /\ forW g mb (its.drop (i + 1)) ρ2 β2 = some (o, β'), ?_, fun x H2 y => ?_⟩
   ·rintro σ2 H2 ⟨F2, ρ2, β2, rl2, sf2, e2⟩
    exact ⟨its.length - (i + 1), by omega, F2, ρ2, β2, rl2, sf2, hlt, rfl, e2⟩
   ·obtain ⟨F2, x2, r2⟩ := I.yld i F' H' x H2 _ sf rl'.fh hd y
    rw [drop_get hd] at e'
    unfold forW at e'
    cases h2 : tgD g its[i] ρ' with
    | none => simp only [h2] at e'; cases e'
    | some ρ1 =>
     simp only [h2] at e'
     refine ⟨F0, jn H0 B1, F2, ρ', _, ρ1, rl'.go x2, r2, h2, fun F3 H3 σ3 rl3 x3 => ?_⟩
     have s3 : Same F1 F3 := (sf.trans x2.ff).trans x3.ff
     cases h3 : mb ρ1 β1 with
     | none => simp only [h3] at e'; cases e'
     | some ob =>
      obtain ⟨o1, β2⟩ := ob
      simp only [h3] at e'
      refine ⟨F0, H0, F3, ρ1, β1, o1, β2, ⟨B1, fp1, rl3, ok'.mono (x2.ff.trans x3.ff)⟩, h3, ?_⟩
      cases o1 with
      | nx ρ2 => exact fun F5 H5 σ5 rl5 s5 => ⟨F5, ρ2, β2, rl5, s3.trans s5, e'⟩
      | ct ρ2 => exact fun F5 H5 σ5 rl5 s5 => ⟨F5, ρ2, β2, rl5, s3.trans s5, e'⟩
      | bk ρ2 =>
       cases e'
       exact fun F5 H5 σ5 rl5 s5 => k F5 H5 σ5 rl5 ((x1.ff.trans s3).trans s5)
      | rt d => cases e'; exact k.mono (x1.ff.trans s3)
      | rf d => cases e'; exact k.mono (x1.ff.trans s3)
      | rp d ds => cases e'; exact k.mono (x1.ff.trans s3)
      | rg d p r => cases e'; exact k.mono (x1.ff.trans s3)
      | rgf d p r => cases e'; exact k.mono (x1.ff.trans s3)
  ·left
   have hieq : i = its.length := by omega
   subst hieq
   rw [drop_length] at e'
   have e' : some (Out.nx ρ', β1) = some (o, β') := e'
   cases e'
   exact ⟨I.stop F' H' sf rl'.fh, k F' H' σ' ⟨B1, fp1, rl', ok'⟩ (x1.ff.trans sf)⟩
noncomputable def flD : Fl -> D
 | .v d => d
 | .l ds => .lst ds
noncomputable def cellD : Cell -> D
 | .ins c ns fs => .obj c ns (fs.map flD)
 | .row fs => .lst (fs.map flD)
 | .tb P _ _ _ => .ptr P
noncomputable def thawD (β : Bx) : D -> D
 | .ptr p => match β.lookup p with | some c => cellD c | none => .ptr p
 | d => d
noncomputable def thawS (β : Bx) : Option S -> Option S
 | some (.sh (.ptr p)) => match β.lookup p with | some c => some (.sh (cellD c)) | none => some (.sh (.ptr p))
 | some (.sh (.tup ds)) => some (.sh (.tup (ds.map (thawD β))))
 | x => x
noncomputable def thaw (ρ : Ro) (β : Bx) : Ro := ρ.map (thawS β)
noncomputable def lookE (m : ME) : Ro -> Bx -> Option D := fun ρ β => (m (thaw ρ β)).bind fun d => if isSc d = true then some d else none
end
section
variable {K : W.Frag} {F0 H0 F H B : Hp} {σ : St} {ρ : Ro} {β : Bx} {fp : List Addr}
theorem FlR.rep {G : Hp} {xs : List V} {fs : List Fl} (hF : Same F G) (hB : Same B G) (h : FlR K F B fp xs fs) : Reps K G xs (fs.map flD) := by
 induction h with
 | nil => exact .nil
 | v r _ ih => exact .cons (r.mono hF) ih
 | l b r _ ih => exact .cons (.lst (SqL.of (hB _ _ b)) (r.mono hF)) ih
theorem CellR.rep {G : Hp} {p : Addr} {c : Cell} (hF : Same F G) (hB : Same B G) (h : CellR K F B fp p c) : Rep K G (.ref p) (cellD c) := by
 cases h with
 | ins a l b d r => exact .obj a l (hB _ _ b) (hB _ _ d) (r.rep hF hB)
 | row b r => exact .lst (SqL.of (hB _ _ b)) (r.rep hF hB)
 | tb _ _ _ _ => exact .ptr _
theorem BxR.at' {p : Addr} {c : Cell} : ∀ {fp : List Addr} {β : Bx}, BxR K F B fp β -> β.lookup p = some c -> ∃ fq, CellR K F B fq p c
 | _, _, .nil, e => by cases e
 | _, _, .cons (p := q) h r, e => by
  rw [lookup_cons] at e
  split at e
  ·rename_i z
   have z := beq_iff_eq.mp z
   subst z
   cases e
   exact ⟨_, h⟩
  ·exact r.at' e
theorem Rep.thawD {G : Hp} {v : V} {d : D} (hF : Same F G) (hB : Same B G) (hb : BxR K F B fp β) (h : Rep K F v d) : Rep K G v (L2.thawD β d) := by
 cases d with
 | ptr p =>
  cases h
  cases hc : β.lookup p with
  | none => simp only [L2.thawD, hc]; exact .ptr p
  | some c => obtain ⟨fq, hq⟩ := hb.at' hc; simp only [L2.thawD, hc]; exact hq.rep hF hB
 | _ => exact h.mono hF
theorem Reps.thawD {G : Hp} (hF : Same F G) (hB : Same B G) (hb : BxR K F B fp β) : ∀ {xs : List V} {ds : List D}, Reps K F xs ds -> Reps K G xs (ds.map (L2.thawD β))
 | _, _, .nil => .nil
 | _, _, .cons h r => .cons (h.thawD hF hB hb) (Reps.thawD hF hB hb r)
theorem RlW.frozen (rl : Rl K F0 (jn H0 B) F H σ ρ) (ok : BxOk K F0 H0 F B fp β) : Rl K (jn F0 B) (jn H0 B) (jn F B) H σ (thaw ρ β) /\ Same F (jn F B) := by
 have bh : Same B H := fun a o e => rl.ext.hh a o (jn_some e)
 have fn : ∀ a, B a ≠ none -> F a = none := fun a h => by
  cases q : F a with
  | none => rfl
  | some o =>
   have := rl.ext.new a (ok.out a h).2 (by rw [q]; simp)
   exact absurd (jn_free this).1 h
 have fb : Same F (jn F B) := fun a o e => by
  cases q : B a with
  | none => rw [jn_none q]; exact e
  | some u => rw [fn a (by rw [q]; simp)] at e; cases e
 have bj : Same B (jn F B) := fun a o e => jn_some e
 have back : ∀ (i : Nat) x, (thaw ρ β)[i]? = some x -> ∃ y, ρ[i]? = some y /\ x = thawS β y := fun i x e => by
  unfold thaw at e
  rw [getElem?_map] at e
  cases q : ρ[i]? with
  | none => rw [q] at e; cases e
  | some y => rw [q] at e; cases e; exact ⟨y, rfl, rfl⟩
 have tO : ∀ {y : Option S} {ds : List D}, some (.own ds) = thawS β y -> y = some (.own ds) := fun {y ds} e => by
  unfold thawS at e
  split at e
  ·split at e <;> cases e
  ·cases e
  ·exact e.symm
 have tB : ∀ {y : Option S} {p : Addr} {ds : List D}, some (.ob p ds) = thawS β y -> y = some (.ob p ds) := fun {y p ds} e => by
  unfold thawS at e
  split at e
  ·split at e <;> cases e
  ·cases e
  ·exact e.symm
 have ownB : ∀ (i : Nat) ds, (thaw ρ β)[i]? = some (some (.own ds)) -> ρ[i]? = some (some (.own ds)) := fun i ds e => by
  obtain ⟨y, e1, e2⟩ := back i _ e
  rw [e1, tO e2]
 have obB : ∀ (i : Nat) p ds, (thaw ρ β)[i]? = some (some (.ob p ds)) -> ρ[i]? = some (some (.ob p ds)) := fun i p ds e => by
  obtain ⟨y, e1, e2⟩ := back i _ e
  rw [e1, tB e2]
 have jf : ∀ p, F p = none -> jn H0 B p = none -> jn F B p = none := fun p h h2 => by rw [jn_none (jn_free h2).1]; exact h
 refine ⟨⟨⟨fun a o e => ?_, rl.ext.hh, fun a o e => ?_, fun b e n => ?_, fun b o u e => ?_⟩, by unfold thaw; rw [length_map]; exact rl.len, fun i d e => ?_, fun i ds e => ?_, fun i j p ds es hij e1 e2 e3 e4 => rl.inj i j p ds es hij (ownB i ds e1) (ownB j es e2) e3 e4, fun i p ds e => ?_, fun i j p ds es e1 e2 e3 => rl.obn i j p ds es (obB i p ds e1) (ownB j es e2) e3, fun i j p q ds es e1 e2 => rl.ob1 i j p q ds es (obB i p ds e1) (obB j q es e2)⟩, fb⟩
 ·cases q : B a with
  | none => rw [jn_none q] at e; rw [jn_none q]; exact rl.ext.ff a o e
  | some u => rw [jn_some q] at e; rw [jn_some q]; exact e
 ·cases q : B a with
  | none => rw [jn_none q] at e; exact rl.ext.fh a o e
  | some u => rw [jn_some q] at e; cases e; exact bh a _ q
 ·obtain ⟨e1, e2⟩ := jn_free e
  rw [jn_none e1] at n
  exact rl.ext.new b e2 n
 ·cases q : B b with
  | none => rw [jn_none q] at e ⊢; exact rl.ext.nf b o u e
  | some w => rw [jn_some q] at e ⊢; exact e
 ·obtain ⟨y, e1, e2⟩ := back i _ e
  unfold thawS at e2
  split at e2
  ·rename_i p
   obtain ⟨v, a1, a2⟩ := rl.sh i _ e1
   cases a2
   split at e2
   ·rename_i c hc
    cases e2
    obtain ⟨fq, hq⟩ := ok.bx.at' hc
    exact ⟨_, a1, hq.rep fb bj⟩
   ·cases e2
    exact ⟨_, a1, .ptr p⟩
  ·obtain ⟨v, a1, a2⟩ := rl.sh i _ e1
   cases e2
   cases a2 with
   | tup s r => exact ⟨_, a1, .tup (fb.seqT s) (r.thawD fb bj ok.bx)⟩
  ·subst e2
   obtain ⟨v, a1, a2⟩ := rl.sh i d e1
   exact ⟨v, a1, a2.mono fb⟩
 ·obtain ⟨p, xs, a1, a2, a3, a4, a5⟩ := rl.own i ds (ownB i ds e)
  exact ⟨p, xs, a1, jf p a2 a5, a3, a4.mono fb, a5⟩
 ·obtain ⟨a1, a2, a3, xs, a4, a5⟩ := rl.ob i p ds (obB i p ds e)
  exact ⟨a1, jf p a2 a3, a3, xs, a4, a5.mono fb⟩
theorem RlW.melt {F2 H2 : Hp} (rl : Rl K F0 (jn H0 B) F H σ ρ) (ok : BxOk K F0 H0 F B fp β) (x : Ext (jn F B) H F2 H2) (fb : Same F (jn F B)) : RlW K F0 H0 F H2 σ ρ β :=
 ⟨B, fp, rl.go ⟨Same.refl _, x.hh, rl.fh.trans x.hh, fun b e n => absurd e n, fun _ _ _ z => z⟩, ok⟩
end
section
variable {X : Cx} {a b c e : Expr} {pos : Pos}
theorem pdw_look {m : ME} (h : PD X e m) : PDw X e (lookE m) := PE.imp h fun σ H Q ⟨F0, H0, F, ρ, β, d, ⟨B, fp, rl, ok⟩, e, q⟩ => by
 unfold lookE at e
 cases h1 : m (thaw ρ β) with
 | none => rw [h1] at e; cases e
 | some d' =>
  rw [h1, Option.bind_some] at e
  split at e
  ·rename_i hs
   cases e
   obtain ⟨r1, fb⟩ := RlW.frozen rl ok
   exact ⟨_, _, _, _, _, r1, h1, fun v F' H' x r => q v F H' (RlW.melt rl ok x fb) (Same.refl _) x.hh (sc_rep hs r)⟩
  ·cases e
end
end
section
noncomputable def cut (H B : Hp) : Hp := fun a => match B a with | some _ => none | none => H a
theorem cut_out {H B : Hp} {a : Addr} (h : B a = none) : cut H B a = H a := by unfold cut; rw [h]
theorem jn_cut {H B : Hp} (h : Same B H) : jn (cut H B) B = H := by
 funext a
 cases q : B a with
 | none => rw [jn_none q, cut_out q]
 | some o => rw [jn_some q, h a o q]
noncomputable abbrev MFW := List D -> Bx -> Option (Rt × Bx)
noncomputable def okTW (K : W.Frag) (F H B : Hp) (Q : VK) : Rt -> Bx -> Prop
 | .sh d, β => ∀ v F' H' B' fp', Ext F (jn (cut H B) B') F' H' -> BxOk K F (cut H B) F' B' fp' β -> Rep K F' v d -> Q v H'
 | .fr ds, β => ∀ p xs F' H' B' fp', Ext F (jn (cut H B) B') F' H' -> BxOk K F (cut H B) F' B' fp' β -> jn (cut H B) B' p = none -> F' p = none -> H' p = some (.lst xs) -> Reps K F' xs ds -> Q (.ref p) H'
 | .pr _ _, _ => False
def spW (K : W.Frag) (n : Nat) (m : MFW) : Sp := fun vs H Q _ => vs.length = n /\ ∃ F B fp ds β r β', Same F H /\ Same B H /\ BxOk K F (cut H B) F B fp β /\ Reps K F vs ds /\ m ds β = some (r, β') /\ okTW K F H B Q r β'
noncomputable def runW (n : Nat) (m : MW) : MFW := fun ds β => match m (startS n ds) β with
 | some (.nx _, β') => some (.sh .non, β'.drop (β'.length - β.length))
 | some (.rt d, β') => some (.sh d, β'.drop (β'.length - β.length))
 | some (.rf es, β') => some (.fr es, β'.drop (β'.length - β.length))
 | _ => none
theorem BxR.drop {K : W.Frag} {F B : Hp} : ∀ {fp : List Addr} {β : Bx} (k : Nat), BxR K F B fp β -> ∃ fq, BxR K F B fq (β.drop k) /\ fq.Sublist fp
 | _, _, 0, h => ⟨_, h, List.Sublist.refl _⟩
 | _, _, k + 1, .nil => ⟨_, .nil, List.Sublist.refl _⟩
 | _, _, k + 1, .cons c r => by
  obtain ⟨fq, h, s⟩ := BxR.drop k r
  exact ⟨fq, h, s.trans (sublist_append_right _ _)⟩
theorem BxOk.drop {K : W.Frag} {F0 H0 F B : Hp} {fp : List Addr} {β : Bx} (h : BxOk K F0 H0 F B fp β) (k : Nat) : ∃ fq, BxOk K F0 H0 F B fq (β.drop k) := by
 obtain ⟨fq, r, s⟩ := h.bx.drop k
 exact ⟨fq, h.out, r, h.nd.sublist s, h.plain⟩
theorem Fun.okW {P : Program} {w : World} {K : W.Frag} {mg : Str -> Option Value} {base : Heap} {x qual : Str} {st : Stmt} {f : Addr} {fd : FuncData} {N ps : List Str} {k : Nat} {m : MW} (Fn : Fun K x qual st f fd) (Sc : FnScope N ps (defScope st))
  (hbody : ∀ (cdv : Value) (A : Around) (outer : List Env) (s : Shared) (H : Hp) (E : XK), Room k (A.deeper (envOfC qual (defScope st) s.heap.objs.size f cdv)) -> PSsw (cxOf CX0 P w K mg base N qual (defScope st) f cdv A outer s H E).nox (defBody st) m) :
  FnOk P w K mg base CX0 (k + 1) f fd ps (spW K ps.length (runW N.length m)) := by
 refine Fn.ok Sc (fun vs H Q E h => h.1) fun cdv A outer s H vs Q E hr h => ?_
 obtain ⟨hl, F, B, fp, ds, β, r, β', sf, sb, bo, rs, e, ok⟩ := h
 unfold runW at e
 refine ⟨_, hbody cdv A outer s H E hr, F, cut H B, F, startS N.length ds, β, ?_⟩
 have start : RlW K F (cut H B) F H (start N vs) (startS N.length ds) β := ⟨B, fp, by rw [jn_cut sb]; exact rl_start sf rs, bo⟩
 split at e
 ·rename_i ρ β1 h1
  cases e
  refine ⟨_, _, start, h1, fun F' H' σ' rl _ => ?_⟩
  obtain ⟨B', fp', rl', k'⟩ := rl
  obtain ⟨fq, k2⟩ := k'.drop (β1.length - β.length)
  exact ok .non F' H' B' fq rl'.ext k2 .non
 ·rename_i d β1 h1
  cases e
  refine ⟨_, _, start, h1, fun v F' H' B' fp' x k' rp => ?_⟩
  obtain ⟨fq, k2⟩ := k'.drop (β1.length - β.length)
  exact ok v F' H' B' fq x k2 rp
 ·rename_i es β1 h1
  cases e
  refine ⟨_, _, start, h1, fun p xs F' H' B' fp' x k' a1 a2 a3 a4 => ?_⟩
  obtain ⟨fq, k2⟩ := k'.drop (β1.length - β.length)
  exact ok p xs F' H' B' fq x k2 a1 a2 a3 a4
 ·cases e
section
variable {K : W.Frag} {F0 H0 F H B : Hp} {σ : St} {ρ : Ro} {β : Bx} {fp : List Addr}
end
section
variable {X : Cx} {a b c e o : Expr} {pos : Pos} {st : Stmt} {rest : List Stmt} {E : XK} {es : List Expr} {mf : MFW} {m : ML}
end
end
section
section
variable {X : Cx} {a b c e o : Expr} {pos apos : Pos} {E : XK} {es : List Expr} {m : ML} {mo : ME}
end
noncomputable def updB (p : Addr) (c' : Cell) : Bx -> Bx
 | [] => []
 | (q, c) :: β => if q = p then (q, c') :: β else (q, c) :: updB p c' β
section
variable {K : W.Frag} {F0 H0 F H B : Hp} {σ : St} {ρ : Ro} {β : Bx} {fp : List Addr}
theorem BxR.upd {p : Addr} {c : Cell} : ∀ {fp : List Addr} {β : Bx}, BxR K F B fp β -> fp.Nodup -> β.lookup p = some c -> ∃ fq, CellR K F B fq p c /\ fq.Nodup /\ (∀ a ∈ fq, a ∈ fp) /\
  ∀ (c' : Cell) (fq' : List Addr) (B' F' : Hp), Same F F' -> CellR K F' B' fq' p c' -> fq'.Nodup -> (∀ a ∈ fp, a ∉ fq -> B' a = B a) -> (∀ a ∈ fq', a ∈ fq \/ a ∉ fp) -> ∃ fp', BxR K F' B' fp' (updB p c' β) /\ fp'.Nodup /\ ∀ a ∈ fp', a ∈ fp \/ a ∈ fq'
 | _, _, .nil, _, e => by cases e
 | _, _, .cons (fp := f0) (fq := f1) (p := q) (c := c0) (β := β) h r, nd, e => by
  obtain ⟨n0, n1, n2⟩ := List.nodup_append.mp nd
  have dj : ∀ a, a ∈ f0 -> a ∈ f1 -> False := fun a h1 h2 => n2 a h1 a h2 rfl
  rw [lookup_cons] at e
  cases z : p == q with
  | true =>
   rw [z] at e
   have z := beq_iff_eq.mp z
   subst z
   cases e
   refine ⟨f0, h, n0, fun a ha => mem_append_left _ ha, fun c' fq' B' F' sf hc nq ag fr => ?_⟩
   unfold updB
   rw [if_pos rfl]
   refine ⟨fq' ++ f1, .cons hc (r.mono sf fun a ha => ag a (mem_append_right _ ha) fun z => dj a z ha), List.nodup_append.mpr ⟨nq, n1, fun a h1 b h2 hab => ?_⟩, fun a ha => ?_⟩
   ·subst hab
    rcases fr a h1 with z | z
    ·exact dj a z h2
    ·exact z (mem_append_right _ h2)
   ·rcases List.mem_append.mp ha with z | z
    ·exact .inr z
    ·exact .inl (mem_append_right _ z)
  | false =>
   rw [z] at e
   have hne : ¬ q = p := fun y => by rw [y, beq_self_eq_true] at z; cases z
   obtain ⟨fq, h1, nq0, hin, hup⟩ := r.upd n1 e
   refine ⟨fq, h1, nq0, fun a ha => mem_append_right _ (hin a ha), fun c' fq' B' F' sf hc nq ag fr => ?_⟩
   obtain ⟨fp', r', nd', hm⟩ := hup c' fq' B' F' sf hc nq (fun a ha hn => ag a (mem_append_right _ ha) hn) fun a ha => (fr a ha).imp id fun z y => z (mem_append_right _ y)
   unfold updB
   rw [if_neg hne]
   refine ⟨f0 ++ fp', .cons (h.mono sf fun a ha => ag a (mem_append_left _ ha) fun y => dj a ha (hin a y)) r', List.nodup_append.mpr ⟨n0, nd', fun a h1 b h2 hab => ?_⟩, fun a ha => ?_⟩
   ·subst hab
    rcases hm a h2 with z | z
    ·exact dj a h1 z
    ·rcases fr a z with y | y
     ·exact dj a h1 (hin a y)
     ·exact y (mem_append_left _ h1)
   ·rcases List.mem_append.mp ha with z | z
    ·exact .inl (mem_append_left _ z)
    ·exact (hm a z).imp (mem_append_right _) id
theorem Rl.putB {a : Addr} {o : HO} (rl : Rl K F0 (jn H0 B) F H σ ρ) (out : ∀ b, B b ≠ none -> H0 b = none /\ F0 b = none) (ha : B a ≠ none \/ H a = none) : Rl K F0 (jn H0 (upd B a o)) F (upd H a o) σ ρ /\ F a = none /\ H0 a = none /\ F0 a = none := by
 have fa : F a = none /\ H0 a = none /\ F0 a = none := by
  rcases ha with h | h
  ·refine ⟨?_, out a h⟩
   cases q : F a with
   | none => rfl
   | some u => exact absurd (jn_free (rl.ext.new a (out a h).2 (by rw [q]; simp))).1 h
  ·have f : F a = none := rl.fh.free h
   exact ⟨f, (jn_free (rl.ext.hh.free h)).2, rl.ext.ff.free f⟩
 have jo : ∀ b, b ≠ a -> jn H0 (upd B a o) b = jn H0 B b := fun b hb => by unfold jn; rw [upd_ne hb]
 have ne : ∀ p xs, jn H0 B p = none -> H p = some (.lst xs) -> p ≠ a := fun p xs e1 e2 e3 => by
  subst e3
  rcases ha with h | h
  ·exact h (jn_free e1).1
  ·rw [h] at e2; cases e2
 refine ⟨⟨⟨rl.ext.ff, fun b u e => ?_, rl.ext.fh.put fa.1, fun b e n => ?_, rl.ext.nf⟩, rl.len, rl.sh, fun i ds e => ?_, rl.inj, fun i p ds e => ?_, rl.obn, rl.ob1⟩, fa⟩
 ·by_cases hb : b = a
  ·subst hb
   rw [jn_some upd_same] at e
   rw [upd_same]; exact e
  ·rw [jo b hb] at e
   rw [upd_ne hb]
   exact rl.ext.hh b u e
 ·have hb : b ≠ a := fun z => by subst z; exact n fa.1
  rw [jo b hb]
  exact rl.ext.new b e n
 ·obtain ⟨p, xs, a1, a2, a3, a4, a5⟩ := rl.own i ds e
  have hp := ne p xs a5 a3
  exact ⟨p, xs, a1, a2, by rw [upd_ne hp]; exact a3, a4, by rw [jo p hp]; exact a5⟩
 ·obtain ⟨a1, a2, a3, xs, a4, a5⟩ := rl.ob i p ds e
  have hp := ne p xs a3 a4
  exact ⟨a1, a2, by rw [jo p hp]; exact a3, xs, by rw [upd_ne hp]; exact a4, a5⟩
end
end
section
section
variable {K : W.Frag} {F0 H0 F H B : Hp} {σ : St} {ρ : Ro} {β : Bx} {fp : List Addr}
theorem FlR.length {xs : List V} {fs : List Fl} (h : FlR K F B fp xs fs) : xs.length = fs.length := by
 induction h with
 | nil => rfl
 | v _ _ ih => simp [ih]
 | l _ _ _ ih => simp [ih]
theorem upd_out {a : Addr} {o : HO} (out : ∀ b, B b ≠ none -> H0 b = none /\ F0 b = none) (h : H0 a = none /\ F0 a = none) : ∀ b, upd B a o b ≠ none -> H0 b = none /\ F0 b = none := fun b hb => by
 by_cases z : b = a
 ·subst z; exact h
 ·rw [upd_ne z] at hb; exact out b hb
theorem upd_plain {a : Addr} {o : HO} (pl : ∀ b o u, B b ≠ some (.frz o u)) (h : ∀ p u, o ≠ .frz p u) : ∀ b p u, upd B a o b ≠ some (.frz p u) := fun b p u hb => by
 by_cases z : b = a
 ·subst z; rw [upd_same] at hb; exact h p u (Option.some.inj hb)
 ·rw [upd_ne z] at hb; exact pl b p u hb
end
section
variable {X : Cx} {value o : Expr} {pos pos' : Pos} {f : Str}
end
end
section
section
variable {X : Cx} {value e o : Expr} {pos pos' apos cpos : Pos} {f : Str} {st : Stmt} {rest : List Stmt}
end
end
section
theorem Rl.forget {K : W.Frag} {F0 H0 F H : Hp} {σ : St} {ρ : Ro} (r : Rl K F0 H0 F H σ ρ) (i : Nat) : Rl K F0 H0 F H σ (ρ.set i none) := by
 have back : ∀ (j : Nat) x, (ρ.set i none)[j]? = some (some x) -> ρ[j]? = some (some x) := fun j x e => by
  by_cases hj : i = j
  ·subst hj
   rcases Nat.lt_or_ge i ρ.length with z | z
   ·rw [getElem?_set_self z] at e; cases e
   ·rw [getElem?_eq_none (by simpa using z)] at e; cases e
  ·rw [getElem?_set_ne hj] at e; exact e
 exact ⟨r.ext, by simp [r.len], fun j d e => r.sh j d (back j _ e), fun j ds e => r.own j ds (back j _ e), fun j k p ds es hjk e1 e2 => r.inj j k p ds es hjk (back j _ e1) (back k _ e2), fun j p ds e => r.ob j p ds (back j _ e), fun j k p ds es e1 e2 => r.obn j k p ds es (back j _ e1) (back k _ e2), fun j k p q ds es e1 e2 => r.ob1 j k p q ds es (back j _ e1) (back k _ e2)⟩
open Classical in
noncomputable def anyN {α : Type} (β : Bx) (f : Addr -> Option α) : Option α := if h : ∃ r, ∀ x, x ∉ β.map Prod.fst -> f x = some r then some (Classical.choose h) else none
theorem anyN_some {α : Type} {β : Bx} {f : Addr -> Option α} {r : α} (h : anyN β f = some r) : ∀ x, x ∉ β.map Prod.fst -> f x = some r := by
 unfold anyN at h
 split at h
 ·rename_i hx
  cases h
  exact Classical.choose_spec hx
 ·cases h
theorem fresh_addr (l : List Addr) : ∃ x, x ∉ l := by
 have aux : ∀ l : List Addr, ∃ b, ∀ a ∈ l, a < b := by
  intro l
  induction l with
  | nil => exact ⟨0, fun a h => by cases h⟩
  | cons a l ih =>
   obtain ⟨b, hb⟩ := ih
   refine ⟨max b (a + 1), fun c hc => ?_⟩
   rcases List.mem_cons.mp hc with rfl | hc
   ·have := Nat.le_max_right b (c + 1); exact Nat.lt_of_lt_of_le (Nat.lt_succ_self c) this
   ·exact Nat.lt_of_lt_of_le (hb c hc) (Nat.le_max_left _ _)
 obtain ⟨b, hb⟩ := aux l
 exact ⟨b, fun h => Nat.lt_irrefl _ (hb b h)⟩
theorem anyN_of {α : Type} {β : Bx} {f : Addr -> Option α} {r : α} (h : ∀ x, x ∉ β.map Prod.fst -> f x = some r) : anyN β f = some r := by
 unfold anyN
 have hx : ∃ r, ∀ x, x ∉ β.map Prod.fst -> f x = some r := ⟨r, h⟩
 rw [dif_pos hx]
 obtain ⟨x, hn⟩ := fresh_addr (β.map Prod.fst)
 have := Classical.choose_spec hx x hn
 rw [h x hn] at this
 exact this.symm
noncomputable def letGo (i : Nat) (k : Nat) : Out × Bx -> Out × Bx
 | (.nx ρ, β) => (.nx (ρ.set i none), β.drop (β.length - k))
 | (.bk ρ, β) => (.bk (ρ.set i none), β.drop (β.length - k))
 | (.ct ρ, β) => (.ct (ρ.set i none), β.drop (β.length - k))
 | (o, β) => (o, β.drop (β.length - k))
theorem okW.letGo {K : W.Frag} {F0 H0 Fb : Hp} {Dn : Ends} {i k : Nat} : ∀ {o : Out} {β : Bx}, okW K F0 H0 Fb Dn (letGo i k (o, β)).1 (letGo i k (o, β)).2 -> okW K F0 H0 Fb Dn o β
 | .nx ρ, β, h => fun F H σ ⟨B, fp, rl, ok⟩ s => let ⟨fq, ok'⟩ := ok.drop (β.length - k); h F H σ ⟨B, fq, rl.forget i, ok'⟩ s
 | .bk ρ, β, h => fun F H σ ⟨B, fp, rl, ok⟩ s => let ⟨fq, ok'⟩ := ok.drop (β.length - k); h F H σ ⟨B, fq, rl.forget i, ok'⟩ s
 | .ct ρ, β, h => fun F H σ ⟨B, fp, rl, ok⟩ s => let ⟨fq, ok'⟩ := ok.drop (β.length - k); h F H σ ⟨B, fq, rl.forget i, ok'⟩ s
 | .rt d, β, h => fun v F H B fp x ok r => let ⟨fq, ok'⟩ := ok.drop (β.length - k); h v F H B fq x ok' r
 | .rf ds, β, h => fun p xs F H B fp x ok a b c r => let ⟨fq, ok'⟩ := ok.drop (β.length - k); h p xs F H B fq x ok' a b c r
 | .rg d p r, β, h => fun v F H xs B fp x ok a j b c e => let ⟨fq, ok'⟩ := ok.drop (β.length - k); h v F H xs B fq x ok' a j b c e
 | .rp _ _, _, h => h
 | .rgf _ _ _, _, h => h
section
variable {X : Cx} {e : Expr} {es : List Expr} {st : Stmt} {rest : List Stmt} {E : XK} {mf : MFW} {m : ML}
theorem BxR.keys {K : W.Frag} {F B : Hp} : ∀ {fp : List Addr} {β : Bx}, BxR K F B fp β -> ∀ p ∈ β.map Prod.fst, B p ≠ none
 | _, _, .nil, p, h => by cases h
 | _, _, .cons (p := q) c r, p, h => by
  rw [map_cons] at h
  rcases List.mem_cons.mp h with z | z
  ·subst z
   cases c with
   | ins _ _ b _ _ => rw [b]; simp
   | row b _ => rw [b]; simp
   | tb _ b _ _ => rw [b]; simp
  ·exact r.keys p z
end
noncomputable def plainW (mf : MFW) : MF := fun ds => match mf ds [] with | some (.sh d, _) => some (.sh d) | some (.fr es, _) => some (.fr es) | _ => none
theorem Ext.unjn {F H B F' H' : Hp} (d : ∀ a, B a ≠ none -> H a = none) (x : Ext F (jn H B) F' H') : Ext F H F' H' :=
 ⟨x.ff, fun a o e => x.hh a o (by
  cases q : B a with
  | none => rw [jn_none q]; exact e
  | some u => rw [d a (by rw [q]; simp)] at e; cases e), x.fh, fun b e n => (jn_free (x.new b e n)).2, x.nf⟩
theorem FnOk.plainW {P : Program} {w : World} {K : W.Frag} {mg : Str -> Option Value} {base : Heap} {CX : CXT} {k : Nat} {f : Addr} {fd : FuncData} {ps : List Str} {n : Nat} {mf : MFW} (G : FnOk P w K mg base CX k f fd ps (spW K n mf)) : FnOk P w K mg base CX k f fd ps (spR K n (plainW mf)) := G.imp fun vs H Q E hpat => by
 obtain ⟨hl, F, ds, r, sf, rs, e, ok⟩ := hpat
 have hc : cut H (fun _ => none) = H := funext fun a => cut_out rfl
 have b0 : BxOk K F (cut H fun _ => none) F (fun _ => none) [] [] := ⟨fun a h => absurd rfl h, .nil, nodup_nil, fun a o u h => by cases h⟩
 refine ⟨hl, F, fun _ => none, [], ds, [], ?_⟩
 unfold L2.plainW at e
 split at e
 ·rename_i d β h1
  cases e
  refine ⟨_, _, sf, fun a o h => (by cases h), b0, rs, h1, fun v F' H' B' fp' x k' r => ?_⟩
  rw [hc] at x k'
  exact ok v F' H' (x.unjn fun a h => (k'.out a h).1) r
 ·rename_i es β h1
  cases e
  refine ⟨_, _, sf, fun a o h => (by cases h), b0, rs, h1, fun p xs F' H' B' fp' x k' a1 a2 a3 a4 => ?_⟩
  rw [hc] at x k' a1
  exact ok p xs F' H' (x.unjn fun a h => (k'.out a h).1) (jn_free a1).2 a2 a3 a4
 ·cases e
end
section
section
variable {X : Cx} {a b c e o : Expr} {pos : Pos} {st : Stmt} {rest : List Stmt} {E : XK} {es : List Expr} {mf : MFW}
end
end
section
section
variable {X : Cx} {e o : Expr} {E : XK}
end
end
section
section
variable {X : Cx} {e : Expr} {pos : Pos}
end
end
section
section
variable {K : W.Frag} {F0 H0 F H B : Hp} {σ : St} {ρ : Ro} {β : Bx} {fp : List Addr}
end
noncomputable abbrev MGW := Addr -> List D -> List D -> Bx -> Option (D × List D × Bx)
section
variable {X : Cx} {e : Expr} {pos : Pos} {st : Stmt} {es : List Expr} {E : XK} {mf : MGW} {m : ML}
end
end
section
end
section
def qfnD (K : W.Frag) (nm ql : Str) (st : Stmt) (x : Addr) : Prop := ∃ (oc : Value) (o1 : Option Addr) (kV dc pm : Value) (o2 : Option Addr) (cd ct : Value) (sl : Array (Option Value)), K.lookup x = some ⟨oc, o1, .func (W.fnOf nm ql (defArgs st) (defBody st) (defScope st) .none kV dc pm o2 cd ct), sl⟩ /\ W.codeIn K cd ql = true /\ W.keepIn K (.ref x) = true
def QDn (K : W.Frag) (nm : Str) (st : Stmt) : Prop := ∃ x : Addr, W.nsIn K mainGlobals nm = some (some (.ref x)) /\ qfnD K nm nm st x
def QMn (K : W.Frag) (C : Addr) (nm ql : Str) (st : Stmt) : Prop := ∃ x : Addr, W.findIn K (.ref C) nm = some (some (.ref x)) /\ W.isFn K (.ref x) = true /\ qfnD K nm ql st x
theorem QDn.of {K : W.Frag} {nm : Str} {st : Stmt} {x : Addr} {oc : Value} {o1 : Option Addr} {kV dc pm : Value} {o2 : Option Addr} {cd ct : Value} {sl : Array (Option Value)} (e : W.nsIn K mainGlobals nm = some (some (.ref x))) (l : K.lookup x = some ⟨oc, o1, .func (W.fnOf nm nm (defArgs st) (defBody st) (defScope st) .none kV dc pm o2 cd ct), sl⟩) (c : W.codeIn K cd nm = true) (k : W.keepIn K (.ref x) = true) : QDn K nm st := ⟨x, e, oc, o1, kV, dc, pm, o2, cd, ct, sl, l, c, k⟩
theorem QMn.of {K : W.Frag} {C : Addr} {nm ql : Str} {st : Stmt} {x : Addr} {oc : Value} {o1 : Option Addr} {kV dc pm : Value} {o2 : Option Addr} {cd ct : Value} {sl : Array (Option Value)} (e : W.findIn K (.ref C) nm = some (some (.ref x))) (i : W.isFn K (.ref x) = true) (l : K.lookup x = some ⟨oc, o1, .func (W.fnOf nm ql (defArgs st) (defBody st) (defScope st) .none kV dc pm o2 cd ct), sl⟩) (c : W.codeIn K cd ql = true) (k : W.keepIn K (.ref x) = true) : QMn K C nm ql st := ⟨x, e, i, oc, o1, kV, dc, pm, o2, cd, ct, sl, l, c, k⟩
abbrev QBdD (nm ql : Str) (st : Stmt) (ps : List Str) (us : List Value) : Prop := ∀ (kV doc pm : Value) (an : Option Addr) (cdv ct : Value), bindArgs (W.fnOf nm ql (defArgs st) (defBody st) (defScope st) .none kV doc pm an cdv ct) ⟨us, []⟩ = pure (ps.zip us)
section
variable {P : Program} {w : World} {K : W.Frag} {mg : Str -> Option Value} {base h : Heap} {nm ql cn : Str} {st : Stmt} {ps : List Str} {sp : Sp} {n : Nat} {C : Addr}
def QDf (K : W.Frag) (mg : Str -> Option Value) (nm : Str) (st : Stmt) (ps : List Str) : Prop := ∃ f fd, Fun K nm nm st f fd /\ Binds K fd ps [] /\ mg nm = some (.ref f)
def QHd (P : Program) (w : World) (K : W.Frag) (mg : Str -> Option Value) (base : Heap) (n : Nat) (nm : Str) (ps : List Str) (sp : Sp) : Prop := ∃ f fd, FnOk P w K mg base CX0 n f fd ps sp /\ Binds K fd ps [] /\ W.keepIn K (.ref f) = true /\ mg nm = some (.ref f)
theorem qfnD.mk {x : Addr} (D : qfnD K nm ql st x) (hb : ∀ us : List Value, us.length = ps.length -> QBdD nm ql st ps us) : ∃ fd, Fun K nm ql st x fd /\ Binds K fd ps [] := by
 obtain ⟨oc, o1, kV, dc, pm, o2, cd, ct, sl, l, c, k⟩ := D
 exact ⟨_, fun_mk l c k, (fun_mk l c k).binds fun _ _ _ _ _ _ us hl => hb us hl _ _ _ _ _ _⟩
theorem QDn.df (D : QDn K nm st) (X : K.In h) (G : h.Ns mainGlobals mg) (hb : ∀ us : List Value, us.length = ps.length -> QBdD nm nm st ps us) : QDf K mg nm st ps := by
 obtain ⟨x, e, D⟩ := D
 obtain ⟨fd, F, b⟩ := D.mk hb
 exact ⟨x, fd, F, b, W.mg_of X G e⟩
theorem QDf.mk (D : QDf K mg nm st ps) (h : ∀ f fd, Fun K nm nm st f fd -> FnOk P w K mg base CX0 n f fd ps sp) : QHd P w K mg base n nm ps sp := by
 obtain ⟨f, fd, F, b, a⟩ := D
 exact ⟨f, fd, h f fd F, b, F.kp, a⟩
theorem qbd1 {P : List Value -> Prop} (h : ∀ a, P [a]) : ∀ us : List Value, us.length = 1 -> P us
 | [a], _ => h a
theorem qbd2 {P : List Value -> Prop} (h : ∀ a b, P [a, b]) : ∀ us : List Value, us.length = 2 -> P us
 | [a, b], _ => h a b
theorem qbd3 {P : List Value -> Prop} (h : ∀ a b c, P [a, b, c]) : ∀ us : List Value, us.length = 3 -> P us
 | [a, b, c], _ => h a b c
theorem qbd4 {P : List Value -> Prop} (h : ∀ a b c d, P [a, b, c, d]) : ∀ us : List Value, us.length = 4 -> P us
 | [a, b, c, d], _ => h a b c d
end
section
variable {X : Cx} {n k : Nat} {nm cn : Str} {ps : List Str} {sp : Sp} {e o : Expr} {es : List Expr} {ta : TE} {t : TA} {p pos apos : Pos} {C : Addr} {pl : Sem Bool}
theorem qcl (H : QHd X.prog X.w X.K X.mg X.base n nm ps sp) (hr : Room k X.A) (ha : PA X (e :: es) t) (hn : n <= k := by decide) (hg : Gl X nm := by rfl) (hdb : (nm == ("__debug__" : Str)) = false := by decide) (he : starEach (e :: es) X.env = (false, eval e X.env) :: starEach es X.env := by rfl) (hpl : (backTo pos (starEach es X.env)).any (·.1) = false := by rfl) :
  PE X (.Call (.Name nm p) (e :: es) [] pos) (tCall sp [] E0 t) := by
 obtain ⟨f, fd, F, b, kk, a⟩ := H
 exact pe_call (F.mono hn) hr hg a kk b .nil pass0 ha hdb he hpl
end
theorem qap {X : Cx} {o e : Expr} {es : List Expr} {to : TE} {t : TA} {apos cpos : Pos} (ho : PE X o to) (ha : PA X (e :: es) t)
  (hbase : attributeBase o "append" X.env (eval o X.env) = eval o X.env := by rfl)
  (hfew : ((backTo cpos (starEach (e :: es) X.env)).all (fun x => !x.1) && (backToKw cpos (keywordEach [] X.env)).all (fun x => x.1.isSome)
   && decide ((e :: es).length + ([] : List Keyword).length + (if ([] : List Keyword).isEmpty then 0 else 1) < 30)) = true := by rfl)
  (hline : (apos.endLine == cpos.line) = true := by rfl) (hs : starEach (e :: es) X.env = (false, eval e X.env) :: starEach es X.env := by rfl) (hplain : (backTo cpos (starEach es X.env)).any (·.1) = false := by rfl) :
  PE X (.Call (.Attribute o "append" apos) (e :: es) [] cpos) (tBM X.K "list" rAppend to t) := pe_bm PySem.F.plainAttrs_list PySem.F.slot_list_append PySem.F.type_list_append mt_append ho ha hbase hfew hline hs hplain
section
variable {a b c d e f : ME} (ρ : Ro) (ds : List D)
theorem qal1 : acons a anil ρ = some ds -> ds.length = 0 + 1 := acons_len anil_len ρ ds
theorem qal2 : acons a (acons b anil) ρ = some ds -> ds.length = 0 + 1 + 1 := acons_len qal1 ρ ds
theorem qal3 : acons a (acons b (acons c anil)) ρ = some ds -> ds.length = 0 + 1 + 1 + 1 := acons_len qal2 ρ ds
theorem qal4 : acons a (acons b (acons c (acons d anil))) ρ = some ds -> ds.length = 0 + 1 + 1 + 1 + 1 := acons_len qal3 ρ ds
end
theorem qsc {N P : List Str} {sc : Scope} (a : sc.kind = .function := by rfl) (b : sc.isCoroutine = false := by rfl) (c : sc.isGenerator = false := by rfl) (d : N.Nodup := by decide +kernel) (e : N.take P.length = P := by rfl) (f : ∀ x ∈ P, sc.names.lookup x = some .local \/ sc.names.lookup x = some .cell := by decide +kernel) (g : ∀ y ∈ sc.names, y.2 ≠ .free := by decide +kernel) : FnScope N P sc := ⟨a, b, c, d, e, f, g⟩
end
section
section
variable {X : Cx} {a b c e : Expr} {pos : Pos} {st : Stmt}
@[irreducible] noncomputable def candm (x y : MBm) : MBm := fun ρ => match x ρ with | some (true, ρ1) => y ρ1 | some (false, ρ1) => some (false, ρ1) | none => none
theorem pwm1_and {ca : MBm} (h : PT X a (TCm X.K ca)) : PW X (.BoolOp .And [a] pos) (TCm X.K ca) := pw_and1 h
theorem pwm_and {ca cb : MBm} {rest : List Expr} (ha : PT X a (TCm X.K ca)) (hb : PW X (.BoolOp .And (b :: rest) pos) (TCm X.K cb)) : PW X (.BoolOp .And (a :: b :: rest) pos) (TCm X.K (candm ca cb)) := (pw_and ha hb).imp fun σ H Q hpat => by
 obtain ⟨F0, H0, F, ρ, g, ρ', rl, e, q⟩ := hpat
 unfold candm at e
 split at e
 ·rename_i ρ1 h1
  exact ⟨F0, H0, F, ρ, _, ρ1, rl, h1, fun F1 H1 rl1 s1 => iteT ⟨F0, H0, F1, ρ1, g, ρ', rl1, e, fun F2 H2 rl2 s2 => q F2 H2 rl2 (s1.trans s2)⟩⟩
 ·rename_i ρ1 h1
  cases e
  exact ⟨F0, H0, F, ρ, _, _, rl, h1, fun F1 H1 rl1 s1 => iteF (q F1 H1 rl1 s1)⟩
 ·cases e
theorem pcm_w {ca : MBm} (h : PW X a (TCm X.K ca)) : PT X a (TCm X.K ca) := h.pt
@[irreducible] noncomputable def cpu (x : MB) : MBm := fun ρ => match x ρ with | some b => some (b, ρ) | none => none
theorem pcm_pure {ca : MB} (h : PC' X a ca) : PT X a (TCm X.K (cpu ca)) := PT.imp h fun σ H Q hpat => by
 obtain ⟨F0, H0, F, ρ, g, ρ', rl, e, q⟩ := hpat
 unfold cpu at e
 split at e
 ·rename_i b h1
  cases e
  exact ⟨F0, H0, F, _, _, rl, h1, fun F1 H1 x1 => q F1 H1 (rl.go x1) x1.ff⟩
 ·cases e
def TIm (K : W.Frag) (mi : MLm) : TI := fun σ H R => ∃ F0 H0 F ρ its ρ1, Rl K F0 H0 F H σ ρ /\ mi ρ = some (its, ρ1) /\ ∀ J F' H', Rl K F0 H0 F' H' σ ρ1 -> Same F F' -> ItD K F' J its -> R J H'
@[irreducible] noncomputable def mlistm (f : List D -> Option (List D)) (m : MLm) : MLm := fun ρ => match m ρ with | some (ds, ρ1) => (match f ds with | some its => some (its, ρ1) | none => none) | none => none
theorem pim_range1 {tg a : Expr} {m : MLm} {p pos : Pos} (hg : Gl X "range") (hm : X.mg "range" = none) (ha : PAm X [a] m) (hs : starEach [a] X.env = [(false, eval a X.env)] := by rfl) : PI X tg (.Call (.Name "range" p) [a] [] pos) (TIm X.K (mlistm rng1 m)) := PI.imp (pi_range1 hg hm ha hs) fun σ H R hpat => by
 obtain ⟨F0, H0, F, ρ, its, ρ1, rl, e, q⟩ := hpat
 unfold mlistm at e
 split at e
 ·rename_i ds ρ2 h1
  split at e
  ·rename_i its' h2
   cases e
   refine ⟨F0, H0, F, ρ, ds, _, rl, h1, fun vs F1 H1 rl1 s1 r1 => ?_⟩
   unfold rng1 at h2
   split at h2
   ·rename_i j
    split at h2
    ·rename_i hk
     cases h2
     unfold okR at hk
     simp only [Bool.and_eq_true, decide_eq_true_eq] at hk
     cases r1 with
     | cons r rr =>
      cases rr
      exact ⟨j, by rw [r.i'], hk.1, hk.2, q _ F1 H1 rl1 s1 itd_range⟩
    ·cases h2
   ·cases h2
  ·cases e
 ·cases e
noncomputable def forPE (k j : Nat) (body : MS) : Nat -> List (List D) -> MS
 | _, [], ρ => some (.nx ρ)
 | n, ds :: dss, ρ => match body ((ρ.set k (some (.sh (.int n)))).set j (some (.own ds))) with
  | some (.nx ρ2) => forPE k j body (n + 1) dss ρ2
  | some (.ct ρ2) => forPE k j body (n + 1) dss ρ2
  | some (.bk ρ2) => some (.nx ρ2)
  | o => o
noncomputable def mforPE (mi : MP) (k j : Nat) (body : MS) : MS := fun ρ => (mi ρ).bind fun dss => forPE k j body 0 dss ρ
theorem psd_forPE {iter : Expr} {body : List Stmt} {mi : MP} {k j : Nat} {p0 cpos : Pos} {es : List Expr} {tk : Nat} {tp : Pos} {mb : MS} (hp : PassesOwn (model X.prog X.w) X.A X.env X.xe) (hc : X.calm = true) (hgl : Gl X "enumerate") (hmm : X.mg "enumerate" = none) (hi : PP X iter mi) (hg : PG X (.Tuple es tk tp) (gTup X.K 2 (gCons (gName k) (gCons (gName j) gNil)))) (hb : PSsd X body mb)
  (hs1 : starEach [iter] X.env = [(false, eval iter X.env)] := by rfl) (hs : ∀ v, foldedSetIterable (.Call (.Name "enumerate" p0) [iter] [] cpos) X.env v = pure v := by intro _; rfl) : PSd X (.For (.Tuple es tk tp) (.Call (.Name "enumerate" p0) [iter] [] cpos) body [] pos) (mforPE mi k j mb) := (ps_for hp hc (pi_enum hgl hmm (pa_cons hi pa_nil (by rw [hs1]; rfl)) hs1) hg hb hs).imp fun Dn σ H hpat => by
 obtain ⟨F0, H0, F, ρ, o, rl, e, ok⟩ := hpat
 unfold mforPE at e
 cases h1 : mi ρ with
 | none => rw [h1] at e; cases e
 | some dss =>
  rw [h1] at e
  have e : forPE k j mb 0 dss ρ = some o := e
  refine ⟨F0, H0, F, ρ, dss, rl, h1, fun p qs F1 H1 x1 pt => ?_⟩
  have pn := List.nodup_cons.mp pt.nd
  have h0p : H0 p = none := rl.ext.hh.free pt.hp
  have h0q : ∀ q ∈ qs, H0 q = none := fun q hq => rl.ext.hh.free (pt.new q hq).1
  have f0q : ∀ q ∈ qs, F0 q = none := fun q hq => (rl.ext.ff.trans x1.ff).free (pt.new q hq).2
  have sm : ∀ A : List Addr, (∀ b ∈ A, b = p \/ b ∈ qs) -> Same H0 (Hx H0 H1 A) := fun A hA b u e => by
   by_cases hb : b ∈ A
   ·rcases hA b hb with z | z
    ·rw [z, h0p] at e; cases e
    ·rw [h0q b z] at e; cases e
   ·rw [Hx_out hb]; exact e
  have sub : ∀ i, ∀ b ∈ p :: qs.drop i, b = p \/ b ∈ qs := fun i b hb => by
   rcases List.mem_cons.mp hb with z | z
   ·exact .inl z
   ·exact .inr (mem_of_mem_drop z)
  refine ⟨p, _, rfl, SqL.of pt.at', ?_⟩
  have rl1 := rl.go x1
  have rl0 : Rl X.K F0 (Hx H0 H1 (p :: qs.drop 0)) F1 H1 σ ρ := by
   have fr : ∀ b ∈ p :: qs.drop 0, H b = none /\ F1 b = none := fun b hb => by
    rcases sub 0 b hb with z | z
    ·rw [z]; exact ⟨pt.hp, pt.fp⟩
    ·exact pt.new b z
   have nin : ∀ b u, H b = some u -> b ∉ p :: qs.drop 0 := fun b u e hb => by rw [(fr b hb).1] at e; cases e
   refine ⟨⟨rl1.ext.ff, fun b u e => ?_, rl1.ext.fh, fun b e n => ?_, rl1.ext.nf⟩, rl1.len, rl1.sh, fun i ds h => ?_, rl1.inj, fun i w ds h => ?_, rl1.obn, rl1.ob1⟩
   ·by_cases hb : b ∈ p :: qs.drop 0
    ·rw [Hx_in hb] at e; exact e
    ·rw [Hx_out hb] at e; exact rl1.ext.hh b u e
   ·have nb : b ∉ p :: qs.drop 0 := fun hb => n (fr b hb).2
    rw [Hx_out nb]; exact rl1.ext.new b e n
   ·obtain ⟨w, xs, a1, a2, a3, a4, a5⟩ := rl.own i ds h
    obtain ⟨w', xs', b1, b2, b3, b4, b5⟩ := rl1.own i ds h
    rw [a1] at b1; cases b1
    exact ⟨w, xs', a1, b2, b3, b4, by rw [Hx_out (nin _ _ a3)]; exact b5⟩
   ·obtain ⟨a1, a2, a3, xs, a4, a5⟩ := rl.ob i w ds h
    obtain ⟨b1, b2, b3, b4⟩ := rl1.ob i w ds h
    exact ⟨b1, b2, by rw [Hx_out (nin _ _ a4)]; exact b3, b4⟩
  have hn : qs.length = dss.length := pt.rep.length
  refine ⟨fun i m σ' H' => ∃ F' ρ', Rl X.K F0 (Hx H0 H1 (p :: qs.drop i)) F' H' σ' ρ' /\ Same F1 F' /\ i <= dss.length /\ m = dss.length - i /\ forPE k j mb i (dss.drop i) ρ' = some o, ⟨_, F1, ρ, rl0, Same.refl _, Nat.zero_le _, rfl, e⟩, ?_⟩
  clear e rl0 rl1
  rintro i m σ' H' ⟨F', ρ', rl', sf, hi', rfl, e'⟩
  have hHp : H' p = some (.lst (qs.map V.ref)) := rl'.ext.hh p _ (by rw [Hx_in mem_cons_self]; exact pt.at')
  by_cases hlt : i < dss.length
  ·right
   have hd := getElem?_eq_getElem hlt
   obtain ⟨q, xs, hq, hqH, hqr⟩ := pt.rep.get hd
   have hqm : q ∈ qs := mem_of_getElem? hq
   have hdq : qs.drop i = q :: qs.drop (i + 1) := drop_get hq
   have hqH' : H' q = some (.lst xs) := rl'.ext.hh q _ (by rw [Hx_in (by rw [hdq]; simp)]; exact hqH)
   have hqF' : F' q = none := by
    cases z : F' q with
    | none => rfl
    | some u =>
     have := rl'.ext.new q (f0q q hqm) (by rw [z]; simp)
     rw [Hx_in (by rw [hdq]; simp), hqH] at this; cases this
   have hqx : (qs.map V.ref)[i]? = some (V.ref q) := by rw [getElem?_map, hq]; rfl
   refine ⟨⟨_, _, SqL.of hHp, hqx⟩, fun σ2 H2 => ∃ F2 ρ2, Rl X.K F0 (Hx H0 H1 (p :: qs.drop (i + 1))) F2 H2 σ2 ρ2 /\ Same F1 F2 /\ forPE k j mb (i + 1) (dss.drop (i + 1)) ρ2 = some o, ?_, fun x H2 y => ?_⟩
   ·rintro σ2 H2 ⟨F2, ρ2, rl2, sf2, e2⟩
    exact ⟨dss.length - (i + 1), by omega, F2, ρ2, rl2, sf2, hlt, rfl, e2⟩
   ·obtain ⟨t, u, rfl, ht, rfl, y⟩ := y
    have yx := y _ (SqL.of hHp)
    rw [hqx] at yx; cases yx
    have ndi : (q :: qs.drop (i + 1)).Nodup := by rw [<- hdq]; exact pn.2.sublist (drop_sublist _ _)
    have nod : q ∉ p :: qs.drop (i + 1) := fun z => by
     rcases List.mem_cons.mp z with z | z
     ·exact pn.1 (z ▸ hqm)
     ·exact (List.nodup_cons.mp ndi).1 z
    have qin : q ∈ p :: qs.drop i := by rw [hdq]; simp
    have hxq : Hx H0 H1 (p :: qs.drop i) q = some (.lst xs) := by rw [Hx_in qin]; exact hqH
    have sm2 : Same (Hx H0 H1 (p :: qs.drop (i + 1))) (Hx H0 H1 (p :: qs.drop i)) := fun b u e => by
     by_cases hb : b ∈ p :: qs.drop (i + 1)
     ·have hb2 : b ∈ p :: qs.drop i := by
       rw [hdq]
       rcases List.mem_cons.mp hb with z | z
       ·rw [z]; simp
       ·exact mem_cons_of_mem _ (mem_cons_of_mem _ z)
      rw [Hx_in hb] at e; rw [Hx_in hb2]; exact e
     ·rw [Hx_out hb] at e
      by_cases hb2 : b ∈ p :: qs.drop i
      ·rcases sub i b hb2 with z | z
       ·rw [z, h0p] at e; cases e
       ·rw [h0q b z] at e; cases e
      ·rw [Hx_out hb2]; exact e
    have rlk := (rl'.go (Ext.own (o := .tup [.int i, .ref q]) rl'.fh ht)).set (i := k) (d := .int i) (.int _)
    have hqt : q ≠ t := fun z => by rw [z, ht] at hqH'; cases hqH'
    have rl3 := (rlk.less sm2).setOwn (i := j) hqF' (by rw [upd_ne hqt]; exact hqH') (hqr.mono sf) (by rw [Hx_out nod]; exact h0q q hqm) (fun k es hk e1 e2 => by
     obtain ⟨w, zs, a1, a2, a3, a4, a5⟩ := rlk.own k es e1
     rw [a1] at e2; cases e2
     rw [hxq] at a5; cases a5) (fun k w es e1 z => by
     obtain ⟨a1, a2, a3, _⟩ := rlk.ob k w es e1
     rw [z, hxq] at a3; cases a3)
    rw [drop_get hd] at e'
    unfold forPE at e'
    refine ⟨t, _, rfl, SqT.of upd_same, rfl, _, _, rfl, _, _, rfl, rfl, ?_⟩
    cases h3 : mb ((ρ'.set k (some (.sh (.int i)))).set j (some (.own dss[i]))) with
    | none => simp only [h3] at e'; cases e'
    | some o1 =>
     simp only [h3] at e'
     refine ⟨F0, _, F', _, o1, rl3, h3, ?_⟩
     cases o1 with
     | nx ρ2 => exact fun F4 H4 σ4 rl4 s4 => ⟨F4, ρ2, rl4, sf.trans s4, e'⟩
     | ct ρ2 => exact fun F4 H4 σ4 rl4 s4 => ⟨F4, ρ2, rl4, sf.trans s4, e'⟩
     | bk ρ2 =>
      cases e'
      exact fun F4 H4 σ4 rl4 s4 => ok F4 H4 σ4 (rl4.less (sm _ (sub _))) ((x1.ff.trans sf).trans s4)
     | rt d => cases e'; exact okO.less (o := .rt d) (sm _ (sub _)) ok
     | rf d => cases e'; exact okO.less (o := .rf d) (sm _ (sub _)) ok
     | rp d ds => cases e'; exact okO.less (o := .rp d ds) (sm _ (sub _)) ok
     | rg d p r => cases e'; exact okO.less (o := .rg d p r) (sm _ (sub _)) ok
     | rgf d p r => cases e'; exact okO.less (o := .rgf d p r) (sm _ (sub _)) ok
  ·left
   have hieq : i = dss.length := by omega
   subst hieq
   rw [drop_length] at e'
   have e' : some (Out.nx ρ') = some o := e'
   cases e'
   refine ⟨⟨_, SqL.of hHp, by rw [length_map, hn]; exact Nat.le_refl _⟩, ?_⟩
   exact ok F' H' σ' (rl'.less (sm _ (sub _))) (x1.ff.trans sf)
noncomputable def mretOW (i : Nat) : MW := fun ρ β => match ρ[i]? with | some (some (.own ds)) => some (.rf ds, β) | _ => none
theorem psw_retO (i : Nat) {x : Str} {pos' : Pos} (h : PE X (.Name x pos') (tVar i)) : PSw X (.Return (some (.Name x pos')) pos) (mretOW i) := PS.imp (ps_ret h) fun D σ H ⟨F0, H0, F, ρ, β, o, β', ⟨B, fp, rl, k⟩, e, ok⟩ => by
 unfold mretOW at e
 split at e
 ·rename_i ds h1
  cases e
  obtain ⟨p, xs, e1, e2, e3, e4, e5⟩ := rl.own i _ h1
  exact ⟨_, e1, ok p xs F H B fp rl.ext k e5 e2 e3 e4⟩
 ·cases e
end
end
section
section
variable {X : Cx} {st : Stmt} {sts : List Stmt}
end
end
section
section
variable {X : Cx} {a b c e k : Expr} {te : TE} {ma mb : ME} {la lb : ML} {pos p2 : Pos} {st : Stmt}
end
end
section
section
variable {X : Cx} {P : Addr} {pos : Pos} {q : Str} {params : Arguments} {body : Expr} {sc : Scope}
end
end
section
section
variable {X : Cx} {pins : List (Addr × Obj)} {σ : St} {H : Hp} {s : Shared}
end
end
section
section
variable {X : Cx} {pins : List (Addr × Obj)} {σ : St}
end
end
section
open Classical in
section
variable {X : Cx}
end
section
variable {P : Program} {w : World} {K : W.Frag} {mg : Str -> Option Value} {base : Heap} {nm : Str} {st : Stmt} {ps : List Str} {sp : Sp} {n : Nat}
end
end
section
end
section
noncomputable def insB (B H : Hp) (L : List Addr) : Hp := fun a => if a ∈ L then H a else B a
theorem insB_in {B H : Hp} {L : List Addr} {a : Addr} (h : a ∈ L) : insB B H L a = H a := by unfold insB; rw [if_pos h]
theorem insB_out {B H : Hp} {L : List Addr} {a : Addr} (h : a ∉ L) : insB B H L a = B a := by unfold insB; rw [if_neg h]
section
variable {K : W.Frag} {F0 H0 F H B : Hp} {σ : St} {ρ : Ro} {β : Bx} {fp : List Addr}
theorem Rl.takeBs {L : List Addr} (rl : Rl K F0 (jn H0 B) F H σ ρ) (hH : ∀ q ∈ L, H q ≠ none) (hF : ∀ q ∈ L, F q = none) (hj : ∀ q ∈ L, jn H0 B q = none) (hn : ∀ q ∈ L, ∀ (i : Nat) ds, ρ[i]? = some (some (.own ds)) -> σ[i]? ≠ some (some (.ref q))) (hb : ∀ q ∈ L, ∀ (i : Nat) p ds, ρ[i]? = some (some (.ob p ds)) -> p ≠ q) : Rl K F0 (jn H0 (insB B H L)) F H σ ρ := by
 have jo : ∀ b, b ∉ L -> jn H0 (insB B H L) b = jn H0 B b := fun b hb => by unfold jn; rw [insB_out hb]
 refine ⟨⟨rl.ext.ff, fun b u e => ?_, rl.ext.fh, fun b e n => ?_, rl.ext.nf⟩, rl.len, rl.sh, fun i ds e => ?_, rl.inj, fun i p ds e => ?_, rl.obn, rl.ob1⟩
 ·by_cases hq : b ∈ L
  ·have := hH b hq
   unfold jn at e
   rw [insB_in hq] at e
   cases z : H b with
   | none => exact absurd z this
   | some o => rw [z] at e; exact e
  ·rw [jo b hq] at e; exact rl.ext.hh b u e
 ·have hq : b ∉ L := fun z => n (hF b z)
  rw [jo b hq]; exact rl.ext.new b e n
 ·obtain ⟨p, xs, a1, a2, a3, a4, a5⟩ := rl.own i ds e
  exact ⟨p, xs, a1, a2, a3, a4, by rw [jo p (fun z => hn p z i ds e a1)]; exact a5⟩
 ·obtain ⟨a1, a2, a3, xs, a4, a5⟩ := rl.ob i p ds e
  exact ⟨a1, a2, by rw [jo p (fun z => hb p z i p ds e rfl)]; exact a3, xs, a4, a5⟩
theorem flR_pots {B' : Hp} : ∀ {qs : List Addr} {dss : List (List D)}, RPs K F H qs dss -> (∀ q ∈ qs, B' q = H q) -> FlR K F B' qs (qs.map V.ref) (dss.map .l)
 | _, _, .nil, _ => .nil
 | _, _, .cons h r t, k => .l (by rw [k _ (by simp)]; exact h) r (flR_pots t fun q hq => k q (mem_cons_of_mem _ hq))
theorem RlW.pots {F' H' : Hp} {p : Addr} {qs : List Addr} {dss : List (List D)} (rl : Rl K F0 (jn H0 B) F H σ ρ) (ok : BxOk K F0 H0 F B fp β) (x : Ext F H F' H') (P : Pots K H F' H' p qs dss) : RlW K F0 H0 F' H' σ ρ ((p, .row (dss.map .l)) :: β) /\ B p = none := by
 have new : ∀ q ∈ p :: qs, H q = none /\ F' q = none /\ H' q ≠ none := fun q hq => by
  rcases List.mem_cons.mp hq with e | hq
  ·subst e; exact ⟨P.hp, P.fp, by rw [P.at']; simp⟩
  ·obtain ⟨o, ho⟩ := P.rep.some q hq
   exact ⟨(P.new q hq).1, (P.new q hq).2, by rw [ho]; simp⟩
 have hj : ∀ q ∈ p :: qs, jn H0 B q = none := fun q hq => rl.ext.hh.free (new q hq).1
 have hB : ∀ q ∈ p :: qs, B q = none := fun q hq => (jn_free (hj q hq)).1
 have rl1 := (rl.go x).takeBs (L := p :: qs) (fun q hq => (new q hq).2.2) (fun q hq => (new q hq).2.1) hj (fun q hq i ds e z => by
  obtain ⟨p', xs, a1, _, a3, _⟩ := rl.own i ds e
  rw [z] at a1; cases a1
  rw [(new q hq).1] at a3; cases a3) (fun q hq i p' ds e z => by
  obtain ⟨_, _, _, xs, a4, _⟩ := rl.ob i p' ds e
  rw [z, (new q hq).1] at a4; cases a4)
 have notin : ∀ a ∈ fp, a ∉ p :: qs := fun a ha z => ok.bx.mem a ha (hB a z)
 refine ⟨⟨insB B H' (p :: qs), (p :: qs) ++ fp, rl1, fun a h => ?_, .cons (.row (by rw [insB_in (by simp)]; exact P.at') (flR_pots P.rep fun q hq => insB_in (mem_cons_of_mem _ hq))) (ok.bx.mono x.ff fun a ha => insB_out (notin a ha)), List.nodup_append.mpr ⟨P.nd, ok.nd, fun a h1 b h2 z => by subst z; exact notin a h2 h1⟩, fun a o u h => ?_⟩, hB p (by simp)⟩
 ·by_cases hq : a ∈ p :: qs
  ·exact ⟨(jn_free (hj a hq)).2, rl.ext.ff.free (rl.fh.free (new a hq).1)⟩
  ·rw [insB_out hq] at h; exact ok.out a h
 ·by_cases hq : a ∈ p :: qs
  ·rw [insB_in hq] at h
   rcases List.mem_cons.mp hq with e | hq
   ·subst e; rw [P.at'] at h; cases h
   ·obtain ⟨i, hi, hiq⟩ := getElem_of_mem hq
    have hr := P.rep
    have : ∃ xs, H' a = some (.lst xs) := by
     clear h
     have aux : ∀ {qs : List Addr} {dss : List (List D)}, RPs K F' H' qs dss -> a ∈ qs -> ∃ xs, H' a = some (.lst xs) := by
      intro qs dss r
      induction r with
      | nil => intro h; cases h
      | cons h1 _ _ ih =>
       intro h
       rcases List.mem_cons.mp h with e | h
       ·subst e; exact ⟨_, h1⟩
       ·exact ih h
     exact aux hr hq
    obtain ⟨xs, e⟩ := this
    rw [e] at h; cases h
  ·rw [insB_out hq] at h; exact ok.plain a o u h
theorem FlR.at' {n : Nat} {ds : List D} : ∀ {n : Nat} {fp : List Addr} {xs : List V} {fs : List Fl}, FlR K F B fp xs fs -> fp.Nodup -> fs[n]? = some (.l ds) -> ∃ q ys, xs[n]? = some (.ref q) /\ q ∈ fp /\ B q = some (.lst ys) /\ Reps K F ys ds /\
  ∀ (B' F' : Hp) ys' ds', Same F F' -> B' q = some (.lst ys') -> Reps K F' ys' ds' -> (∀ a ∈ fp, a ≠ q -> B' a = B a) -> FlR K F' B' fp xs (fs.set n (.l ds'))
 | _, _, _, _, .nil, _, e => by simp at e
 | 0, _, _, _, .v _ _, _, e => by simp at e
 | n + 1, _, _, _, .v r t, nd, e => by
  obtain ⟨q, ys, a1, a2, a3, a4, a5⟩ := FlR.at' (n := n) t nd (by simpa using e)
  exact ⟨q, ys, by simpa using a1, a2, a3, a4, fun B' F' ys' ds' sf b1 b2 b3 => .v (r.mono sf) (a5 B' F' ys' ds' sf b1 b2 b3)⟩
 | 0, _, _, _, .l (fp := fp) (q := q) b r t, nd, e => by
  simp at e
  subst e
  have hn := List.nodup_cons.mp nd
  exact ⟨q, _, rfl, by simp, b, r, fun B' F' ys' ds' sf b1 b2 b3 => .l b1 b2 (t.mono sf fun a ha => b3 a (by simp [ha]) fun z => hn.1 (z ▸ ha))⟩
 | n + 1, _, _, _, .l (fp := fp) (q := q0) b r t, nd, e => by
  have hn := List.nodup_cons.mp nd
  obtain ⟨q, ys, a1, a2, a3, a4, a5⟩ := FlR.at' (n := n) t hn.2 (by simpa using e)
  exact ⟨q, ys, by simpa using a1, by simp [a2], a3, a4, fun B' F' ys' ds' sf b1 b2 b3 => .l (by rw [b3 q0 (by simp) fun z => hn.1 (z ▸ a2)]; exact b) (r.mono sf) (a5 B' F' ys' ds' sf b1 b2 fun a ha hq => b3 a (by simp [ha]) hq)⟩
end
noncomputable def mnewR (i : Nat) (mp : MP) (rest : MW) : MW := fun ρ β => (mp ρ).bind fun dss => anyN β fun x => (rest (ρ.set i (some (.sh (.ptr x)))) ((x, .row (dss.map .l)) :: β)).map (letGo i β.length)
section
variable {X : Cx} {a b c e : Expr} {pos : Pos} {st : Stmt} {rest : List Stmt} {E : XK} {es : List Expr} {mf : MFW} {m : ML}
theorem pssw_newR {i : Nat} {src : List (Option Nat)} {mi : ML} {g : Tg} {elt : ML} {mr : MW} (hS : PS X st (tAsg (tComp src (TId X.K mi) (TGd X.K g) (TC X.K cyes) (TF X.K elt)) (gName i))) (hr : PSsw X rest mr) : PSsw X (st :: rest) (mnewR i (mcompP src mi g elt) mr) := PSs.imp (pss_cons hS hr) fun Dn σ H ⟨F0, H0, F, ρ, β, o, β', ⟨B, fp, rl, ok⟩, e, k⟩ => by
 unfold mnewR at e
 cases h1 : mcompP src mi g elt ρ with
 | none => rw [h1] at e; cases e
 | some dss =>
  rw [h1, Option.bind_some] at e
  show tComp src (TId X.K mi) (TGd X.K g) (TC X.K cyes) (TF X.K elt) σ H (fun v H' => TSw X.K mr Dn (σ.set i (some v)) H')
  refine comp_tp ⟨F0, jn H0 B, F, ρ, dss, rl, h1, fun p qs F' H' x P => ?_⟩
  obtain ⟨⟨B2, fp2, rl2, ok2⟩, hBp⟩ := RlW.pots rl ok x P
  have e := anyN_some e p fun z => ok.bx.keys p z hBp
  show TSw X.K mr Dn (σ.set i (some (.ref p))) H'
  cases h3 : mr (ρ.set i (some (.sh (.ptr p)))) ((p, .row (dss.map .l)) :: β) with
  | none => rw [h3] at e; cases e
  | some ob =>
   obtain ⟨o1, β2⟩ := ob
   rw [h3] at e
   have e : some (letGo i β.length (o1, β2)) = some (o, β') := e
   have e := Option.some.inj e
   refine ⟨F0, H0, F', _, _, o1, β2, ⟨B2, fp2, rl2.set (.ptr p), ok2⟩, h3, okW.letGo (i := i) (k := β.length) ?_⟩
   rw [e]
   exact k.mono x.ff
noncomputable def setR (a b : Int) (d : D) (fs : List Fl) : Option (List Fl) := match ixN fs.length a with
 | some n => (match fs[n]? with
  | some (.l ds) => (match ixN ds.length b with | some m => some (fs.set n (.l (ds.set m d))) | none => none)
  | _ => none)
 | none => none
noncomputable def msetR (i : Nat) (k1 k2 : ME) (v : Ro -> Bx -> Option D) : MW := fun ρ β => match v ρ β, ρ[i]?, k1 ρ, k2 ρ with
 | some d, some (some (.sh (.ptr p))), some (.int a), some (.int b) => (match β.lookup p with
  | some (.row fs) => (setR a b d fs).map fun fs' => (.nx ρ, updB p (.row fs') β)
  | _ => none)
 | _, _, _, _ => none
theorem psw_setR {i : Nat} {k1 k2 : ME} {mv : Ro -> Bx -> Option D} (hE : PS X st (tAsg (TDw X.K mv) (gSub (tOp (rIxL X.K) (tVar i) (TD X.K k1)) (TD X.K k2) rSetL))) : PSw X st (msetR i k1 k2 mv) := PS.imp hE fun Dn σ H hpat => by
 obtain ⟨F0, H0, F, ρ, β, o, β', rw', e, k⟩ := hpat
 unfold msetR at e
 split at e
 ·rename_i d p a b h1 hp hk1 hk2
  split at e
  ·rename_i fs hb
   cases h2 : setR a b d fs with
   | none => rw [h2] at e; cases e
   | some fs' =>
    rw [h2] at e; cases e
    unfold setR at h2
    split at h2
    ·rename_i n hn
     split at h2
     ·rename_i ds hfs
      split at h2
      ·rename_i m hm
       cases h2
       refine ⟨F0, H0, F, ρ, β, d, rw', h1, fun v F1 H1 r1 s1 _ rp => ?_⟩
       obtain ⟨B, fp, rl, ok⟩ := r1
       obtain ⟨w, hσ, rw1⟩ := rl.sh i _ hp
       cases rw1
       obtain ⟨fq, hc, nq, hin, up⟩ := ok.bx.upd ok.nd hb
       cases hc with
       | @row fq0 _ xs _ b0 fl =>
        have nq1 := List.nodup_cons.mp nq
        obtain ⟨q, ys, a1, a2, a3, a4, a5⟩ := FlR.at' (n := n) fl nq1.2 hfs
        refine ⟨_, hσ, F0, jn H0 B, F1, ρ, _, rl, hk1, fun w2 F2 H2 x2 r2 => ?_⟩
        cases r2
        have hat : atI xs a = some (.ref q) := by
         unfold atI
         rw [fl.length, hn]
         exact a1
        refine ⟨p, xs, a, .ref q, rfl, rfl, SqL.of (x2.hh _ _ (rl.ext.hh _ _ (jn_some b0))), hat, F0, jn H0 B, F2, ρ, _, rl.go x2, hk2, fun w3 F3 H3 x3 r3 => ?_⟩
        cases r3
        have rl3 := (rl.go x2).go x3
        refine ⟨q, ys, b, m, rfl, rfl, rl3.ext.hh _ _ (jn_some a3), by rw [a4.length]; exact hm, ?_⟩
        obtain ⟨rl4, _, hq0, hqF⟩ := rl3.putB (a := q) (o := .lst (ys.set m v)) ok.out (.inl (by rw [a3]; simp))
        have pq : p ≠ q := fun z => nq1.1 (z ▸ a2)
        have s13 : Same F1 F3 := x2.ff.trans x3.ff
        have hcell : CellR X.K F3 (upd B q (.lst (ys.set m v))) (p :: fq0) p (.row (fs.set n (.l (ds.set m d)))) := .row (by rw [upd_ne pq]; exact b0) (a5 _ F3 _ _ s13 upd_same ((a4.mono s13).set (rp.mono s13) m) fun a _ hne => upd_ne hne)
        obtain ⟨fp', r', nd', hm'⟩ := up _ _ _ F3 s13 hcell nq (fun a _ hn => upd_ne fun z => hn (by rw [z]; simp [a2])) fun a ha => .inl ha
        exact k F3 _ σ ⟨_, fp', rl4, upd_out ok.out ⟨hq0, hqF⟩, r', nd', upd_plain ok.plain fun _ _ z => by cases z⟩ (s1.trans s13)
      ·cases h2
     ·cases h2
    ·cases h2
  ·cases e
 ·cases e
end
end
section
section
variable {X : Cx} {pins : List (Addr × Obj)} {σ : St}
end
section
variable {X : Cx}
end
end
section
section
variable {X : Cx} {pins : List (Addr × Obj)} {σ : St}
end
section
variable {X : Cx} {pos : Pos}
end
end
section
section
variable {X : Cx} {e : Expr} {pos : Pos} {es : List Expr} {m : ML} {mf : MF} {E : XK}
end
section
variable {X : Cx} {pos : Pos}
end
end
section
structure BlkC (X : Cx) (sc : Scope) (N : List Str) (src : List (Option Nat)) : Prop where
 kind : sc.kind = .function
 cells : ∀ y ∈ sc.names, y.2 = .cell -> sc.names.lookup y.1 = some .cell
 names : ∀ y ∈ sc.names, y.2 = .local -> sc.names.lookup y.1 = some .local
 free : ∀ y ∈ sc.names, y.2 = .free -> X.env.kindOf y.1 = some .cell \/ X.env.kindOf y.1 = some .free
 fv : ∀ (j i : Nat), src[j]? = some (some i) -> ∃ x, N[j]? = some x /\ X.N[i]? = some x /\ sc.names.lookup x = some .free
 len : src.length = N.length
section
variable {X : Cx} {pins : List (Addr × Obj)} {σ : St} {H : Hp} {s : Shared}
end
section
variable {X : Cx}
end
section
variable {X : Cx} {pos : Pos}
end
end
section
section
variable {X : Cx} {pos : Pos}
end
end
section
noncomputable def delB (p : Addr) : Bx -> Bx
 | [] => []
 | (q, c) :: β => match p == q with | true => β | false => (q, c) :: delB p β
noncomputable def flS : Fl -> D
 | .v d => d
 | .l ds => .lst ds
section
variable {K : W.Frag} {F0 H0 F H B : Hp} {σ : St} {ρ : Ro} {β : Bx} {fp : List Addr}
theorem BxR.take {p : Addr} {c : Cell} : ∀ {fp : List Addr} {β : Bx}, BxR K F B fp β -> β.lookup p = some c -> ∃ fq fr, CellR K F B fq p c /\ BxR K F B fr (delB p β) /\ (fq ++ fr).Perm fp
 | _, _, .nil, e => by cases e
 | _, _, .cons (fp := f1) (fq := f2) (p := q) (c := c') (β := β) h t, e => by
  rw [lookup_cons] at e
  unfold delB
  cases hq : p == q with
  | true =>
   rw [hq] at e
   cases e
   have : p = q := by simpa using hq
   subst this
   exact ⟨f1, f2, h, t, List.Perm.refl _⟩
  | false =>
   rw [hq] at e
   obtain ⟨fq, fr, a1, a2, a3⟩ := BxR.take t e
   refine ⟨fq, f1 ++ fr, a1, .cons h a2, ?_⟩
   rw [<- append_assoc]
   refine (List.Perm.append_right fr perm_append_comm).trans ?_
   rw [append_assoc]
   exact List.Perm.append_left f1 a3
theorem FlR.shared {F' : Hp} {fq : List Addr} {xs : List V} {fs : List Fl} (h : FlR K F B fq xs fs) (s : Same F F') (k : ∀ a ∈ fq, F' a = B a) : Reps K F' xs (fs.map flS) := by
 induction h with
 | nil => exact .nil
 | v r _ ih => exact .cons (r.mono s) (ih k)
 | l b r _ ih => exact .cons (.lst (SqL.of (by rw [k _ (by simp)]; exact b)) (r.mono s)) (ih fun a ha => k a (mem_cons_of_mem _ ha))
theorem FlR.memL {fq : List Addr} {xs : List V} {fs : List Fl} (h : FlR K F B fq xs fs) : ∀ a ∈ fq, ∃ ys, B a = some (.lst ys) := by
 induction h with
 | nil => intro a ha; cases ha
 | v _ _ ih => exact ih
 | l b _ _ ih =>
  intro a ha
  rcases List.mem_cons.mp ha with rfl | ha
  ·exact ⟨_, b⟩
  ·exact ih a ha
theorem set_same {σ : St} {i : Nat} {x : Option V} (h : σ[i]? = some x) : σ.set i x = σ := by
 apply ext_getElem?
 intro j
 by_cases hj : i = j
 ·subst hj
  rw [getElem?_set_self (List.getElem?_eq_some_iff.mp h).1, h]
 ·rw [getElem?_set_ne hj]
theorem RlW.openB {p : Addr} {fs : List Fl} (r : RlW K F0 H0 F H σ ρ β) (hb : β.lookup p = some (.row fs)) : ∃ F', Same F F' /\ RlW K F0 H0 F' H σ ρ (delB p β) /\ Rep K F' (.ref p) (.lst (fs.map flS)) := by
 obtain ⟨B, fp, rl, ok⟩ := r
 obtain ⟨fq, fr, hc, hrest, perm⟩ := ok.bx.take hb
 cases hc with
 | @row fq0 _ xs _ b0 fl =>
  have at' : ∀ a ∈ p :: fq0, ∃ ys, B a = some (.lst ys) := fun a ha => by
   rcases List.mem_cons.mp ha with rfl | ha
   ·exact ⟨_, b0⟩
   ·exact fl.memL a ha
  have nb : ∀ a ∈ p :: fq0, B a ≠ none := fun a ha => by obtain ⟨ys, e⟩ := at' a ha; rw [e]; simp
  have nF : ∀ a ∈ p :: fq0, F a = none := fun a ha => by
   cases hF : F a with
   | none => rfl
   | some o =>
    have h1 := rl.ext.new a (ok.out a (nb a ha)).2 (by rw [hF]; simp)
    exact absurd (jn_free h1).1 (nb a ha)
  have nd : (p :: fq0 ++ fr).Nodup := (perm.nodup_iff).mpr ok.nd
  have dis : ∀ a ∈ fr, a ∉ p :: fq0 := fun a ha hb => (List.nodup_append.mp nd).2.2 a hb a ha rfl
  refine ⟨fun a => if a ∈ p :: fq0 then B a else F a, fun a o e => ?_, ⟨fun a => if a ∈ p :: fq0 then none else B a, fr, ?_, ?_⟩, ?_⟩
  ·have : a ∉ p :: fq0 := fun z => by rw [nF a z] at e; cases e
   show (if a ∈ p :: fq0 then B a else F a) = some o
   rw [if_neg this]; exact e
  ·have sF : Same F (fun a => if a ∈ p :: fq0 then B a else F a) := fun a o e => by
    have : a ∉ p :: fq0 := fun z => by rw [nF a z] at e; cases e
    show (if a ∈ p :: fq0 then B a else F a) = some o
    rw [if_neg this]; exact e
   have jo : ∀ a, a ∉ p :: fq0 -> jn H0 (fun a => if a ∈ p :: fq0 then none else B a) a = jn H0 B a := fun a ha => by unfold jn; simp only [if_neg ha]
   have ji : ∀ a, a ∈ p :: fq0 -> jn H0 (fun a => if a ∈ p :: fq0 then none else B a) a = none := fun a ha => by unfold jn; simp only [if_pos ha]; exact (ok.out a (nb a ha)).1
   have own : ∀ a, jn H0 B a = none -> a ∉ p :: fq0 := fun a h z => nb a z (jn_free h).1
   have rl' : Rl K F0 (jn H0 (fun a => if a ∈ p :: fq0 then none else B a)) (fun a => if a ∈ p :: fq0 then B a else F a) H σ ρ := by
    refine ⟨⟨rl.ext.ff.trans sF, fun b u e => ?_, fun b u e => ?_, fun b e n => ?_, fun b o u e => ?_⟩, rl.len, fun j d e => ?_, fun j ds e => ?_, rl.inj, fun j q ds e => ?_, rl.obn, rl.ob1⟩
    ·by_cases z : b ∈ p :: fq0
     ·rw [ji b z] at e; cases e
     ·rw [jo b z] at e; exact rl.ext.hh b u e
    ·by_cases z : b ∈ p :: fq0
     ·have e : B b = some u := by
       have e : (if b ∈ p :: fq0 then B b else F b) = some u := e
       rw [if_pos z] at e; exact e
      exact rl.ext.hh b u (jn_some e)
     ·have e : F b = some u := by
       have e : (if b ∈ p :: fq0 then B b else F b) = some u := e
       rw [if_neg z] at e; exact e
      exact rl.fh b u e
    ·by_cases z : b ∈ p :: fq0
     ·exact ji b z
     ·rw [jo b z]
      have n : (if b ∈ p :: fq0 then B b else F b) ≠ none := n
      rw [if_neg z] at n
      exact rl.ext.new b e n
    ·by_cases z : b ∈ p :: fq0
     ·have e : (if b ∈ p :: fq0 then B b else F b) = some (.frz o u) := e
      rw [if_pos z] at e
      exact absurd e (ok.plain b o u)
     ·have e : (if b ∈ p :: fq0 then B b else F b) = some (.frz o u) := e
      rw [if_neg z] at e
      exact rl.ext.nf b o u e
    ·obtain ⟨v, a1, a2⟩ := rl.sh j d e
     exact ⟨v, a1, a2.mono sF⟩
    ·obtain ⟨q, ys, a1, a2, a3, a4, a5⟩ := rl.own j ds e
     have z := own q a5
     exact ⟨q, ys, a1, by show (if q ∈ p :: fq0 then B q else F q) = none; rw [if_neg z]; exact a2, a3, a4.mono sF, by rw [jo q z]; exact a5⟩
    ·obtain ⟨a1, a2, a3, ys, a4, a5⟩ := rl.ob j q ds e
     have z := own q a3
     exact ⟨a1, by show (if q ∈ p :: fq0 then B q else F q) = none; rw [if_neg z]; exact a2, by rw [jo q z]; exact a3, ys, a4, a5.mono sF⟩
   exact rl'
  ·have sF : Same F (fun a => if a ∈ p :: fq0 then B a else F a) := fun a o e => by
    have : a ∉ p :: fq0 := fun z => by rw [nF a z] at e; cases e
    show (if a ∈ p :: fq0 then B a else F a) = some o
    rw [if_neg this]; exact e
   refine ⟨fun a h => ?_, hrest.mono sF fun a ha => ?_, (List.nodup_append.mp nd).2.1, fun a o u e => ?_⟩
   ·have h : (if a ∈ p :: fq0 then none else B a) ≠ none := h
    by_cases z : a ∈ p :: fq0
    ·rw [if_pos z] at h; exact absurd rfl h
    ·rw [if_neg z] at h; exact ok.out a h
   ·show (if a ∈ p :: fq0 then none else B a) = B a
    rw [if_neg (dis a ha)]
   ·have e : (if a ∈ p :: fq0 then none else B a) = some (.frz o u) := e
    by_cases z : a ∈ p :: fq0
    ·rw [if_pos z] at e; cases e
    ·rw [if_neg z] at e; exact ok.plain a o u e
  ·have sF : Same F (fun a => if a ∈ p :: fq0 then B a else F a) := fun a o e => by
    have : a ∉ p :: fq0 := fun z => by rw [nF a z] at e; cases e
    show (if a ∈ p :: fq0 then B a else F a) = some o
    rw [if_neg this]; exact e
   exact .lst (SqL.of (by show (if p ∈ p :: fq0 then B p else F p) = _; rw [if_pos (by simp)]; exact b0)) (fl.shared sF fun a ha => by show (if a ∈ p :: fq0 then B a else F a) = _; rw [if_pos (mem_cons_of_mem _ ha)])
theorem RlW.freezeR {i : Nat} {p : Addr} {fs : List Fl} (r : RlW K F0 H0 F H σ ρ β) (hi : ρ[i]? = some (some (.sh (.ptr p)))) (hb : β.lookup p = some (.row fs)) : ∃ F', Same F F' /\ RlW K F0 H0 F' H σ (ρ.set i (some (.sh (.lst (fs.map flS))))) (delB p β) := by
 obtain ⟨F', sF, ⟨B, fp, rl, ok⟩, rp⟩ := r.openB hb
 obtain ⟨v, hv, rv⟩ := rl.sh i _ hi
 cases rv
 have := rl.set (i := i) rp
 rw [set_same hv] at this
 exact ⟨F', sF, B, fp, this, ok⟩
end
noncomputable def mfreezeR (i : Nat) (m : MW) : MW := fun ρ β => match ρ[i]? with
 | some (some (.sh (.ptr p))) => (match β.lookup p with | some (.row fs) => m (ρ.set i (some (.sh (.lst (fs.map flS))))) (delB p β) | _ => none)
 | _ => none
theorem pssw_freezeR {X : Cx} {sts : List Stmt} {m : MW} (i : Nat) (h : PSsw X sts m) : PSsw X sts (mfreezeR i m) := PSs.imp h fun D σ H hpat => by
 obtain ⟨F0, H0, F, ρ, β, o, β', r, e, ok⟩ := hpat
 unfold mfreezeR at e
 split at e
 ·rename_i p h1
  split at e
  ·rename_i fs h2
   obtain ⟨F', s, r'⟩ := r.freezeR h1 h2
   exact ⟨F0, H0, F', _, _, o, β', r', e, ok.mono s⟩
  ·cases e
 ·cases e
end
section
section
variable {K : W.Frag} {F0 J F H : Hp} {σ : St} {ρ : Ro}
end
section
variable {X : Cx} {a b c e e1 e2 : Expr} {pos p1 p2 : Pos} {st : Stmt}
end
end
section
section
variable {X : Cx} {a b e : Expr} {pos : Pos} {ta tb : TE} {ma mb : Ro -> Bx -> Option D}
end
end
section
section
variable {X : Cx} {pos : Pos}
end
end
section
section
variable {X : Cx} {st : Stmt} {rest : List Stmt} {e o c : Expr} {es : List Expr} {pos apos : Pos} {mo : ME} {m : ML}
end
section
variable {X : Cx} {pos np hpos : Pos}
end
section
variable {X : Cx} {e : Expr} {es : List Expr} {st : Stmt} {E : XK} {mf : MFW} {m : ML}
end
end
section
section
variable {X : Cx} {e : Expr} {es : List Expr} {st : Stmt} {E : XK} {mf : MF} {m : ML} {pos : Pos}
end
section
variable {X : Cx} {e : Expr} {es : List Expr} {pos : Pos} {x : Ro -> Bx -> Option D} {m : Ro -> Bx -> Option (List D)}
end
section
variable {K : W.Frag} {F0 J F H : Hp} {σ : St} {ρ : Ro}
end
section
variable {X : Cx} {e : Expr} {E : XK} {mf : MF}
end
end
section
section
variable {X : Cx} {e o : Expr} {E : XK} {mf : MF} {mo : ME}
end
end
section
section
variable {X : Cx} {e : Expr} {es : List Expr} {st : Stmt} {rest : List Stmt} {E : XK} {mf : MFW} {m : MLm}
end
end
end L2
namespace L2
open List
open PySem PySem.Spec PyProof.Rows PySem.W
section
section
variable {M : Model} {A : Around} {E : Value -> Shared -> Prop} {s : Shared}
end
section
variable {B h h' : Heap} {l : List Env} {e C L : Addr} {cls a0 fl : Value}
end
section
variable {X : Cx} {e : Expr} {es : List Expr} {pos : Pos}
end
section
variable {X : Cx}
end
end
section
section
variable {X : Cx} {e : Expr} {pos : Pos}
end
section
variable {X : Cx} {pins : List (Addr × Obj)} {σ : St} {H : Hp} {s : Shared}
end
end
section
section
variable {X : Cx} {st : Stmt} {rest : List Stmt} {e c : Expr} {es : List Expr} {pos : Pos}
end
open Classical in
section
variable {X : Cx}
end
end
end L2
namespace L2
open List
open PySem PySem.Spec PyProof.Rows
section
section
variable {X : Cx} {pos np hpos : Pos}
end
end
section
section
variable {X : Cx} {a b : Expr} {ma mb : ME} {na nb : MEm} {pos : Pos}
end
section
variable {X : Cx} {a b : Expr} {ca cb : Ro -> Bx -> Option (Bool × Bx)} {pos : Pos}
end
end
section
section
variable {X : Cx} {e : Expr} {es : List Expr} {st : Stmt} {E : XK} {mf : MFW} {m : ML}
end
end
section
section
variable {X : Cx} {e o : Expr} {pos : Pos} {ma mo : ME}
end
end
section
section
variable {X : Cx} {pos : Pos} {e : Expr} {ma mb : ME}
end
end
section
section
variable {X : Cx} {tg e : Expr} {ma mb : ME} {pos : Pos}
variable {a b : Expr}
end
end
section
section
variable {es : List Expr} {env : Env}
theorem se_n {x : Str} {p : Pos} : starEach (.Name x p :: es) env = (false, eval (.Name x p) env) :: starEach es env := rfl
end
end
section
end
section
section
variable {prog : Program} {w : World} {A : Around} {E : Value -> Shared -> Prop} {s : Shared}
end
section
variable {X : Cx} {a : Addr} {pos : Pos} {e : Expr}
end
end
section
section
variable {K : W.Frag} {F0 H0 F H B : Hp} {σ : St} {ρ : Ro} {β : Bx} {fp : List Addr}
end
section
variable {X : Cx} {a b c e : Expr} {pos : Pos} {st : Stmt} {rest : List Stmt}
end
end
section
section
variable {K : W.Frag} {F0 H0 F H B : Hp} {σ : St} {ρ : Ro} {β : Bx} {fp : List Addr}
end
section
variable {X : Cx} {a b c e : Expr} {pos : Pos} {st : Stmt} {rest : List Stmt} {E : XK}
end
end
section
@[irreducible] noncomputable def mcompmRB (src : List (Option Nat)) (mi : MLm) (i j : Nat) (elt : MEm) : MEm := fun ρ => match mi ρ with
 | some (its, ρ1) => mcompmB src (fun _ => some its) i j elt ρ1
 | none => none
theorem comp_tdmRB {K : W.Frag} {src : List (Option Nat)} {mi : MLm} {i j : Nat} {elt : MEm} (hs : src[j]? = some (some i)) (hj : j ≠ 0) {σ : St} {H : Hp} {Q : VK} (h : TDm K (mcompmRB src mi i j elt) σ H Q) : tComp src (TIm K mi) (gName 0) tYes (TDm K elt) σ H Q := by
 obtain ⟨F0, H0, F, ρ, g, ρ', rl, e, q⟩ := h
 unfold mcompmRB at e
 split at e
 ·rename_i its ρ1 h0
  unfold mcompmB at e
  split at e
  ·rename_i rr r0 hi
   simp only at e
   split at e
   ·rename_i out ρb h2
    split at e
    ·rename_i r1 h3
     cases e
     refine ⟨F0, H0, F, ρ, its, ρ1, rl, h0, fun J F1 H1 rl1 s1 I p hp => ?_⟩
     obtain ⟨a1, a2, a5, ys, a3, a4⟩ := rl1.ob i rr r0 hi
     have hrp : rr ≠ p := fun w => by rw [w, hp] at a3; cases a3
     exact compm_loop rl1.fh hp hrp hj I (rl1.blkJB hs hi hp) (blk0_at hs a1) h2 h3 fun xs zs F' H' xf b1 b2 b3 b4 b5 => q _ _ _ (rl1.lentB hi xf b1 b2 b3) (s1.trans xf.ff) (.lst (SqL.of b4) b5)
    ·cases e
   ·cases e
  ·cases e
 ·cases e
theorem psd_setCmRB {X : Cx} {st : Stmt} {k i j : Nat} {src : List (Option Nat)} {mi : MLm} {me : MEm} (hsj : src[j]? = some (some i)) (hj : j ≠ 0) (h : PS X st (tAsg (tComp src (TIm X.K mi) (gName 0) tYes (TDm X.K me)) (gName k))) : PSd X st (msetm k (mcompmRB src mi i j me)) := asg_m h fun _ _ _ q => comp_tdmRB hsj hj q
end
end L2
set_option maxHeartbeats 4000000
namespace Lw
open List
open PySem L2
section
noncomputable section
noncomputable def b_Z13 : MS := (mif (mtest (m2 ltD (mvar 0) (mc (.int 1)))) mnever mnext)
noncomputable def m_Z13 : MF := runB 1 b_Z13
noncomputable def b_Z12_f0 : MS := (mseq (mapp 2 (mlst (mcomp [none, some 1, some 5, some 0] (mlist rng2 (acons (m2 addD (mvar 4) (mc (.int 1))) (acons (mlen (bvar 0)) anil))) (.nm 0) (mtest (m2 geD (m2 subD (mix (bvar 3) (mvar 0)) (mvar 2)) (mvar 1))) (mvar 0)))) (mapp 3 (mlst (mcomp [none, some 1, some 5, some 0] (mlist rng2 (acons (m2 addD (mvar 4) (mc (.int 1))) (acons (mlen (bvar 0)) anil))) (.nm 0) (mtest (m2 geD (m2 subD (mvar 2) (mix (bvar 3) (mvar 0))) (mvar 1))) (mvar 0)))))
noncomputable def b_Z12_r1 : MS := (mfreeze 3 (mfreeze 2 (mret (mtup (acons (mvar 2) (acons (mvar 3) anil))))))
noncomputable def b_Z12 : MS := (mseq (msetF 2 (sized anil)) (mseq (msetF 3 (sized anil)) (mseq (mfor (mlist enum1 (acons (mvar 0) anil)) (.tp [4, 5]) b_Z12_f0) b_Z12_r1)))
noncomputable def m_Z12 : MF := runB 6 b_Z12
noncomputable def b_Z9 : MS := (mret (mtup (acons (m1 negD (mlen (bvar 0))) (acons (mvar 0) anil))))
noncomputable def m_Z9 : MF := runB 1 b_Z9
noncomputable def b_Z2 : MS := (mret (mmaxLen (mcomp [none, some 0] (aslst (mvar 1)) (.nm 0) cyes (mix (bvar 1) (mvar 0))) (mlst (sized anil))))
noncomputable def m_Z2 : MF := runB 2 b_Z2
noncomputable def b_Z5_f0 : MS := (mseq (msetix 6 (mvar 10) (mlst (mcat (sized (acons (mvar 10) anil)) (aslst (mborL 8 (mcall m_Z2 (acons (mvar 8) (acons (mix (bvar 2) (mvar 10)) anil)))))))) (mseq (msetix 7 (mvar 10) (mlst (mcat (sized (acons (mvar 10) anil)) (aslst (mborL 9 (mcall m_Z2 (acons (mvar 9) (acons (mix (bvar 3) (mvar 10)) anil)))))))) (mseq (msetix 8 (mvar 10) (mmin2K (fun d => shOf (m_Z9 [d])) (acons (mix (bvar 6) (mvar 10)) (acons (mix (bvar 5) (mvar 10)) anil)))) (msetix 9 (mvar 10) (mmin2K (fun d => shOf (m_Z9 [d])) (acons (mix (bvar 7) (mvar 10)) (acons (mix (bvar 4) (mvar 10)) anil)))))))
noncomputable def b_Z5_r1 : MS := (mfreeze 6 (mfreeze 7 (mret (mtup (acons (mvar 6) (acons (mvar 7) anil))))))
noncomputable def b_Z5 : MS := (mseq (masg (.tp [2, 3]) (mvar 0)) (mseq (masg (.tp [4, 5]) (mvar 1)) (mseq (msetF 6 (mrep (sized (acons (mlst (sized anil)) anil)) (mlen (bvar 2)))) (mseq (msetF 7 (mrep (sized (acons (mlst (sized anil)) anil)) (mlen (bvar 2)))) (mseq (msetF 8 (mrep (sized (acons (mlst (sized anil)) anil)) (mlen (bvar 2)))) (mseq (msetF 9 (mrep (sized (acons (mlst (sized anil)) anil)) (mlen (bvar 2)))) (mseq (mfor (mlist rngD (acons (mlen (bvar 2)) anil)) (.nm 10) b_Z5_f0) b_Z5_r1)))))))
noncomputable def m_Z5 : MF := runB 11 b_Z5
noncomputable def b_Z17 : MS := (mret (mtup (acons (mlst (mrep (sized (acons (mlst (sized anil)) anil)) (mlen (bvar 0)))) (acons (mlst (mrep (sized (acons (mlst (sized anil)) anil)) (mlen (bvar 0)))) anil))))
noncomputable def m_Z17 : MF := runB 1 b_Z17
noncomputable def b_Z11 : MS := (mseq (masg (.tp [1, 2]) (mvar 0)) (mret (mminK (fun d => shOf (m_Z9 [d])) (aslst (m2 addD (mvar 1) (mvar 2))) (mlst (sized anil)))))
noncomputable def m_Z11 : MF := runB 3 b_Z11
noncomputable def b_Z10_f0 : MS := (msetix 3 (mvar 4) (m2 addD (mc (.int 1)) (mmaxE (mcompO [none, some 3] (aslst (m2 addD (mix (bvar 1) (mvar 4)) (mix (bvar 2) (mvar 4)))) (.nm 0) cyes (mix (bvar 1) (mvar 0))) (mc (.int 0)))))
noncomputable def b_Z10_r1 : MS := (mfreeze 3 (mret (mmaxE (bvar 3) (mc (.int 0)))))
noncomputable def b_Z10 : MS := (mseq (masg (.tp [1, 2]) (mvar 0)) (mseq (msetF 3 (mrep (sized (acons (mc (.int 0)) anil)) (mlen (bvar 1)))) (mseq (mfor (mlist rngD (acons (mlen (bvar 1)) anil)) (.nm 4) b_Z10_f0) b_Z10_r1)))
noncomputable def m_Z10 : MF := runB 5 b_Z10
noncomputable def b_Z3_f0 : MS := (mseq (mset 4 (mcall m_Z5 (acons (mvar 2) (acons (mvar 4) anil)))) (mapp 5 (mlen (aslst (mcall m_Z11 (acons (mvar 4) anil))))))
noncomputable def b_Z3 : MS := (mseq (mexpr (mcall m_Z13 (acons (mvar 1) anil))) (mseq (mset 2 (mcall m_Z12 (acons (mvar 0) (acons (mvar 1) anil)))) (mseq (mset 3 (mcall m_Z10 (acons (mvar 2) anil))) (mseq (mset 4 (mcall m_Z5 (acons (mvar 2) (acons (mcall m_Z17 (acons (mvar 0) anil)) anil)))) (mseq (msetF 5 (sized (acons (mlen (aslst (mcall m_Z11 (acons (mvar 4) anil)))) anil))) (mseq (whileD (mtest (m2 ltD (mix (bvar 5) (m1 negD (mc (.int 1)))) (mvar 3))) b_Z3_f0 1000) (mretO 5)))))))
noncomputable def m_Z3 : MF := runB 6 b_Z3
noncomputable def b_Z6_f0 : MS := (mif (mtest (m2 geD (mvar 4) (mvar 2))) (mretO 3) mnext)
noncomputable def b_Z6 : MS := (mseq (mexpr (mcall m_Z13 (acons (mvar 1) anil))) (mseq (mif (mtest (m2 ltD (mvar 2) (mc (.int 0)))) mnever mnext) (mseq (mfor (mlist enum1 (acons (mcall m_Z3 (acons (mvar 0) (acons (mvar 1) anil))) anil)) (.tp [3, 4]) b_Z6_f0) (mret (mc .non)))))
noncomputable def m_Z6 : MF := runB 5 b_Z6
noncomputable def b_Z15 : MS := (mseq (msetix 0 (mc (.int 1)) (m2 addD (mix (bvar 0) (mc (.int 1))) (mc (.int 1)))) (mseq (mset 2 (mix (bvar 0) (mc (.int 0)))) (mseq (mif (mtest (m2 geD (mvar 2) (m2 powD (mc (.int 10)) (mc (.int 18))))) (mseq (msetix 0 (mc (.int 0)) (m2 fdivD (mvar 2) (mvar 1))) (mretG 0 (mpu (m2 modD (mvar 2) (mvar 1))))) mnext) (mseq (mset 3 (m2 modD (m2 addD (m2 addD (m2 mulD (mvar 2) (mc (.int 69621))) (m2 mulD (mix (bvar 0) (mc (.int 1))) (mc (.int 7919)))) (mc (.int 13))) (mc (.int 2147483647)))) (mseq (mset 3 (m2 modD (m2 mulD (mvar 3) (mvar 3)) (mc (.int 2147483629)))) (mretG 0 (mpu (m2 modD (m2 fdivD (m2 modD (m2 addD (m2 mulD (mvar 3) (mc (.int 48271))) (m2 mulD (mix (bvar 0) (mc (.int 1))) (mc (.int 40692)))) (mc (.int 2147483587))) (mc (.int 8))) (mvar 1)))))))))
noncomputable def m_Z15 : MG := runG 4 b_Z15
noncomputable def m_law_pots : MFP := runP 1 (mtest (m2 eqSD (mlen (bvar 0)) (mc (.int 0)))) (mlst1 (sized (acons (mc (.int 0)) (acons (mc (.int 0)) anil)))) (mcompP [none] (aslst (mlst (mcut (bvar 0) onone (osome (mc (.int 63)))))) (.nm 0) (sized (acons (mvar 0) (acons (mc (.int 0)) anil))))
noncomputable def b_Z0 : MS := (mseq (mif (mtest (m2 eqSD (mvar 1) (mc (.int 0)))) (mretG 0 (mcallG m_Z15 0 (apu (acons (mc (.int 4)) anil)))) mnext) (mseq (mif (mtest (m2 eqSD (mvar 1) (mc (.int 1)))) (mretG 0 (m2m subD (mcallG m_Z15 0 (apu (acons (mc (.int 21)) anil))) (mpu (mc (.int 10))))) mnext) (mseq (mif (mtest (m2 eqSD (mvar 1) (mc (.int 2)))) (mretG 0 (m2m subD (mcallG m_Z15 0 (apu (acons (mc (.int 1001)) anil))) (mpu (mc (.int 500))))) mnext) (mretG 0 (m2m mulD (m2m ixLD (mpu (mlst (sized (acons (m1 negD (mc (.int 1))) (acons (mc (.int 1)) anil))))) (mcallG m_Z15 0 (apu (acons (mc (.int 2)) anil)))) (m2m addD (mpu (m2 powD (mc (.int 10)) (mc (.int 29)))) (mcallG m_Z15 0 (apu (acons (mc (.int 1000)) anil)))))))))
noncomputable def m_Z0 : MG := runG 2 b_Z0
noncomputable def b_Z8 : MS := (mseq (msetm 2 (mcallG m_Z15 0 (apu (acons (mc (.int 4)) anil)))) (mseq (msetm 3 (mcallG m_Z15 0 (aconsm (m2m ixLD (mpu (mlst (sized (acons (call1 min2F (acons (mc (.int 4)) (acons (m2 addD (mvar 1) (mc (.int 1))) anil))) (acons (call1 min2F (acons (mc (.int 9)) (acons (m2 addD (mvar 1) (mc (.int 1))) anil))) (acons (m2 addD (mvar 1) (mc (.int 1))) anil)))))) (mcallG m_Z15 0 (apu (acons (mc (.int 3)) anil)))) (apu anil)))) (mseq (msetm 4 (mcompmB [none, some 0, some 2] (mlist rng1 (acons (mvar 3) anil)) 0 1 (mcallG m_Z0 1 (apu (acons (mvar 2) anil))))) (mseq (msetm 5 (mcallG m_Z15 0 (apu (acons (mc (.int 6)) anil)))) (mseq (mif (mtest (m2 eqSD (mvar 5) (mc (.int 0)))) (mset 4 (mlst (msorted (bvar 4)))) mnext) (mseq (mif (mtest (m2 eqSD (mvar 5) (mc (.int 1)))) (mset 4 (mlst (mcomp [none, none] (mlist enum1 (acons (mvar 4) anil)) (.tp [0, 1]) cyes (m2 addD (mvar 1) (mix (sized (acons (mc (.int 7)) (acons (m1 negD (mc (.int 7))) anil))) (m2 modD (mvar 0) (mc (.int 2)))))))) mnext) (mseq (mif (mtest (m2 eqSD (mvar 5) (mc (.int 2)))) (mset 4 (mlst (mrep (mcut (bvar 4) onone (osome (mc (.int 1)))) (mvar 3)))) mnext) (mretG 0 (mpu (mvar 4))))))))))
noncomputable def m_Z8 : MG := runG 6 b_Z8
noncomputable def b_Z4 : MS := (mretG 0 (m2m ixLD (mlstm (aconsm (mpu (mc (.int 1))) (aconsm (mpu (mc (.int 1))) (aconsm (m2m addD (mpu (mc (.int 1))) (mcallG m_Z15 0 (apu (acons (mc (.int 4)) anil)))) (aconsm (m2m addD (mpu (mc (.int 1))) (mcallG m_Z15 0 (apu (acons (mc (.int 40)) anil)))) (apu (acons (m2 powD (mc (.int 10)) (mc (.int 29))) anil))))))) (mcallG m_Z15 0 (apu (acons (mc (.int 5)) anil)))))
noncomputable def m_Z4 : MG := runG 1 b_Z4
noncomputable def b_law_tables_f0 : MW := (mseqW (wS (mset 8 (call1 intF (acons (m2 ltD (mix (bvar 0) (mvar 7)) (mix (bvar 0) (mvar 6))) anil)))) (mifW (wE (mtest (m2 geD (call1 absF (acons (m2 subD (mix (bvar 0) (mvar 7)) (mix (bvar 0) (mvar 6))) anil)) (mvar 1)))) (mseqW (msetW 9 (lookE (mix (aslst (mix (bvar 5) (mvar 7))) (mvar 8)))) (mseqW (mifW (wE (mtest (m2 gtD (mvar 4) (mc (.int 0))))) (wS (mset 9 (call1 max2F (acons (mvar 9) (acons (mix (aslst (mix (aslst (mix (bvar 3) (m1 negD (mc (.int 1))))) (mvar 7))) (m2 subD (mc (.int 1)) (mvar 8))) anil))))) (wS mnext)) (msetR 5 (mvar 6) (mvar 8) (lookE (call1 max2F (acons (mix (aslst (mix (bvar 5) (mvar 6))) (mvar 8)) (acons (m2 addD (mc (.int 1)) (mvar 9)) anil))))))) (wS mnext)))
noncomputable def b_law_tables_f1 : MW := (mforW (mlist rng2 (acons (m2 addD (mvar 6) (mc (.int 1))) (acons (mlen (bvar 0)) anil))) (.nm 7) b_law_tables_f0)
noncomputable def b_law_tables_r2 : MW := (mfreezeR 5 (wS (mapp 3 (mvar 5))))
noncomputable def b_law_tables_r3 : MW := (mseqW (mforW (mlist rng3 (acons (m2 subD (mlen (bvar 0)) (mc (.int 1))) (acons (m1 negD (mc (.int 1))) (acons (m1 negD (mc (.int 1))) anil)))) (.nm 6) b_law_tables_f1) b_law_tables_r2)
noncomputable def b_law_tables_f4 : MW := (mnewR 5 (mcompP [none] (aslst (mvar 0)) (.nm 0) (sized (acons (mc (.int 1)) (acons (mc (.int 1)) anil)))) b_law_tables_r3)
noncomputable def b_law_tables_r5 : MW := (mretOW 3)
noncomputable def b_law_tables : MW := (mseqW (wS (msetF 3 (sized anil))) (mseqW (mforW (mlist rng1 (acons (m2 addD (mvar 2) (mc (.int 1))) anil)) (.nm 4) b_law_tables_f4) b_law_tables_r5))
noncomputable def m_law_tables : MF := plainW (runW 10 b_law_tables)
noncomputable def b_Z16 : MS := (mret (mmaxL (mcat (sized (acons (mc (.int 0)) anil)) (mcomp [none] (aslst (mvar 0)) (.nm 0) cyes (mmaxL (bvar 0))))))
noncomputable def m_Z16 : MF := runB 1 b_Z16
noncomputable def b_Z14 : MS := (mseq (mset 4 (mlst (mcomp [none, none, some 3] (mlist enum1 (acons (mvar 2) anil)) (.tp [0, 1]) (mtest (m2 geD (mvar 1) (mvar 2))) (mvar 0)))) (mseq (mset 5 (mcall m_Z6 (acons (mvar 0) (acons (mvar 1) (acons (mvar 3) anil))))) (mseq (mif (mtest (meqB false (bvar 4) (sized anil))) (mret (m2 (isND false) (mvar 5) (mc .non))) mnext) (mret (mand (misi "int" (mvar 5)) (mand (m1 notD (misi "bool" (mvar 5))) (m2 eqSD (mvar 5) (mix (bvar 4) (mc (.int 0))))))))))
noncomputable def m_Z14 : MF := runB 6 b_Z14
noncomputable def b_Z7_f0 : MS := (mseq (mif (mtest (m2 (inD false) (mvar 7) (mvar 3))) (mset 5 (m2 subD (mc (.int 0)) (mvar 5))) mnext) (mseq (msetm 4 (m2m addD (mpu (mvar 4)) (m2m mulD (mpu (mvar 5)) (mcallG m_Z15 0 (apu (acons (mc (.int 4)) anil)))))) (mappm 6 (m2m addD (mpu (mvar 4)) (mcallG m_Z15 0 (apu (acons (m2 addD (m2 fdivD (mvar 1) (mc (.int 2))) (mc (.int 1))) anil)))))))
noncomputable def b_Z7 : MS := (mseq (msetm 2 (m2m addD (mpu (mc (.int 100))) (mcallG m_Z15 0 (apu (acons (mc (.int 201)) anil))))) (mseq (msetm 3 (mcompmRB [none, some 0, some 2] (mlistm rng1 (aconsm (mcallG m_Z15 0 (apu (acons (mc (.int 8)) anil))) (apu anil))) 0 1 (mcallG m_Z15 1 (apu (acons (mvar 2) anil))))) (mseq (mset 4 (mc (.int 0))) (mseq (mset 5 (mc (.int 1))) (mseq (msetF 6 (sized anil)) (mseq (mfor (mlist rng1 (acons (mvar 2) anil)) (.nm 7) b_Z7_f0) (mretGO 0 6)))))))
noncomputable def m_Z7 : MG := runG 8 b_Z7
noncomputable def b_Z1 : MS := (mseq (msetm 1 (m2m addD (mpu (mc (.int 4))) (mcallG m_Z15 0 (apu (acons (mc (.int 9)) anil))))) (mseq (msetm 2 (mcallG m_Z7 0 (apu (acons (mvar 1) anil)))) (mseq (mset 3 (mlst (mcomp [none] (aslst (mcall m_law_tables (acons (mvar 2) (acons (mvar 1) (acons (mc (.int 9)) anil))))) (.nm 0) cyes (mcall m_Z16 (acons (mvar 0) anil))))) (mseq (msetm 4 (mlstm (aconsm (mpu (mix (bvar 3) (mc (.int 0)))) (aconsm (mpu (m2 addD (mix (bvar 3) (mc (.int 0))) (mc (.int 1)))) (aconsm (mpu (mix (bvar 3) (m1 negD (mc (.int 1))))) (aconsm (mpu (m2 addD (mix (bvar 3) (m1 negD (mc (.int 1)))) (mc (.int 1)))) (aconsm (mcallG m_Z15 0 (apu (acons (mlen (bvar 2)) anil))) (apu anil)))))))) (mretG 0 (mpu (meqB false (mcomp [none, some 2, some 1, some 3] (aslst (mvar 4)) (.nm 0) (cnot (mtru (mcall m_Z14 (acons (mvar 1) (acons (mvar 2) (acons (mvar 3) (acons (mvar 0) anil))))))) (mvar 0)) (sized anil))))))))
noncomputable def m_Z1 : MG := runG 5 b_Z1
noncomputable def b_Z18_f0 : MS := (mif (cor (cnot (mtru (mcall m_Z14 (acons (mvar 6) (acons (mvar 4) (acons (mvar 5) (acons (mvar 7) anil))))))) (mtest (meqB true (bvar 6) (bvar 3)))) (mret (mc (.bl false))) mnext)
noncomputable def b_Z18_f1 : MS := (mseq (mifm (candm (cpu (mtest (m2 eqSD (mvar 1) (mc (.int 0))))) (candm (mtestm (m2m eqSD (mcallG m_Z15 2 (apu (acons (mc (.int 4)) anil))) (mpu (mc (.int 0))))) (cnotm (mtestm (mcallG m_Z1 2 (apu anil)))))) (mret (mc (.bl false))) mnext) (mseq (msetm 3 (mcallG m_Z8 2 (apu (acons (mc (.int 25)) anil)))) (mseq (msetm 4 (mcallG m_Z4 2 (apu anil))) (mseq (mset 5 (mlst (mcomp [none] (aslst (mcall m_law_tables (acons (mvar 3) (acons (mvar 4) (acons (mlen (bvar 3)) anil))))) (.nm 0) cyes (mcall m_Z16 (acons (mvar 0) anil))))) (mseq (mset 6 (mlst (bvar 3))) (mfor (aslst (mlst (mcat (mlist lrng1 (acons (m2 addD (mix (bvar 5) (m1 negD (mc (.int 1)))) (mc (.int 3))) anil)) (sized (acons (m2 powD (mc (.int 10)) (mc (.int 29))) anil))))) (.nm 7) b_Z18_f0))))))
noncomputable def b_Z18 : MS := (mseq (mforPE (mcallP m_law_pots (acons (mlst (mcut (bvar 0) onone (osome (mc (.int 3))))) anil)) 1 2 b_Z18_f1) (mret (mc (.bl true))))
noncomputable def m_Z18 : MF := runB 8 b_Z18
end
end
section
theorem eqS_ii (i j : Int) : eqS (.int i) (.int j) = some (i == j) := rfl
theorem eqS_bb (i j : Bool) : eqS (.bl i) (.bl j) = some (i == j) := rfl
theorem eqS_ss (i j : Str) : eqS (.str i) (.str j) = some (i == j) := rfl
theorem eqS_nn : eqS .non .non = some true := rfl
theorem eqS_nb (j : Bool) : eqS .non (.bl j) = some false := rfl
theorem eqS_bn (j : Bool) : eqS (.bl j) .non = some false := rfl
theorem eqS_ni (j : Int) : eqS .non (.int j) = some false := rfl
theorem eqS_in (j : Int) : eqS (.int j) .non = some false := rfl
local macro_rules | `(tactic| simp_arith [$ls,*]) => `(tactic| simp (config := {decide := true, implicitDefEqProofs := false}) only [runB, startS, map_cons, map_nil, length_cons, length_nil, List.replicate, cons_append, nil_append, mvar, bvar, mc, mlst, aslst, m2, mtest, subD, mulD, fdivD, modD, powD, ltD, leD, gtD, geD, eqSD, neSD, eqS_ii, eqS_bb, eqS_ss, eqS_nn, eqS_nb, eqS_bn, eqS_ni, eqS_in, m1, negD, notD, mand, mtru, truD, cor, cnot, anil, acons, sized, mtup, mlen, mix, onone, osome, mcut, mcat, addD, call1, absF, max2F, min2F, two2, intF, mnext, mseq, mif, mnever, mset, msetF, mexpr, mret, mretO, mapp, msetix, mfreeze, masg, mlist, enum1, cyes, mcall, meqB, misi, tyD, int2, bl2, tgD, setAll, Option.bind_some, Option.map_some, Option.bind_none, Option.map_none, getElem?_cons_zero, getElem?_cons_succ, set_cons_zero, set_cons_succ, isEmpty_cons, isEmpty_nil, Bool.not_true, Bool.not_false, $ls,*])
noncomputable def stir (c k : Int) : Int := if 10 ^ 18 <= c then (c - 10 ^ 18) / 2 ^ (28 * k).toNat % 2 ^ 28 else
 (((c + 1013 * k + 1) * 16807 % 2147483647) * ((c + 1013 * k + 1) * 16807 % 2147483647) % 2147483629) * 39373 % 2147483587 / 8
theorem mulOk_r (i j : Int) (h1 : -(2 ^ 64) < j) (h2 : j < 2 ^ 64) : mulOk i j = true := by
 unfold mulOk; simp only [h1, h2, decide_true, Bool.and_self, Bool.or_true]
theorem mulOk_l (i j : Int) (h1 : -(2 ^ 64) < i) (h2 : i < 2 ^ 64) : mulOk i j = true := by
 unfold mulOk; simp only [h1, h2, decide_true, Bool.and_self, Bool.true_or]
theorem modOk_of (i j : Int) (h : 0 < j) : modOk i j = true := by unfold modOk; simp only [h, decide_true]
theorem seqI {x y : MS} {ρ ρ' : Ro} {o : Option Out} (h : x ρ = some (.nx ρ')) (h2 : y ρ' = o) : mseq x y ρ = o := by
 unfold mseq; rw [h]; exact h2
noncomputable def stepO {α : Type} (I : List α -> Ro -> Prop) (Q : Out -> Prop) (ds : List α) : Out -> Prop
 | .nx ρ => I ds ρ | .ct ρ => I ds ρ | .bk ρ => Q (.nx ρ) | .rt d => Q (.rt d) | .rf es => Q (.rf es) | .rp d es => Q (.rp d es) | .rg d p r => Q (.rg d p r) | .rgf d p r => Q (.rgf d p r)
theorem forD_post {α : Type} {g : Tg} {body : MS} {f : α -> D} (I : List α -> Ro -> Prop) (Q : Out -> Prop)
  (hs : ∀ d ds ρ, I (d :: ds) ρ -> ∃ ρ1 o, tgD g (f d) ρ = some ρ1 /\ body ρ1 = some o /\ stepO I Q ds o) (hd : ∀ ρ, I [] ρ -> Q (.nx ρ)) :
  ∀ (ds : List α) (ρ : Ro), I ds ρ -> ∃ o, forD g body (ds.map f) ρ = some o /\ Q o
 | [], ρ, h => ⟨.nx ρ, rfl, hd ρ h⟩
 | d :: ds, ρ, h => by
  obtain ⟨ρ1, o, h1, h2, h3⟩ := hs d ds ρ h
  rw [map_cons]
  unfold forD
  rw [h1]
  simp only [h2]
  cases o with
  | nx ρ2 => exact forD_post I Q hs hd ds ρ2 h3
  | ct ρ2 => exact forD_post I Q hs hd ds ρ2 h3
  | bk ρ2 => exact ⟨_, rfl, h3⟩
  | rt d => exact ⟨_, rfl, h3⟩
  | rf d => exact ⟨_, rfl, h3⟩
  | rp d es => exact ⟨_, rfl, h3⟩
  | rg d p r => exact ⟨_, rfl, h3⟩
  | rgf d p r => exact ⟨_, rfl, h3⟩
theorem compD_map {α : Type} {g : Tg} {c : MB} {elt : ME} {f : α -> D} {G : α -> D} (I : List α -> Ro -> Prop)
  (hs : ∀ d ds ρ, I (d :: ds) ρ -> ∃ ρ1, tgD g (f d) ρ = some ρ1 /\ c ρ1 = some true /\ elt ρ1 = some (G d) /\ I ds ρ1) :
  ∀ (ds : List α) (ρ : Ro) (acc : List D), I ds ρ -> acc.length + ds.length <= sizeLine -> compD g c elt (ds.map f) ρ acc = some (acc ++ ds.map G)
 | [], ρ, acc, h, hl => by simp [compD]
 | d :: ds, ρ, acc, h, hl => by
  obtain ⟨ρ1, h1, h2, h3, h4⟩ := hs d ds ρ h
  rw [map_cons]
  unfold compD
  rw [h1]
  simp only [h2, h3]
  rw [length_cons] at hl
  rw [if_pos (by omega), compD_map I hs ds ρ1 _ h4 (by simp; omega)]
  simp
noncomputable def cutI {α : Type} (xs : List α) (lo hi : Option Int) : List α := (xs.drop (HT.sIx xs.length 0 lo)).take (HT.sIx xs.length xs.length hi - HT.sIx xs.length 0 lo)
theorem cutL_map {α : Type} (f : α -> D) (xs : List α) (lo hi : Option Int) : cutL (xs.map f) lo hi = (cutI xs lo hi).map f := by
 unfold cutL cutI; rw [length_map, <- map_drop, <- map_take]
theorem cutI_to {α : Type} (xs : List α) (k : Nat) : cutI xs none (some (k : Int)) = xs.take k := by
 unfold cutI
 rw [HT.sIx_nat, HT.sIx_none]
 simp
theorem atI_map {α : Type} (f : α -> D) (xs : List α) (k : Int) (h0 : 0 <= k) (h1 : k < xs.length) (dflt : α) : atI (xs.map f) k = some (f (xs.getD k.toNat dflt)) := by
 unfold atI ixN
 rw [length_map, if_pos h0, if_pos h1]
 have hl : k.toNat < xs.length := by omega
 simp [getElem?_map, hl]
theorem atI_last {α : Type} (f : α -> D) (xs : List α) (x : α) : atI ((xs ++ [x]).map f) (-1) = some (f x) := by
 unfold atI ixN
 rw [length_map, if_neg (by decide), if_pos (by simp; omega)]
 have e : (-1 + ((xs ++ [x]).length : Int)).toNat = xs.length := by simp; omega
 rw [e]
 simp
theorem runB_rt {n : Nat} {m : MS} {ds : List D} {d : D} (h : m (startS n ds) = some (.rt d)) : runB n m ds = some (.sh d) := by unfold runB; rw [h]
theorem runB_rf {n : Nat} {m : MS} {ds : List D} {d : List D} (h : m (startS n ds) = some (.rf d)) : runB n m ds = some (.fr d) := by unfold runB; rw [h]
noncomputable def after (rest : MS) : Out -> Option Out
 | .nx ρ => rest ρ | .bk ρ => some (.bk ρ) | .ct ρ => some (.ct ρ) | .rt d => some (.rt d) | .rf d => some (.rf d) | .rp d es => some (.rp d es) | .rg d p r => some (.rg d p r) | .rgf d p r => some (.rgf d p r)
theorem seq_after {x y : MS} {ρ : Ro} {o : Out} (h : x ρ = some o) : mseq x y ρ = after y o := by
 unfold mseq; rw [h]; cases o <;> rfl
theorem min_if (i j : Int) : (if j < i then j else i) = min i j := by omega
theorem size_big : 1000000 <= sizeLine := by rw [show sizeLine = 2 ^ 24 from rfl]; decide
theorem le_size {n : Nat} (h : n <= 1000000) : n <= sizeLine := Nat.le_trans h size_big
theorem range_cons (j n : Nat) (h : j < n) : List.range' j (n - j) = j :: List.range' (j + 1) (n - (j + 1)) := by
 have : n - j = (n - (j + 1)) + 1 := by omega
 rw [this, range'_succ]
theorem mod_cases {x n : Int} (hn : 0 < n) : 0 <= x % n /\ x % n < n := ⟨Int.emod_nonneg _ (by omega), Int.emod_lt_of_pos _ hn⟩
def Run (m : MS) (ρ : Ro) (R : Out -> Prop) : Prop := ∃ o, m ρ = some o /\ R o
noncomputable def afterR (rest : MS) (R : Out -> Prop) : Out -> Prop
 | .nx ρ => Run rest ρ R | .bk ρ => R (.bk ρ) | .ct ρ => R (.ct ρ) | .rt d => R (.rt d) | .rf d => R (.rf d) | .rp d es => R (.rp d es) | .rg d p r => R (.rg d p r) | .rgf d p r => R (.rgf d p r)
theorem run_seq {x y : MS} {ρ ρ' : Ro} {R : Out -> Prop} (h : x ρ = some (.nx ρ')) (h2 : Run y ρ' R) : Run (mseq x y) ρ R := by
 obtain ⟨o, e, r⟩ := h2
 exact ⟨o, seqI h e, r⟩
theorem run_mseq {x y : MS} {ρ : Ro} {R : Out -> Prop} (h : Run x ρ (afterR y R)) : Run (mseq x y) ρ R := by
 obtain ⟨o, e, r⟩ := h
 cases o with
 | nx ρ' => exact run_seq e r
 | bk ρ' => exact ⟨_, seq_after e, r⟩
 | ct ρ' => exact ⟨_, seq_after e, r⟩
 | rt d => exact ⟨_, seq_after e, r⟩
 | rf d => exact ⟨_, seq_after e, r⟩
 | rp d es => exact ⟨_, seq_after e, r⟩
 | rg d p' r' => exact ⟨_, seq_after e, r⟩
 | rgf d p' r' => exact ⟨_, seq_after e, r⟩
theorem run_for {α : Type} {mi : ML} {g : Tg} {body : MS} {ρ : Ro} {f : α -> D} (ds : List α) (hi : mi ρ = some (ds.map f)) (I : List α -> Ro -> Prop) (Q : Out -> Prop) (h0 : I ds ρ)
  (hs : ∀ d ds ρ, I (d :: ds) ρ -> ∃ ρ1, tgD g (f d) ρ = some ρ1 /\ Run body ρ1 (stepO I Q ds)) (hd : ∀ ρ, I [] ρ -> Q (.nx ρ)) : Run (mfor mi g body) ρ Q := by
 obtain ⟨o, e, q⟩ := forD_post (g := g) (body := body) I Q (fun d ds ρ h => by obtain ⟨ρ1, a, o, b, c⟩ := hs d ds ρ h; exact ⟨ρ1, o, a, b, c⟩) hd ds ρ h0
 exact ⟨o, by unfold mfor; rw [hi]; exact e, q⟩
theorem run_forN {mi : ML} {g : Tg} {body : MS} {ρ : Ro} {f : Nat -> D} (n : Nat) (hi : mi ρ = some ((List.range n).map f)) (I : Nat -> Ro -> Prop) (Q : Out -> Prop) (h0 : I 0 ρ)
  (hs : ∀ j ρ, j < n -> I j ρ -> ∃ ρ1, tgD g (f j) ρ = some ρ1 /\ Run body ρ1 (stepO (fun (_ : List Unit) ρ => I (j + 1) ρ) Q [])) (hd : ∀ ρ, I n ρ -> Q (.nx ρ)) : Run (mfor mi g body) ρ Q := by
 refine run_for (List.range n) hi (I := fun ks ρ => ∃ j, j <= n /\ ks = List.range' j (n - j) /\ I j ρ) (Q := Q) ⟨0, by omega, by rw [range_eq_range']; rfl, h0⟩ ?_ ?_
 ·rintro d ds ρ ⟨j, hj, e, h⟩
  have hlt : j < n := by
   rcases Nat.lt_or_ge j n with z | z
   ·exact z
   ·rw [show n - j = 0 by omega] at e; cases e
  rw [range_cons j n hlt] at e
  obtain ⟨e1, e2⟩ := List.cons.inj e
  subst e1
  obtain ⟨ρ1, a1, o, a2, a3⟩ := hs d ρ hlt h
  refine ⟨ρ1, a1, o, a2, ?_⟩
  cases o with
  | nx r => exact ⟨d + 1, by omega, e2, a3⟩
  | ct r => exact ⟨d + 1, by omega, e2, a3⟩
  | bk r => exact a3
  | rt r => exact a3
  | rf r => exact a3
  | rp r r2 => exact a3
  | rg r r2 r3 => exact a3
  | rgf r r2 r3 => exact a3
 ·rintro ρ ⟨j, hj, e, h⟩
  have : n - j = 0 := by
   rcases Nat.eq_zero_or_pos (n - j) with z | z
   ·exact z
   ·rw [range_cons j n (by omega)] at e; cases e
  have : j = n := by omega
  subst this
  exact hd ρ h
theorem run_freeze {i : Nat} {m : MS} {ρ : Ro} {ds : List D} {R : Out -> Prop} (h : ρ[i]? = some (some (.own ds))) (h2 : Run m (ρ.set i (some (.sh (.lst ds)))) R) : Run (mfreeze i m) ρ R := by
 obtain ⟨o, e, r⟩ := h2
 exact ⟨o, by unfold mfreeze; rw [h]; exact e, r⟩
theorem run_if {c : MB} {x y : MS} {ρ : Ro} {R : Out -> Prop} {b : Bool} (h : c ρ = some b) (h2 : Run (if b then x else y) ρ R) : Run (mif c x y) ρ R := by
 obtain ⟨o, e, r⟩ := h2
 refine ⟨o, ?_, r⟩
 unfold mif; rw [h]
 cases b <;> exact e
theorem run_next {ρ : Ro} {R : Out -> Prop} (h : R (.nx ρ)) : Run mnext ρ R := ⟨_, rfl, h⟩
theorem nat_of {x : Int} (h : 0 <= x) : ∃ n : Nat, x = n := ⟨x.toNat, by omega⟩
theorem mand_bl {x y : ME} {ρ : Ro} {a b : Bool} (h1 : x ρ = some (.bl a)) (h2 : y ρ = some (.bl b)) : mand x y ρ = some (.bl (a && b)) := by
 unfold mand; rw [h1]; cases a <;> simp [h2]
theorem rangeD_map (lo : Int) (n : Nat) : rangeD lo n = (List.range n).map fun (i : Nat) => D.int (lo + (i : Int)) := rfl
theorem rangeD_li (n : Nat) : rangeD 0 n = ((List.range n).map fun (i : Nat) => (i : Int)).map .int := by
 rw [rangeD_map, map_map]
 apply map_congr_left
 intro i _
 simp
theorem okR_of {j : Int} (h1 : -(2 ^ 62) <= j) (h2 : j < 2 ^ 62) : okR j = true := by unfold okR; simp only [h1, h2, decide_true, Bool.and_self]
theorem rng1_ok {j : Int} (h : okR j = true) : rng1 [.int j] = some (rangeD 0 j.toNat) := by
 unfold rng1
 simp only [h, if_true]
theorem rng2_ok {i j : Int} (h : okR i = true) (h2 : okR j = true) : rng2 [.int i, .int j] = some (rangeD i (j - i).toNat) := by
 unfold rng2
 simp only [h, h2, Bool.and_self, if_true]
theorem lrng1_ok {n : Nat} (h : n <= 1000000) : lrng1 [.int n] = some (((List.range n).map fun (i : Nat) => (i : Int)).map .int) := by
 have h1 : okR (n : Int) = true := okR_of (by omega) (by omega)
 have h2 : (decide ((n : Int).toNat <= 2 ^ 24)) = true := decide_eq_true (by rw [Int.toNat_natCast]; exact Nat.le_trans h (by decide))
 unfold lrng1
 simp only [h1, h2, Bool.and_self, if_true]
 rw [Int.toNat_natCast, rangeD_li]
theorem run_retO {i : Nat} {ρ : Ro} {ds : List D} {R : Out -> Prop} (h : ρ[i]? = some (some (.own ds))) (h2 : R (.rf ds)) : Run (mretO i) ρ R := ⟨_, by unfold mretO; rw [h], h2⟩
theorem fdivOk_of (i j : Int) (h : 0 < j) (h2 : j < 1073741824) : fdivOk i j = true := by unfold fdivOk; simp only [h, h2, decide_true, Bool.and_self]
theorem enumL_map : ∀ (row : List Int) (k : Nat), enumL k (row.map .int) = (List.range row.length).map fun (i : Nat) => D.tup [.int ((k + i : Nat) : Int), .int (row.getD i 0)]
 | [], k => rfl
 | x :: row, k => by
  rw [map_cons, enumL, enumL_map row (k + 1), length_cons, range_succ_eq_map, map_cons, map_map]
  congr 1
  apply map_congr_left
  intro i _
  simp only [Function.comp, Nat.succ_eq_add_one, getD_cons_succ]
  rw [show k + 1 + i = k + (i + 1) by omega]
theorem eq_nilF (ds : List D) : eqFD false (.lst ds) (.lst []) = some (.bl ds.isEmpty) := by
 unfold eqFD eqF
 cases ds with
 | nil => rfl
 | cons d ds => rfl
theorem eq_nilT (ds : List D) : eqFD true (.lst ds) (.lst []) = some (.bl (!ds.isEmpty)) := by
 unfold eqFD eqF
 cases ds with
 | nil => rfl
 | cons d ds => rfl
theorem cutI_len {α : Type} (xs : List α) (lo hi : Option Int) : (cutI xs lo hi).length <= xs.length := by
 unfold cutI; rw [length_take, length_drop]; omega
theorem ixN_in {n : Nat} {k : Int} (h0 : 0 <= k) (h1 : k < n) : ixN n k = some k.toNat := by unfold ixN; rw [if_pos h0, if_pos h1]
theorem zipE_int (n : Nat) : ∀ xs : List Int, zipE (eqF (n + 1)) (xs.map .int) (xs.map .int) = some true
 | [] => rfl
 | x :: xs => by
  rw [map_cons, zipE, zipE_int n xs]
  show (some (x == x)).bind _ = _
  rw [beq_self_eq_true]; rfl
theorem eqF_li (n : Nat) (xs : List Int) : eqF (n + 2) (.lst (xs.map .int)) (.lst (xs.map .int)) = some true := by
 show (if _ = _ then zipE (eqF (n + 1)) (xs.map .int) (xs.map .int) else some false) = _
 rw [if_pos rfl, zipE_int]
theorem runB_run {n : Nat} {m : MS} {ds : List D} {d : D} (h : Run m (startS n ds) (fun o => o = .rt d)) : runB n m ds = some (.sh d) := by
 obtain ⟨o, e, rfl⟩ := h
 exact runB_rt e
theorem mcall_fr {f : MF} {m : ML} {ρ : Ro} {ds es : List D} (h : m ρ = some ds) (h2 : f ds = some (.fr es)) : mcall f m ρ = some (.lst es) := by
 unfold mcall; rw [h]; show (match f ds with | some (.sh d) => some d | some (.fr es) => some (D.lst es) | some (.pr d es) => some (.tup [d, .lst es]) | none => none) = _; rw [h2]
theorem mcall_sh {f : MF} {m : ML} {ρ : Ro} {ds : List D} {d : D} (h : m ρ = some ds) (h2 : f ds = some (.sh d)) : mcall f m ρ = some d := by
 unfold mcall; rw [h]; show (match f ds with | some (.sh d) => some d | some (.fr es) => some (D.lst es) | some (.pr d es) => some (.tup [d, .lst es]) | none => none) = _; rw [h2]
theorem acons_ev {x : ME} {r : ML} {ρ : Ro} {d : D} {ds : List D} (h : x ρ = some d) (h2 : r ρ = some ds) : acons x r ρ = some (d :: ds) := by
 unfold acons; rw [h, h2]; rfl
theorem anil_ev {ρ : Ro} : anil ρ = some [] := rfl
theorem at_nat (row : List Int) (i : Nat) (h : i < row.length) : atI (row.map D.int) (i : Int) = some (.int (row.getD i 0)) := by
 have := atI_map D.int row (i : Int) (by omega) (by omega) 0
 rw [Int.toNat_natCast] at this
 exact this
theorem mmaxL_ev {m : ML} {ρ : Ro} {x : Int} {r : List Int} (h : m ρ = some ((x :: r).map .int)) : mmaxL m ρ = some (.int (maxI (x :: r))) := by
 unfold mmaxL; rw [h]; simp only [intsD_map]
theorem tlt_ev {x y : ME} {ρ : Ro} {i j : Int} (h1 : x ρ = some (.int i)) (h2 : y ρ = some (.int j)) : mtest (m2 ltD x y) ρ = some (decide (i < j)) := by
 unfold mtest m2; rw [h1, h2]; rfl
theorem compD_filter {α : Type} {g : Tg} {c : MB} {elt : ME} {f : α -> D} {p : α -> Bool} {G : α -> D} (I : List α -> Ro -> Prop)
  (hs : ∀ d ds ρ, I (d :: ds) ρ -> ∃ ρ1, tgD g (f d) ρ = some ρ1 /\ c ρ1 = some (p d) /\ (p d = true -> elt ρ1 = some (G d)) /\ I ds ρ1) :
  ∀ (ds : List α) (ρ : Ro) (acc : List D), I ds ρ -> acc.length + ds.length <= sizeLine -> compD g c elt (ds.map f) ρ acc = some (acc ++ (ds.filter p).map G)
 | [], ρ, acc, h, hl => by simp [compD]
 | d :: ds, ρ, acc, h, hl => by
  obtain ⟨ρ1, h1, h2, h3, h4⟩ := hs d ds ρ h
  rw [length_cons] at hl
  rw [map_cons]
  unfold compD
  rw [h1]
  simp only [h2]
  cases hp : p d with
  | false =>
   simp only
   rw [compD_filter I hs ds ρ1 acc h4 (by omega), filter_cons, hp]
   rfl
  | true =>
   simp only [h3 hp]
   rw [if_pos (by omega), compD_filter I hs ds ρ1 _ h4 (by simp; omega), filter_cons, hp]
   simp
theorem empty_iff {α β : Type} (xs : List α) (f : α -> β) : (xs.map f).isEmpty = xs.isEmpty := by cases xs <;> rfl
theorem cor_ev {x y : MB} {ρ : Ro} {a b : Bool} (h1 : x ρ = some a) (h2 : y ρ = some b) : cor x y ρ = some (a || b) := by
 unfold cor; rw [h1]; cases a <;> simp [h2]
theorem mset_ev {i : Nat} {x : ME} {ρ : Ro} {d : D} (h : x ρ = some d) : mset i x ρ = some (.nx (ρ.set i (some (.sh d)))) := by unfold mset; rw [h]; rfl
theorem mlst_ev {m : ML} {ρ : Ro} {ds : List D} (h : m ρ = some ds) : mlst m ρ = some (.lst ds) := by unfold mlst; rw [h]; rfl
theorem sized_ev {m : ML} {ρ : Ro} {ds : List D} (h : m ρ = some ds) (hz : ds.length <= sizeLine) : sized m ρ = some ds := by
 unfold sized; rw [h]; show (if ds.length <= sizeLine then some ds else none) = _; rw [if_pos hz]
theorem mix_ev {m : ML} {i : ME} {ρ : Ro} {ds : List D} {k : Int} {d : D} (h1 : m ρ = some ds) (h2 : i ρ = some (.int k)) (h3 : atI ds k = some d) : mix m i ρ = some d := by
 unfold mix; rw [h1, h2]; exact h3
theorem eqB_nilD {m : ML} {ρ : Ro} {ds : List D} (h : m ρ = some ds) (neg : Bool) : meqB neg m (sized anil) ρ = some (.bl (if neg then !ds.isEmpty else ds.isEmpty)) := by
 have i0 : 0 <= sizeLine := Nat.zero_le _
 have e : sized anil ρ = some [] := by simp_arith [i0, if_true]
 unfold meqB
 rw [h, e]
 cases neg
 ·simp only [Option.bind_some, eq_nilF]; rfl
 ·simp only [Option.bind_some, eq_nilT]; rfl
theorem aslst_ev {m : ME} {ρ : Ro} {ds : List D} (h : m ρ = some (.lst ds)) : aslst m ρ = some ds := by unfold aslst; rw [h]
theorem mcat_ev {x y : ML} {ρ : Ro} {ds es : List D} (h1 : x ρ = some ds) (h2 : y ρ = some es) (hz : ds.length + es.length <= sizeLine) : mcat x y ρ = some (ds ++ es) := by
 unfold mcat; rw [h1, h2]; show (if ds.length + es.length <= sizeLine then some (ds ++ es) else none) = _; rw [if_pos hz]
theorem mtup_ev {m : ML} {ρ : Ro} {ds : List D} (h : m ρ = some ds) (hz : ds.length <= sizeLine) : mtup m ρ = some (.tup ds) := by
 unfold mtup; rw [sized_ev h hz]; rfl
theorem mret_ev {x : ME} {ρ : Ro} {d : D} (h : x ρ = some d) : mret x ρ = some (.rt d) := by unfold mret; rw [h]; rfl
theorem ks_ii : kitB "int" "int" = some true := by decide +kernel
theorem ks_ib : kitB "int" "bool" = some false := by decide +kernel
section
open PySem L2
theorem mif_ev {c : MB} {x y : MS} {ρ : Ro} {b : Bool} (h : c ρ = some b) : mif c x y ρ = (if b then x else y) ρ := by unfold mif; rw [h]; cases b <;> rfl
theorem mexpr_ev {x : ME} {ρ : Ro} {d : D} (h : x ρ = some d) : mexpr x ρ = some (.nx ρ) := by unfold mexpr; rw [h]; rfl
theorem tI_ev {x : ME} {ρ : Ro} {i k : Int} (h : x ρ = some (.int i)) : mtest (m2 eqSD x (mc (.int k))) ρ = some (i == k) := by unfold mtest m2 mc; rw [h]; rfl
theorem tLt_ev {x y : ME} {ρ : Ro} {i k : Int} (h : x ρ = some (.int i)) (h2 : y ρ = some (.int k)) : mtest (m2 ltD x y) ρ = some (decide (i < k)) := by unfold mtest m2; rw [h, h2]; rfl
end
section
open PySem L2
noncomputable def lx : List Nat -> List Nat -> Bool
 | [], [] => false
 | [], _ :: _ => true
 | _ :: _, [] => false
 | a :: l, b :: m => decide (a < b) || (a == b && lx l m)
noncomputable def ahead (l m : List Nat) : Bool := decide (m.length < l.length) || (l.length == m.length && lx l m)
theorem lx_irr : ∀ l, lx l l = false
 | [] => rfl
 | a :: l => by unfold lx; simp [lx_irr l]
theorem lx_trans : ∀ {a b c : List Nat}, lx a b = true -> lx b c = true -> lx a c = true
 | [], [], _, h, _ => by cases h
 | [], _ :: _, [], _, h => by cases h
 | [], _ :: _, _ :: _, _, _ => rfl
 | _ :: _, [], _, h, _ => by cases h
 | _ :: _, _ :: _, [], _, h => by cases h
 | a :: l, b :: m, c :: k, h1, h2 => by
  unfold lx at *
  simp only [Bool.or_eq_true, Bool.and_eq_true, decide_eq_true_eq, beq_iff_eq] at *
  rcases h1 with h1 | ⟨rfl, h1⟩ <;> rcases h2 with h2 | ⟨rfl, h2⟩
  ·exact .inl (by omega)
  ·exact .inl h1
  ·exact .inl h2
  ·exact .inr ⟨rfl, lx_trans h1 h2⟩
theorem lx_tri : ∀ (a b : List Nat), a = b \/ lx a b = true \/ lx b a = true
 | [], [] => .inl rfl
 | [], _ :: _ => .inr (.inl rfl)
 | _ :: _, [] => .inr (.inr rfl)
 | a :: l, b :: m => by
  unfold lx
  simp only [Bool.or_eq_true, Bool.and_eq_true, decide_eq_true_eq, beq_iff_eq]
  rcases Nat.lt_trichotomy a b with h | h | h
  ·exact .inr (.inl (.inl h))
  ·subst h
   rcases lx_tri l m with h | h | h
   ·exact .inl (by rw [h])
   ·exact .inr (.inl (.inr ⟨rfl, h⟩))
   ·exact .inr (.inr (.inr ⟨rfl, h⟩))
  ·exact .inr (.inr (.inl h))
theorem ahead_iff (l m : List Nat) : ahead l m = true ↔ m.length < l.length \/ (l.length = m.length /\ lx l m = true) := by
 unfold ahead
 simp only [Bool.or_eq_true, Bool.and_eq_true, decide_eq_true_eq, beq_iff_eq]
theorem ahead_trans {a b c : List Nat} (h1 : ahead a b = true) (h2 : ahead b c = true) : ahead a c = true := by
 rw [ahead_iff] at *
 rcases h1 with h1 | ⟨h1, h1'⟩ <;> rcases h2 with h2 | ⟨h2, h2'⟩
 ·exact .inl (by omega)
 ·exact .inl (by omega)
 ·exact .inl (by omega)
 ·exact .inr ⟨by omega, lx_trans h1' h2'⟩
theorem ahead_tri (a b : List Nat) : a = b \/ ahead a b = true \/ ahead b a = true := by
 rw [ahead_iff, ahead_iff]
 rcases Nat.lt_trichotomy a.length b.length with h | h | h
 ·exact .inr (.inr (.inl h))
 ·rcases lx_tri a b with z | z | z
  ·exact .inl z
  ·exact .inr (.inl (.inr ⟨h, z⟩))
  ·exact .inr (.inr (.inr ⟨h.symm, z⟩))
 ·exact .inr (.inl (.inl h))
theorem ahead_irr (a : List Nat) : ahead a a = false := by
 unfold ahead; simp [lx_irr]
theorem ahead_cons (p : Nat) (a b : List Nat) : ahead (p :: a) (p :: b) = ahead a b := by
 unfold ahead
 simp [lx]
def Best (P : List Nat -> Prop) (l : List Nat) : Prop := P l /\ ∀ m, P m -> ahead m l = false
theorem Best.unique {P : List Nat -> Prop} {l m : List Nat} (a : Best P l) (b : Best P m) : l = m := by
 rcases ahead_tri l m with h | h | h
 ·exact h
 ·have := b.2 l a.1; rw [h] at this; cases this
 ·have := a.2 m b.1; rw [h] at this; cases this
theorem Best.iff {P Q : List Nat -> Prop} {l : List Nat} (a : Best P l) (h : ∀ m, P m ↔ Q m) : Best Q l := ⟨(h l).mp a.1, fun m hm => a.2 m ((h m).mpr hm)⟩
theorem Best.len {P : List Nat -> Prop} {l : List Nat} (a : Best P l) (m : List Nat) (h : P m) : m.length <= l.length := by
 have := a.2 m h
 rcases Nat.lt_or_ge l.length m.length with z | z
 ·rw [(ahead_iff m l).mpr (.inl z)] at this; cases this
 ·exact z
def far (s : Int) (d : Bool) (a b : Int) : Prop := if d then s <= b - a else s <= a - b
noncomputable instance (s : Int) (d : Bool) (a b : Int) : Decidable (far s d a b) := by unfold far; exact inferInstance
def Hd (p : Nat) (l : List Nat) : Prop := ∃ m, l = p :: m
variable {x : Nat -> Int} {n : Nat} {s : Int}
end
section
open PySem L2
noncomputable def Sd (x : Nat -> Int) (n : Nat) (s : Int) : List Nat -> Nat -> Bool -> Prop
 | [], _, _ => False
 | [p], _, _ => p < n
 | p :: q :: l, t, d => p < q /\ far s d (x p) (x q) /\ (Sd x n s (q :: l) t d \/ ∃ u, t = u + 1 /\ Sd x n s (q :: l) u (!d))
variable {x : Nat -> Int} {n : Nat} {s : Int}
theorem Sd.lt : ∀ {l : List Nat} {p t : Nat} {d : Bool}, Sd x n s (p :: l) t d -> p < n
 | [], _, _, _, h => h
 | q :: l, p, t, d, h => by
  rcases h.2.2 with z | ⟨u, _, z⟩
  ·exact Nat.lt_trans h.1 z.lt
  ·exact Nat.lt_trans h.1 z.lt
theorem Sd.mono : ∀ {l : List Nat} {t u : Nat} {d : Bool}, Sd x n s l t d -> t <= u -> Sd x n s l u d
 | [], _, _, _, h, _ => h
 | [p], _, _, _, h, _ => h
 | p :: q :: l, t, u, d, h, hu => by
  refine ⟨h.1, h.2.1, ?_⟩
  rcases h.2.2 with z | ⟨v, e, z⟩
  ·exact .inl (z.mono hu)
  ·exact .inr ⟨u - 1, by omega, z.mono (by omega)⟩
theorem Sd.len : ∀ {l : List Nat} {p t : Nat} {d : Bool}, Sd x n s (p :: l) t d -> l.length + p < n
 | [], p, _, _, h => by have h : p < n := h; simpa using h
 | q :: l, p, t, d, h => by
  have h1 := h.1
  have : l.length + q < n := by
   rcases h.2.2 with z | ⟨u, _, z⟩
   ·exact z.len
   ·exact z.len
  simp; omega
theorem Sd.enough : ∀ {l : List Nat} {t : Nat} {d : Bool}, Sd x n s l t d -> Sd x n s l l.length d
 | [], _, _, h => h
 | [p], _, _, h => h
 | p :: q :: l, t, d, h => by
  refine ⟨h.1, h.2.1, ?_⟩
  rcases h.2.2 with z | ⟨v, e, z⟩
  ·exact .inl (z.enough.mono (by simp))
  ·exact .inr ⟨(q :: l).length, rfl, z.enough⟩
def FS (x : Nat -> Int) (n : Nat) (s : Int) (t : Nat) (d : Bool) (p : Nat) (l : List Nat) : Prop := Sd x n s l t d /\ Hd p l
def FR (x : Nat -> Int) (n : Nat) (s : Int) (t : Nat) (d : Bool) (p : Nat) (l : List Nat) : Prop := (Sd x n s l t d \/ ∃ u, t = u + 1 /\ Sd x n s l u (!d)) /\ Hd p l
theorem ahead_nil (l : List Nat) (h : l ≠ []) : ahead [] l = false := by
 cases l with
 | nil => exact absurd rfl h
 | cons a l =>
  cases e : ahead [] (a :: l) with
  | false => rfl
  | true =>
   rw [ahead_iff] at e
   simp only [length_nil, length_cons] at e
   omega
theorem ahead_false {a b : List Nat} : ahead a b = false ↔ a = b \/ ahead b a = true := by
 constructor
 ·intro h
  rcases ahead_tri a b with z | z | z
  ·exact .inl z
  ·rw [h] at z; cases z
  ·exact .inr z
 ·rintro (z | z)
  ·rw [z]; exact ahead_irr _
  ·cases e : ahead a b with
   | false => rfl
   | true => have := ahead_trans e z; rw [ahead_irr] at this; cases this
theorem ahead_ff {a b c : List Nat} (h1 : ahead a b = false) (h2 : ahead b c = false) : ahead a c = false := by
 rw [ahead_false] at *
 rcases h1 with rfl | h1
 ·exact h2
 ·rcases h2 with rfl | h2
  ·exact .inr h1
  ·exact .inr (ahead_trans h2 h1)
theorem best_two {P Q R : List Nat -> Prop} {a b c : List Nat} (ha : Best P a) (hb : Best Q b) (hc : c = if ahead b a = true then b else a) (hR : ∀ l, R l ↔ P l \/ Q l) : Best R c := by
 subst hc
 cases h : ahead b a with
 | true =>
  simp only [if_true]
  exact ⟨(hR _).mpr (.inr hb.1), fun m hm => by
   rcases (hR m).mp hm with z | z
   ·exact ahead_ff (ha.2 m z) (ahead_false.mpr (.inr h))
   ·exact hb.2 m z⟩
 | false =>
  simp only [Bool.false_eq_true, if_false]
  exact ⟨(hR _).mpr (.inl ha.1), fun m hm => by
   rcases (hR m).mp hm with z | z
   ·exact ha.2 m z
   ·exact ahead_ff (hb.2 m z) h⟩
noncomputable def fl : List (List Nat) -> List Nat -> List Nat
 | [], b => b
 | m :: ls, b => if b.length < m.length then fl ls m else fl ls b
theorem fl_best : ∀ (ls : List (List Nat)) (b : List Nat), (b :: ls).Pairwise (fun a c => lx a c = true) -> fl ls b ∈ b :: ls /\ ∀ m ∈ b :: ls, ahead m (fl ls b) = false
 | [], b, _ => ⟨by simp [fl], by simp [fl, ahead_irr]⟩
 | m :: ls, b, h => by
  have hp := List.pairwise_cons.mp h
  unfold fl
  by_cases hl : b.length < m.length
  ·rw [if_pos hl]
   obtain ⟨h1, h2⟩ := fl_best ls m hp.2
   refine ⟨mem_cons_of_mem _ h1, fun k hk => ?_⟩
   rcases List.mem_cons.mp hk with rfl | hk
   ·exact ahead_ff (ahead_false.mpr (.inr ((ahead_iff m k).mpr (.inl hl)))) (h2 m (by simp))
   ·exact h2 k hk
  ·rw [if_neg hl]
   have hs : (b :: ls).Pairwise (fun a c => lx a c = true) := List.pairwise_cons.mpr ⟨fun c hc => hp.1 c (by simp [hc]), (List.pairwise_cons.mp hp.2).2⟩
   obtain ⟨h1, h2⟩ := fl_best ls b hs
   refine ⟨?_, fun k hk => ?_⟩
   ·rcases List.mem_cons.mp h1 with z | z
    ·rw [z]; simp
    ·simp [z]
   ·rcases List.mem_cons.mp hk with rfl | hk
    ·exact h2 k (by simp)
    ·rcases List.mem_cons.mp hk with rfl | hk
     ·refine ahead_ff (b := b) ?_ (h2 b (by simp))
      refine ahead_false.mpr (.inr ((ahead_iff b k).mpr ?_))
      rcases Nat.lt_or_ge k.length b.length with z | z
      ·exact .inl z
      ·exact .inr ⟨by omega, hp.1 k (by simp)⟩
     ·exact h2 k (by simp [hk])
noncomputable def flD : List (List Nat) -> List Nat
 | [] => []
 | m :: ls => fl ls m
theorem lx_heads {a b : Nat} {l m : List Nat} (h : a < b) : lx (a :: l) (b :: m) = true := by
 unfold lx; simp [h]
theorem best_step {t : Nat} {d : Bool} {p : Nat} {qs : List Nat} {R : Nat -> List Nat} (hp : p < n) (hq : ∀ q, q ∈ qs ↔ p < q /\ q < n /\ far s d (x p) (x q)) (hr : qs.Pairwise (· < ·)) (hR : ∀ q ∈ qs, Best (FR x n s t d q) (R q)) :
  Best (FS x n s t d p) (p :: flD (qs.map R)) := by
 have hd : ∀ q ∈ qs, ∃ m, R q = q :: m := fun q h => (hR q h).1.2
 cases qs with
 | nil =>
  refine ⟨⟨hp, [], rfl⟩, ?_⟩
  rintro m ⟨h1, k, rfl⟩
  cases k with
  | nil => exact ahead_irr _
  | cons q k =>
   exfalso
   have hlt : q < n := by
    rcases h1.2.2 with z | ⟨u, _, z⟩
    ·exact z.lt
    ·exact z.lt
   have := (hq q).mpr ⟨h1.1, hlt, h1.2.1⟩
   cases this
 | cons q0 qs =>
  have pw : ((q0 :: qs).map R).Pairwise (fun a c => lx a c = true) := by
   rw [pairwise_map]
   refine hr.imp_of_mem fun {a b} ha hb hab => ?_
   obtain ⟨m1, e1⟩ := hd a ha
   obtain ⟨m2, e2⟩ := hd b hb
   rw [e1, e2]
   exact lx_heads hab
  obtain ⟨h1, h2⟩ := fl_best (qs.map R) (R q0) (by simpa using pw)
  have h1 : flD ((q0 :: qs).map R) ∈ (q0 :: qs).map R := by simpa [flD] using h1
  have h2 : ∀ m ∈ (q0 :: qs).map R, ahead m (flD ((q0 :: qs).map R)) = false := by simpa [flD] using h2
  obtain ⟨q, hqm, e⟩ := List.mem_map.mp h1
  have hb := hR q hqm
  obtain ⟨m, em⟩ := hd q hqm
  obtain ⟨a1, a2, a3⟩ := (hq q).mp hqm
  rw [<- e]
  rw [<- e] at h2
  refine ⟨⟨?_, _, rfl⟩, ?_⟩
  ·rw [em]
   refine ⟨a1, a3, ?_⟩
   rw [<- em]
   exact hb.1.1
  ·rintro k ⟨g1, g2, rfl⟩
   cases g2 with
   | nil =>
    refine ahead_false.mpr (.inr ((ahead_iff _ _).mpr (.inl ?_)))
    rw [em]; simp
   | cons r g2 =>
    rw [ahead_cons]
    have hlt : r < n := by
     rcases g1.2.2 with z | ⟨u, _, z⟩
     ·exact z.lt
     ·exact z.lt
    have hrm := (hq r).mpr ⟨g1.1, hlt, g1.2.1⟩
    exact ahead_ff ((hR r hrm).2 (r :: g2) ⟨g1.2.2, _, rfl⟩) (h2 _ (List.mem_map.mpr ⟨r, hrm, rfl⟩))
def Tn (x : Nat -> Int) (n : Nat) (s : Int) (t : Nat) (l : List Nat) : Prop := l = [] \/ ∃ d, Sd x n s l t d
theorem Tn.mono {t u : Nat} {l : List Nat} (h : Tn x n s t l) (hu : t <= u) : Tn x n s u l := h.imp id fun ⟨d, z⟩ => ⟨d, z.mono hu⟩
theorem Tn.all {t : Nat} {l : List Nat} (h : Tn x n s t l) : Tn x n s n l := by
 rcases h with h | ⟨d, h⟩
 ·exact .inl h
 ·refine .inr ⟨d, h.enough.mono ?_⟩
  cases l with
  | nil => simp
  | cons p l => have := h.len; simp; omega
theorem Tn.len {t : Nat} {l : List Nat} (h : Tn x n s t l) : l.length <= n := by
 rcases h with rfl | ⟨d, h⟩
 ·simp
 ·cases l with
  | nil => simp
  | cons p l => have := h.len; simp; omega
theorem best_turns {t : Nat} {l : List Nat} {ls : List (List Nat)} (hm : l ∈ ls) (hmin : ∀ m ∈ ls, ahead m l = false) (hw : ∀ m ∈ ls, Tn x n s t m) (hall : ∀ d p, p < n -> ∃ m ∈ ls, Best (FS x n s t d p) m) (hn : l ≠ []) : Best (Tn x n s t) l := by
 refine ⟨hw l hm, fun m h => ?_⟩
 rcases h with rfl | ⟨d, h⟩
 ·exact ahead_nil l hn
 ·cases m with
  | nil => exact h.elim
  | cons p m =>
   obtain ⟨k, hk, hb⟩ := hall d p h.lt
   exact ahead_ff (hb.2 _ ⟨h, _, rfl⟩) (hmin k hk)
theorem best_turns0 {t : Nat} (hn : n = 0) : Best (Tn x n s t) [] := by
 refine ⟨.inl rfl, fun m h => ?_⟩
 rcases h with rfl | ⟨d, h⟩
 ·rfl
 ·cases m with
  | nil => exact h.elim
  | cons p m => have := h.lt; omega
end
section
open PySem L2
noncomputable def dN (p : Nat) : D := .int (p : Int)
noncomputable def L (l : List Nat) : D := .lst (l.map dN)
noncomputable def Ky (l : List Nat) : D := .tup [.int (-(l.length : Int)), L l]
theorem eqF_nn (k : Nat) (a b : Nat) : eqF (k + 1) (dN a) (dN b) = some (a == b) := by
 show some ((a : Int) == (b : Int)) = _
 congr 1
 rw [Bool.eq_iff_iff, beq_iff_eq, beq_iff_eq]
 omega
theorem zipE_nn (k : Nat) : ∀ (l m : List Nat), l.length = m.length -> zipE (eqF (k + 1)) (l.map dN) (m.map dN) = some (l == m)
 | [], [], _ => rfl
 | [], _ :: _, h => by cases h
 | _ :: _, [], h => by cases h
 | a :: l, b :: m, h => by
  rw [map_cons, map_cons, zipE, eqF_nn, zipE_nn k l m (by simpa using h)]
  rfl
theorem lexF_nn (k : Nat) : ∀ (l m : List Nat), lexF (eqF (k + 1)) (ltF (k + 1)) (l.map dN) (m.map dN) = some (lx l m)
 | [], [] => rfl
 | [], _ :: _ => rfl
 | _ :: _, [] => rfl
 | a :: l, b :: m => by
  rw [map_cons, map_cons, lexF, eqF_nn]
  unfold lx
  by_cases h : a = b
  ·subst h
   simp only [beq_self_eq_true, Nat.lt_irrefl, decide_false, Bool.true_and, Bool.false_or]
   exact lexF_nn k l m
  ·have e : (a == b) = false := by simpa using h
   rw [e]
   simp only [Bool.false_and, Bool.or_false]
   show some (decide ((a : Int) < (b : Int))) = _
   congr 1
   apply decide_eq_decide.mpr
   omega
theorem lt_key (l m : List Nat) : ltF 8 (Ky l) (Ky m) = some (ahead l m) := by
 show lexF (eqF 7) (ltF 7) [.int (-(l.length : Int)), L l] [.int (-(m.length : Int)), L m] = _
 rw [lexF, show eqF 7 (.int (-(l.length : Int))) (.int (-(m.length : Int))) = some (-(l.length : Int) == -(m.length : Int)) from rfl]
 unfold ahead
 by_cases h : l.length = m.length
 ·rw [h]
  simp only [beq_self_eq_true, Nat.lt_irrefl, decide_false, Bool.true_and, Bool.false_or]
  have e : eqF 7 (L l) (L m) = some (l == m) := by
   show (if (l.map dN).length = (m.map dN).length then zipE (eqF 6) (l.map dN) (m.map dN) else some false) = _
   rw [if_pos (by simpa using h), zipE_nn 5 l m h]
  rw [lexF, e]
  by_cases hq : l = m
  ·subst hq
   simp only [beq_self_eq_true]
   rw [lx_irr]; rfl
  ·have e2 : (l == m) = false := by simpa using hq
   rw [e2]
   exact lexF_nn 5 l m
 ·have e : (-(l.length : Int) == -(m.length : Int)) = false := by
   rw [beq_eq_false_iff_ne]; omega
  have e2 : (l.length == m.length) = false := by simpa using h
  rw [e, e2]
  simp only [Bool.false_and, Bool.or_false]
  show some (decide (-(l.length : Int) < -(m.length : Int))) = _
  congr 1
  apply decide_eq_decide.mpr
  omega
theorem min_list {mk : D -> Option D} (hk : ∀ l, mk (L l) = some (Ky l)) : ∀ (ls : List (List Nat)) (b : List Nat), ∃ r, minF mk (ls.map L) (L b) (Ky b) = some (L r) /\ r ∈ b :: ls /\ ∀ m ∈ b :: ls, ahead m r = false
 | [], b => ⟨b, rfl, by simp, by simp [ahead_irr]⟩
 | m :: ls, b => by
  rw [map_cons]
  unfold minF
  rw [hk m]
  simp only [lt_key m b]
  cases h : ahead m b with
  | true =>
   obtain ⟨r, e, h1, h2⟩ := min_list hk ls m
   refine ⟨r, e, mem_cons_of_mem _ h1, fun k hk' => ?_⟩
   rcases List.mem_cons.mp hk' with rfl | hk'
   ·cases z : ahead k r with
    | false => rfl
    | true => have := h2 m (by simp); rw [ahead_trans h z] at this; cases this
   ·exact h2 k hk'
  | false =>
   obtain ⟨r, e, h1, h2⟩ := min_list hk ls b
   refine ⟨r, e, ?_, fun k hk' => ?_⟩
   ·rcases List.mem_cons.mp h1 with h1 | h1
    ·simp [h1]
    ·simp [h1]
   ·have hb := h2 b (by simp)
    rcases List.mem_cons.mp hk' with rfl | hk'
    ·exact hb
    ·rcases List.mem_cons.mp hk' with rfl | hk'
     ·cases z : ahead k r with
      | false => rfl
      | true =>
       rcases ahead_tri k b with w | w | w
       ·rw [w, hb] at z; cases z
       ·rw [h] at w; cases w
       ·rw [ahead_trans w z] at hb; cases hb
     ·exact h2 k (mem_cons_of_mem _ hk')
noncomputable abbrev xr (row : List Int) : Nat -> Int := fun i => row.getD i 0
theorem tge_ev {x y : ME} {ρ : Ro} {i j : Int} (h1 : x ρ = some (.int i)) (h2 : y ρ = some (.int j)) : mtest (m2 geD x y) ρ = some (decide (j <= i)) := by
 unfold mtest m2; rw [h1, h2]; rfl
theorem mlen_ev {m : ML} {ρ : Ro} {ds : List D} (h : m ρ = some ds) : mlen m ρ = some (.int ds.length) := by unfold mlen; rw [h]; rfl
theorem at_L (U : List (List Nat)) (p : Nat) (h : p < U.length) : atI (U.map L) (p : Int) = some (L (U.getD p [])) := by
 have := atI_map L U (p : Int) (by omega) (by omega) []
 rw [Int.toNat_natCast] at this
 exact this
theorem ixN_nat (n p : Nat) (h : p < n) : ixN n (p : Int) = some p := by
 unfold ixN
 rw [if_pos (by omega), if_pos (by omega), Int.toNat_natCast]
theorem getD_set_ne (U : List (List Nat)) (p q : Nat) (l : List Nat) (h : p ≠ q) : (U.set p l).getD q [] = U.getD q [] := by
 rw [getD_eq_getElem?_getD, getD_eq_getElem?_getD, getElem?_set_ne h]
theorem getD_set_eq (U : List (List Nat)) (p : Nat) (l : List Nat) (h : p < U.length) : (U.set p l).getD p [] = l := by
 rw [getD_eq_getElem?_getD, getElem?_set_self h]; rfl
theorem key_eq (l : List Nat) : m_Z9 [L l] = some (.sh (Ky l)) := by
 unfold m_Z9 b_Z9
 have i2 : 0 + 1 + 1 <= sizeLine := le_size (by decide)
 refine runB_rt ?_
 unfold L
 simp_arith [i2, if_true, length_map]
 rfl
theorem mem_getD {U : List (List Nat)} {m : List Nat} (h : m ∈ U) : ∃ q, q < U.length /\ m = U.getD q [] := by
 obtain ⟨q, hq, e⟩ := getElem_of_mem h
 exact ⟨q, hq, by rw [getD_eq_getElem?_getD, getElem?_eq_getElem hq, <- e]; rfl⟩
theorem getD_mem {U : List (List Nat)} {q : Nat} (h : q < U.length) : U.getD q [] ∈ U := by
 rw [getD_eq_getElem?_getD, getElem?_eq_getElem h]; exact getElem_mem h
theorem refuse_step_eq (step : Int) (h : 1 <= step) : m_Z13 [.int step] = some (.sh .non) := by
 have : ¬ step < 1 := by omega
 unfold m_Z13 b_Z13
 simp_arith [this, decide_false]
theorem m2_at2 {f : D -> D -> Option D} {x y : ME} {ρ : Ro} {a b : D} (h1 : x ρ = some a) (h2 : y ρ = some b) : m2 f x y ρ = f a b := by
 unfold m2; rw [h1, h2]; rfl
theorem map_succ {α : Type} (f : Nat -> α) (j : Nat) : (List.range (j + 1)).map f = (List.range j).map f ++ [f j] := by
 rw [range_succ, map_append]; rfl
noncomputable def abv (row : List Int) (s : Int) (d : Bool) (p : Nat) : List Nat := ((List.range (row.length - (p + 1))).map fun j => p + 1 + j).filter fun q => decide (far s d (xr row p) (xr row q))
theorem abv_mem {row : List Int} {s : Int} {d : Bool} {p q : Nat} : q ∈ abv row s d p ↔ p < q /\ q < row.length /\ far s d (xr row p) (xr row q) := by
 unfold abv
 rw [mem_filter, mem_map, decide_eq_true_eq]
 constructor
 ·rintro ⟨⟨j, hj, rfl⟩, h⟩
  have := List.mem_range.mp hj
  exact ⟨by omega, by omega, h⟩
 ·rintro ⟨h1, h2, h3⟩
  exact ⟨⟨q - (p + 1), List.mem_range.mpr (by omega), by omega⟩, h3⟩
theorem abv_len (row : List Int) (s : Int) (d : Bool) (p : Nat) : (abv row s d p).length <= row.length := by
 unfold abv
 refine Nat.le_trans (length_filter_le _ _) ?_
 rw [length_map, length_range]; omega
noncomputable def envS2 (row : List Int) (s : Int) (A B : List (List Nat)) (o4 o5 : Option S) : Ro := [some (.sh (.lst (row.map .int))), some (.sh (.int s)), some (.own (A.map L)), some (.own (B.map L)), o4, o5]
theorem rng_from (row : List Int) (p : Nat) (hr : row.length <= 300) (hp : p < row.length) : rangeD ((p : Int) + 1) ((row.length : Int) - ((p : Int) + 1)).toNat = ((List.range (row.length - (p + 1))).map fun j => p + 1 + j).map dN := by
 rw [rangeD_map, show ((row.length : Int) - ((p : Int) + 1)).toNat = row.length - (p + 1) by omega, map_map]
 apply map_congr_left
 intro i _
 show D.int _ = D.int _
 congr 1
theorem abv_comp (row : List Int) (s : Int) (d : Bool) (p : Nat) (hr : row.length <= 300) (hp : p < row.length) (A B : List (List Nat)) (test : MB)
  (ht : ∀ q : Nat, q < row.length -> test [some (.sh (dN q)), some (.sh (.int s)), some (.sh (.int (xr row p))), some (.sh (.lst (row.map .int)))] = some (decide (far s d (xr row p) (xr row q)))) :
  mcomp [none, some 1, some 5, some 0] (mlist rng2 (acons (m2 addD (mvar 4) (mc (.int 1))) (acons (mlen (bvar 0)) anil))) (.nm 0) test (mvar 0) (envS2 row s A B (some (.sh (.int (p : Int)))) (some (.sh (.int (xr row p))))) = some ((abv row s d p).map dN) := by
 have k1 : okR ((p : Int) + 1) = true := okR_of (by omega) (by omega)
 have k2 : okR (row.length : Int) = true := okR_of (by omega) (by omega)
 have e1 : mlist rng2 (acons (m2 addD (mvar 4) (mc (.int 1))) (acons (mlen (bvar 0)) anil)) (envS2 row s A B (some (.sh (.int (p : Int)))) (some (.sh (.int (xr row p))))) = some (((List.range (row.length - (p + 1))).map fun j => p + 1 + j).map dN) := by
  unfold envS2
  simp_arith [length_map, rng2_ok k1 k2, rng_from row p hr hp]
 unfold mcomp
 rw [e1, Option.bind_some]
 show compD _ _ _ _ [none, some (.sh (.int s)), some (.sh (.int (xr row p))), some (.sh (.lst (row.map .int)))] [] = _
 rw [compD_filter (f := dN) (p := fun q => decide (far s d (xr row p) (xr row q))) (G := dN) (fun qs ρ => (∀ q ∈ qs, q < row.length) /\ ∃ o, ρ = [o, some (.sh (.int s)), some (.sh (.int (xr row p))), some (.sh (.lst (row.map .int)))])
  (by
   rintro q qs ρ ⟨hq, o, rfl⟩
   exact ⟨_, rfl, ht q (hq q (by simp)), fun _ => rfl, fun r hr => hq r (by simp [hr]), _, rfl⟩) _ _ [] ⟨fun q hq => by
    obtain ⟨j, hj, rfl⟩ := List.mem_map.mp hq
    have := List.mem_range.mp hj
    omega, _, rfl⟩ (le_size (by simp; omega)), nil_append]
 rfl
theorem later_steps_eq (row : List Int) (s : Int) (hr : row.length <= 300) : m_Z12 [.lst (row.map .int), .int s] = some (.sh (.tup [.lst (((List.range row.length).map (abv row s true)).map L), .lst (((List.range row.length).map (abv row s false)).map L)])) := by
 unfold m_Z12 b_Z12
 refine runB_run ?_
 have big := size_big
 have i0 : 0 <= sizeLine := Nat.zero_le _
 have i2 : 2 <= sizeLine := le_size (by decide)
 refine run_seq (ρ' := [some (.sh (.lst (row.map .int))), some (.sh (.int s)), some (.own []), none, none, none]) (by unfold msetF; rw [sized_ev anil_ev i0]; rfl) ?_
 refine run_seq (ρ' := envS2 row s [] [] none none) (by unfold msetF; rw [sized_ev anil_ev i0]; rfl) ?_
 have ee : mlist enum1 (acons (mvar 0) anil) (envS2 row s [] [] none none) = some ((List.range row.length).map fun (i : Nat) => D.tup [.int (i : Int), .int (xr row i)]) := by
  unfold mlist
  rw [acons_ev (x := mvar 0) (d := .lst (row.map .int)) rfl anil_ev, Option.bind_some]
  show some (enumL 0 (row.map .int)) = _
  rw [enumL_map]
  congr 1
  apply map_congr_left
  intro i _
  rw [Nat.zero_add]
 refine run_mseq (run_forN row.length (f := fun (i : Nat) => D.tup [.int (i : Int), .int (xr row i)]) ee
  (I := fun j ρ => ∃ o4 o5, ρ = envS2 row s ((List.range j).map (abv row s true)) ((List.range j).map (abv row s false)) o4 o5) _ ⟨_, _, rfl⟩ ?_ ?_)
 ·rintro j ρ hj ⟨o4, o5, rfl⟩
  refine ⟨envS2 row s ((List.range j).map (abv row s true)) ((List.range j).map (abv row s false)) (some (.sh (.int (j : Int)))) (some (.sh (.int (xr row j)))), rfl, ?_⟩
  unfold b_Z12_f0
  have aj : ∀ q : Nat, q < row.length -> mix (bvar 3) (mvar 0) [some (.sh (dN q)), some (.sh (.int s)), some (.sh (.int (xr row j))), some (.sh (.lst (row.map .int)))] = some (.int (xr row q)) := fun q hq => mix_ev rfl rfl (at_nat row q hq)
  have c1 := abv_comp row s true j hr hj ((List.range j).map (abv row s true)) ((List.range j).map (abv row s false)) (mtest (m2 geD (m2 subD (mix (bvar 3) (mvar 0)) (mvar 2)) (mvar 1))) (fun q hq => by
   rw [tge_ev ((m2_at2 (aj q hq) rfl).trans (show subD (.int (xr row q)) (.int (xr row j)) = some (.int (xr row q - xr row j)) from rfl)) rfl]
   unfold far; simp)
  have c2 := abv_comp row s false j hr hj ((List.range (j + 1)).map (abv row s true)) ((List.range j).map (abv row s false)) (mtest (m2 geD (m2 subD (mvar 2) (mix (bvar 3) (mvar 0))) (mvar 1))) (fun q hq => by
   rw [tge_ev ((m2_at2 (show mvar 2 _ = some (.int (xr row j)) from rfl) (aj q hq)).trans (show subD (.int (xr row j)) (.int (xr row q)) = some (.int (xr row j - xr row q)) from rfl)) rfl]
   unfold far; simp)
  have app : ∀ (ρ : Ro) (i : Nat) (M : List (List Nat)) (m : ML) (l : List Nat), ρ[i]? = some (some (.own (M.map L))) -> m ρ = some (l.map dN) -> M.length < sizeLine -> mapp i (mlst m) ρ = some (.nx (ρ.set i (some (.own ((M ++ [l]).map L))))) := by
   intro ρ i M m l h1 h2 h3
   unfold mapp
   rw [h1, mlst_ev h2]
   show (some (D.lst (l.map dN))).bind (fun d => if (M.map L).length < sizeLine then some (Out.nx (ρ.set i (some (.own (M.map L ++ [d]))))) else none) = _
   rw [Option.bind_some, if_pos (by rw [length_map]; exact h3), map_append]
   rfl
  refine run_seq (ρ' := envS2 row s ((List.range (j + 1)).map (abv row s true)) ((List.range j).map (abv row s false)) (some (.sh (.int (j : Int)))) (some (.sh (.int (xr row j))))) ?_ ?_
  ·rw [app _ 2 _ _ _ rfl c1 (by simp; omega), <- map_succ]
   rfl
  ·refine ⟨_, app _ 3 _ _ _ rfl c2 (by simp; omega), ?_⟩
   rw [<- map_succ]
   exact ⟨_, _, rfl⟩
 ·rintro ρ ⟨o4, o5, rfl⟩
  unfold b_Z12_r1
  refine run_freeze (ds := ((List.range row.length).map (abv row s false)).map L) rfl (run_freeze (ds := ((List.range row.length).map (abv row s true)).map L) rfl ⟨_, mret_ev (mtup_ev (acons_ev (d := .lst (((List.range row.length).map (abv row s true)).map L)) rfl (acons_ev (d := .lst (((List.range row.length).map (abv row s false)).map L)) rfl anil_ev)) i2), rfl⟩)
end
section
open PySem L2
theorem rngD_ok {j : Int} (h : okR j = true) : rngD [.int j] = some (downD j.toNat) := by
 unfold rngD
 simp only [h, if_true]
theorem maxF_fl : ∀ (ls : List (List Nat)) (b : List Nat), maxF (ls.map L) (L b) (.int (b.length : Int)) = some (L (fl ls b))
 | [], b => rfl
 | m :: ls, b => by
  rw [map_cons]
  unfold maxF
  have e : lenKey (L m) = some (.int (m.length : Int)) := by
   show some (D.int ((m.map dN).length : Int)) = _
   rw [length_map]
  rw [e]
  show (match some (decide ((m.length : Int) > (b.length : Int))) with | some true => _ | some false => _ | none => _) = _
  unfold fl
  by_cases h : b.length < m.length
  ·rw [if_pos h, decide_eq_true (by omega)]
   exact maxF_fl ls m
  ·rw [if_neg h, decide_eq_false (by omega)]
   exact maxF_fl ls b
theorem maxD_fl (ls : List (List Nat)) : maxD (ls.map L) (.lst []) = some (L (flD ls)) := by
 cases ls with
 | nil => rfl
 | cons m ls =>
  show (match lenKey (L m) with | some kd => maxF (ls.map L) (L m) kd | none => none) = _
  have e : lenKey (L m) = some (.int (m.length : Int)) := by
   show some (D.int ((m.map dN).length : Int)) = _
   rw [length_map]
  rw [e]
  exact maxF_fl ls m
theorem longest_behind_eq (R : List (List Nat)) (qs : List Nat) (hl : qs.length <= 1000) (hq : ∀ q ∈ qs, q < R.length) : m_Z2 [.lst (R.map L), .lst (qs.map dN)] = some (.sh (L (flD (qs.map fun q => R.getD q [])))) := by
 unfold m_Z2 b_Z2
 refine runB_rt ?_
 have e1 : mcomp [none, some 0] (aslst (mvar 1)) (.nm 0) cyes (mix (bvar 1) (mvar 0)) (startS 2 [.lst (R.map L), .lst (qs.map dN)]) = some ((qs.map fun q => R.getD q []).map L) := by
  unfold mcomp
  rw [aslst_ev (m := mvar 1) (ds := qs.map dN) rfl, Option.bind_some]
  refine (compD_map (f := dN) (G := fun q => L (R.getD q [])) (fun ks ρ => (∀ q ∈ ks, q < R.length) /\ ∃ o, ρ = [o, some (.sh (.lst (R.map L)))]) (by
   rintro q ks ρ ⟨h, o, rfl⟩
   exact ⟨[some (.sh (dN q)), some (.sh (.lst (R.map L)))], rfl, rfl, mix_ev (m := bvar 1) rfl rfl (at_L R q (h q (by simp))), fun r hr => h r (by simp [hr]), _, rfl⟩) qs _ [] ⟨hq, none, rfl⟩ (le_size (by simp; omega))).trans ?_
  rw [nil_append, map_map]
  rfl
 unfold mret
 rw [mmaxLen_ev e1 (mlst_ev (sized_ev anil_ev (Nat.zero_le _))), maxD_fl]
 rfl
theorem borL_ev {i : Nat} {m : ME} {ρ : Ro} {ds : List D} {d : D} (h : ρ[i]? = some (some (.own ds))) (h2 : m (ρ.set i (some (.sh (.lst ds)))) = some d) (h3 : tellL ds d = true) : mborL i m ρ = some d := by
 unfold mborL
 rw [h]
 simp only [h2, h3, if_true]
theorem nums_dN (l : List Nat) : numsD (l.map dN) = true := by
 induction l with
 | nil => rfl
 | cons a l ih => exact ih
theorem tell_L (R : List (List Nat)) (l : List Nat) (h : R ≠ []) : tellL (R.map L) (L l) = true := by
 cases R with
 | nil => exact absurd rfl h
 | cons a R =>
  show (numsD (l.map dN) && true) = true
  rw [nums_dN]; rfl
theorem setL_ev {i : Nat} {ix v : ME} {ρ : Ro} {A : List (List Nat)} {l : List Nat} {p : Nat} (h : ρ[i]? = some (some (.own (A.map L)))) (hi : ix ρ = some (.int (p : Int))) (hv : v ρ = some (L l)) (hp : p < A.length) : msetix i ix v ρ = some (.nx (ρ.set i (some (.own ((A.set p l).map L))))) := by
 unfold msetix
 rw [hv, h, hi]
 show ((ixN (A.map L).length (p : Int)).map fun j => Out.nx (ρ.set i (some (.own ((A.map L).set j (L l)))))) = _
 rw [length_map, ixN_nat _ _ hp]
 show some (Out.nx _) = _
 rw [map_set]
theorem ek (l : List Nat) : shOf (m_Z9 [L l]) = some (Ky l) := by rw [key_eq]; rfl
theorem min2_L {x y : ME} {ρ : Ro} {a b : List Nat} (h1 : x ρ = some (L a)) (h2 : y ρ = some (L b)) : mmin2K (fun d => shOf (m_Z9 [d])) (acons x (acons y anil)) ρ = some (L (if ahead b a = true then b else a)) := by
 rw [mmin2K_ev (acons_ev h1 (acons_ev h2 anil_ev))]
 show (match shOf (m_Z9 [L a]) with | some kd => minF _ [L b] (L a) kd | none => none) = _
 rw [ek a]
 show minF (fun d => shOf (m_Z9 [d])) [L b] (L a) (Ky a) = _
 unfold minF
 simp only [ek b, lt_key b a]
 cases ahead b a <;> simp [minF]
noncomputable abbrev RI (r : List Int) : D := .lst (r.map .int)
noncomputable def Ab (row : List Int) (s : Int) (d : Bool) : List (List Nat) := (List.range row.length).map (abv row s d)
noncomputable abbrev SP (row : List Int) (s : Int) : D := .tup [.lst ((Ab row s true).map L), .lst ((Ab row s false).map L)]
theorem Ab_len (row : List Int) (s : Int) (d : Bool) : (Ab row s d).length = row.length := by unfold Ab; simp
theorem Ab_get (row : List Int) (s : Int) (d : Bool) (p : Nat) (h : p < row.length) : (Ab row s d).getD p [] = abv row s d p := by
 unfold Ab
 rw [getD_eq_getElem?_getD, getElem?_map, getElem?_range h]; rfl
theorem abv_rise (row : List Int) (s : Int) (d : Bool) (p : Nat) : (abv row s d p).Pairwise (· < ·) := by
 unfold abv
 refine List.Pairwise.filter _ ?_
 rw [pairwise_map]
 exact (pairwise_lt_range).imp fun h => by omega
abbrev BS (row : List Int) (s : Int) (t : Nat) (d : Bool) (p : Nat) : List Nat -> Prop := Best (FS (xr row) row.length s t d p)
abbrev BR (row : List Int) (s : Int) (t : Nat) (d : Bool) (p : Nat) : List Nat -> Prop := Best (FR (xr row) row.length s t d p)
theorem BS.len {row : List Int} {s : Int} {t : Nat} {d : Bool} {p : Nat} {l : List Nat} (h : BS row s t d p l) : l.length <= row.length := by
 obtain ⟨a, m, rfl⟩ := h.1
 have := a.len
 simp; omega
def Few (row : List Int) (s : Int) (t : Nat) (U V : List (List Nat)) : Prop := U.length = row.length /\ V.length = row.length /\ ∀ q, q < row.length -> (t = 0 /\ U.getD q [] = [] /\ V.getD q [] = []) \/ ∃ u, t = u + 1 /\ BS row s u true q (U.getD q []) /\ BS row s u false q (V.getD q [])
theorem join_best {row : List Int} {s : Int} {t : Nat} {d : Bool} {q : Nat} {a b : List Nat} (ha : BS row s t d q a) (hb : (t = 0 /\ b = []) \/ ∃ u, t = u + 1 /\ BS row s u (!d) q b) : BR row s t d q (if ahead b a = true then b else a) := by
 rcases hb with ⟨ht, rfl⟩ | ⟨u, ht, hb⟩
 ·have hne : a ≠ [] := by
   obtain ⟨_, m, e⟩ := ha.1
   rw [e]; simp
  rw [ahead_nil a hne]
  simp only [Bool.false_eq_true, if_false]
  refine ha.iff fun m => ⟨fun h => ⟨.inl h.1, h.2⟩, fun h => ⟨?_, h.2⟩⟩
  rcases h.1 with z | ⟨u, e, _⟩
  ·exact z
  ·omega
 ·refine best_two ha hb rfl fun l => ?_
  constructor
  ·rintro ⟨z | ⟨v, e, z⟩, hd⟩
   ·exact .inl ⟨z, hd⟩
   ·have : v = u := by omega
    subst this
    exact .inr ⟨z, hd⟩
  ·rintro (⟨z, hd⟩ | ⟨z, hd⟩)
   ·exact ⟨.inl z, hd⟩
   ·exact ⟨.inr ⟨u, ht, z⟩, hd⟩
noncomputable def envT (row : List Int) (s : Int) (fU fV U V R G : List (List Nat)) (o : Option S) : Ro :=
 [some (.sh (SP row s)), some (.sh (.tup [.lst (fU.map L), .lst (fV.map L)])), some (.sh (.lst ((Ab row s true).map L))), some (.sh (.lst ((Ab row s false).map L))), some (.sh (.lst (fU.map L))), some (.sh (.lst (fV.map L))), some (.own (U.map L)), some (.own (V.map L)), some (.own (R.map L)), some (.own (G.map L)), o]
structure Tnd (row : List Int) (s : Int) (t p : Nat) (U V R G : List (List Nat)) : Prop where
 lU : U.length = row.length
 lV : V.length = row.length
 lR : R.length = row.length
 lG : G.length = row.length
 at' : ∀ q, p <= q -> q < row.length -> BS row s t true q (U.getD q []) /\ BS row s t false q (V.getD q []) /\ BR row s t true q (R.getD q []) /\ BR row s t false q (G.getD q [])
theorem turn_body {row : List Int} {s : Int} {t p : Nat} {fU fV U V R G : List (List Nat)} {o : Option S} (hr : row.length <= 300) (hp : p < row.length) (hf : Few row s t fU fV) (h : Tnd row s t (p + 1) U V R G) :
  ∃ U' V' R' G', b_Z5_f0 (envT row s fU fV U V R G (some (.sh (.int (p : Int))))) = some (.nx (envT row s fU fV U' V' R' G' (some (.sh (.int (p : Int)))))) /\ Tnd row s t p U' V' R' G' := by
 have i1 : 0 + 1 <= sizeLine := le_size (by decide)
 have stp : ∀ (d : Bool) (T : List (List Nat)), T.length = row.length -> (∀ q, p + 1 <= q -> q < row.length -> BR row s t d q (T.getD q [])) -> BS row s t d p (p :: flD ((abv row s d p).map fun q => T.getD q [])) := fun d T hT hb =>
  best_step hp (fun q => abv_mem) (abv_rise row s d p) fun q hq => by
   obtain ⟨a, b, _⟩ := abv_mem.mp hq
   exact hb q a b
 have ab : ∀ (d : Bool), ∀ q ∈ abv row s d p, q < row.length := fun d q hq => (abv_mem.mp hq).2.1
 have bU := stp true R h.lR fun q a b => (h.at' q a b).2.2.1
 have bV := stp false G h.lG fun q a b => (h.at' q a b).2.2.2
 generalize eU : flD ((abv row s true p).map fun q => R.getD q []) = u at bU
 generalize eV : flD ((abv row s false p).map fun q => G.getD q []) = v at bV
 have lu : u.length + 1 <= row.length := by have := bU.len; simpa using this
 have lv : v.length + 1 <= row.length := by have := bV.len; simpa using this
 obtain ⟨f1, f2, f3⟩ := hf
 have jU := join_best (b := fV.getD p []) bU (by
  rcases f3 p hp with ⟨a, _, b⟩ | ⟨w, a, _, b⟩
  ·exact .inl ⟨a, b⟩
  ·exact .inr ⟨w, a, b⟩)
 have jV := join_best (b := fU.getD p []) bV (by
  rcases f3 p hp with ⟨a, b, _⟩ | ⟨w, a, b, _⟩
  ·exact .inl ⟨a, b⟩
  ·exact .inr ⟨w, a, b⟩)
 have rne : R ≠ [] := fun z => by have := h.lR; rw [z] at this; simp at this; omega
 have gne : G ≠ [] := fun z => by have := h.lG; rw [z] at this; simp at this; omega
 refine ⟨U.set p (p :: u), V.set p (p :: v), R.set p (if ahead (fV.getD p []) (p :: u) = true then fV.getD p [] else p :: u), G.set p (if ahead (fU.getD p []) (p :: v) = true then fU.getD p [] else p :: v), ?_, ?_⟩
 ·unfold b_Z5_f0
  have told : ∀ (ρ : Ro) (i k : Nat) (d : Bool) (T : List (List Nat)), ρ[i]? = some (some (.own (T.map L))) -> i ≠ 10 -> i ≠ k -> k ≠ 10 -> i < 11 -> ρ.length = 11 -> ρ[k]? = some (some (.sh (.lst ((Ab row s d).map L)))) -> ρ[10]? = some (some (.sh (.int (p : Int)))) -> T.length = row.length -> T ≠ [] ->
    aslst (mborL i (mcall m_Z2 (acons (mvar i) (acons (mix (bvar k) (mvar 10)) anil)))) ρ = some ((flD ((abv row s d p).map fun q => T.getD q [])).map dN) := by
   intro ρ i k d T hi h10 hik hk10 hi11 hl hk hp10 lT hT
   refine aslst_ev (borL_ev hi ?_ (tell_L T _ hT))
   have g1 : mvar i (ρ.set i (some (.sh (.lst (T.map L))))) = some (.lst (T.map L)) := by
    unfold mvar
    rw [getElem?_set_self (by omega)]
   have g2 : mix (bvar k) (mvar 10) (ρ.set i (some (.sh (.lst (T.map L))))) = some (L (abv row s d p)) := by
    refine mix_ev (ds := (Ab row s d).map L) (k := (p : Int)) ?_ ?_ ?_
    ·unfold bvar; rw [getElem?_set_ne hik, hk]
    ·unfold mvar; rw [getElem?_set_ne h10, hp10]
    ·rw [at_L _ p (by rw [Ab_len]; exact hp), Ab_get row s d p hp]
   exact mcall_sh (acons_ev g1 (acons_ev g2 anil_ev)) (longest_behind_eq T (abv row s d p) (by have := abv_len row s d p; omega) fun q hq => by have := ab d q hq; omega)
  have put : ∀ (ρ : Ro) (m : ML) (w : List Nat), ρ[10]? = some (some (.sh (.int (p : Int)))) -> m ρ = some (w.map dN) -> w.length + 1 <= row.length -> mlst (mcat (sized (acons (mvar 10) anil)) m) ρ = some (L (p :: w)) := by
   intro ρ m w h10 hm hw
   have g : mvar 10 ρ = some (.int (p : Int)) := by unfold mvar; rw [h10]
   rw [mlst_ev (mcat_ev (sized_ev (acons_ev g anil_ev) i1) hm (by rw [length_map, length_singleton]; exact le_size (by omega)))]
   rfl
  refine seqI (ρ' := envT row s fU fV (U.set p (p :: u)) V R G (some (.sh (.int (p : Int))))) ?_ (seqI (ρ' := envT row s fU fV (U.set p (p :: u)) (V.set p (p :: v)) R G (some (.sh (.int (p : Int))))) ?_ (seqI (ρ' := envT row s fU fV (U.set p (p :: u)) (V.set p (p :: v)) (R.set p (if ahead (fV.getD p []) (p :: u) = true then fV.getD p [] else p :: u)) G (some (.sh (.int (p : Int))))) ?_ ?_))
  ·exact setL_ev (A := U) rfl rfl (put _ _ u rfl (by rw [told _ 8 2 true R rfl (by decide) (by decide) (by decide) (by decide) rfl rfl rfl h.lR rne, eU]) lu) (by rw [h.lU]; exact hp)
  ·exact setL_ev (A := V) rfl rfl (put _ _ v rfl (by rw [told _ 9 3 false G rfl (by decide) (by decide) (by decide) (by decide) rfl rfl rfl h.lG gne, eV]) lv) (by rw [h.lV]; exact hp)
  ·refine setL_ev (A := R) rfl rfl (min2_L (a := p :: u) (b := fV.getD p []) ?_ ?_) (by rw [h.lR]; exact hp)
   ·exact mix_ev (m := bvar 6) rfl rfl ((at_L (U.set p (p :: u)) p (by rw [length_set, h.lU]; exact hp)).trans (by rw [getD_set_eq _ _ _ (by rw [h.lU]; exact hp)]))
   ·exact mix_ev (m := bvar 5) rfl rfl (at_L fV p (by rw [f2]; exact hp))
  ·refine setL_ev (A := G) rfl rfl (min2_L (a := p :: v) (b := fU.getD p []) ?_ ?_) (by rw [h.lG]; exact hp)
   ·exact mix_ev (m := bvar 7) rfl rfl ((at_L (V.set p (p :: v)) p (by rw [length_set, h.lV]; exact hp)).trans (by rw [getD_set_eq _ _ _ (by rw [h.lV]; exact hp)]))
   ·exact mix_ev (m := bvar 4) rfl rfl (at_L fU p (by rw [f1]; exact hp))
 ·refine ⟨by rw [length_set]; exact h.lU, by rw [length_set]; exact h.lV, by rw [length_set]; exact h.lR, by rw [length_set]; exact h.lG, fun q h1 h2 => ?_⟩
  by_cases hq : p = q
  ·subst hq
   rw [getD_set_eq _ _ _ (by rw [h.lU]; exact hp), getD_set_eq _ _ _ (by rw [h.lV]; exact hp), getD_set_eq _ _ _ (by rw [h.lR]; exact hp), getD_set_eq _ _ _ (by rw [h.lG]; exact hp)]
   exact ⟨bU, bV, jU, jV⟩
  ·rw [getD_set_ne _ _ _ _ hq, getD_set_ne _ _ _ _ hq, getD_set_ne _ _ _ _ hq, getD_set_ne _ _ _ _ hq]
   exact h.at' q (by omega) h2
theorem nils_ev (n : Nat) (hn : n <= 300) (ρ : Ro) (m : ML) (ds : List D) (hm : m ρ = some ds) (hd : ds.length = n) : mrep (sized (acons (mlst (sized anil)) anil)) (mlen m) ρ = some ((List.replicate n ([] : List Nat)).map L) := by
 have i1 : 0 + 1 <= sizeLine := le_size (by decide)
 have big := size_big
 rw [mrep_ev (ds := [.lst []]) (k := (n : Int)) (sized_ev (acons_ev (mlst_ev (sized_ev anil_ev (Nat.zero_le _))) anil_ev) i1) (by rw [mlen_ev hm, hd]) (by unfold repOk; simp only [Bool.and_eq_true, decide_eq_true_eq, length_singleton]; omega), Int.toNat_natCast]
 congr 1
 rw [map_replicate, flatten_replicate_singleton]
 rfl
theorem rep_get (n q : Nat) : (List.replicate n ([] : List Nat)).getD q [] = [] := by
 rw [getD_eq_getElem?_getD, getElem?_replicate]
 split <;> rfl
theorem one_turn_more_eq {row : List Int} {s : Int} {t : Nat} {fU fV : List (List Nat)} (hr : row.length <= 300) (hf : Few row s t fU fV) :
  ∃ U V, m_Z5 [SP row s, .tup [.lst (fU.map L), .lst (fV.map L)]] = some (.sh (.tup [.lst (U.map L), .lst (V.map L)])) /\ Few row s (t + 1) U V := by
 suffices h : Run b_Z5 (startS 11 [SP row s, .tup [.lst (fU.map L), .lst (fV.map L)]]) (fun o => ∃ U V : List (List Nat), o = .rt (.tup [.lst (U.map L), .lst (V.map L)]) /\ Few row s (t + 1) U V) by
  obtain ⟨o, e, U, V, rfl, r⟩ := h
  exact ⟨U, V, runB_rt e, r⟩
 unfold b_Z5
 have k2 : okR (row.length : Int) = true := okR_of (by omega) (by omega)
 have i2 : 2 <= sizeLine := le_size (by decide)
 refine run_seq (ρ' := [some (.sh (SP row s)), some (.sh (.tup [.lst (fU.map L), .lst (fV.map L)])), some (.sh (.lst ((Ab row s true).map L))), some (.sh (.lst ((Ab row s false).map L))), none, none, none, none, none, none, none]) rfl ?_
 refine run_seq (ρ' := [some (.sh (SP row s)), some (.sh (.tup [.lst (fU.map L), .lst (fV.map L)])), some (.sh (.lst ((Ab row s true).map L))), some (.sh (.lst ((Ab row s false).map L))), some (.sh (.lst (fU.map L))), some (.sh (.lst (fV.map L))), none, none, none, none, none]) rfl ?_
 have sF : ∀ (i : Nat) (ρ : Ro), bvar 2 ρ = some ((Ab row s true).map L) -> msetF i (mrep (sized (acons (mlst (sized anil)) anil)) (mlen (bvar 2))) ρ = some (.nx (ρ.set i (some (.own ((List.replicate row.length ([] : List Nat)).map L))))) := fun i ρ hb => by
  unfold msetF
  rw [nils_ev row.length hr ρ (bvar 2) _ hb (by rw [length_map, Ab_len])]
  rfl
 refine run_seq (sF 6 _ rfl) (run_seq (sF 7 _ rfl) (run_seq (sF 8 _ rfl) (run_seq (ρ' := envT row s fU fV (List.replicate row.length []) (List.replicate row.length []) (List.replicate row.length []) (List.replicate row.length []) none) (sF 9 _ rfl) ?_)))
 have ed : downD row.length = (List.range row.length).map fun (j : Nat) => D.int ((row.length : Int) - 1 - (j : Int)) := rfl
 refine run_mseq (run_forN row.length (f := fun (j : Nat) => D.int ((row.length : Int) - 1 - (j : Int))) ?_
  (I := fun j ρ => ∃ U V R G o, Tnd row s t (row.length - j) U V R G /\ ρ = envT row s fU fV U V R G o) _
  ⟨_, _, _, _, _, ⟨by simp, by simp, by simp, by simp, fun q h1 h2 => by omega⟩, rfl⟩ ?_ ?_)
 ·unfold mlist
  rw [acons_ev (x := mlen (bvar 2)) (d := .int (((Ab row s true).map L).length : Int)) (mlen_ev rfl) anil_ev, Option.bind_some, length_map, Ab_len, rngD_ok k2, Int.toNat_natCast, ed]
 ·rintro j ρ hj ⟨U, V, R, G, o, h, rfl⟩
  have e : (row.length : Int) - 1 - (j : Int) = ((row.length - 1 - j : Nat) : Int) := by omega
  rw [e]
  refine ⟨envT row s fU fV U V R G (some (.sh (.int ((row.length - 1 - j : Nat) : Int)))), rfl, ?_⟩
  have e2 : row.length - 1 - j + 1 = row.length - j := by omega
  obtain ⟨U', V', R', G', eb, hT⟩ := turn_body (o := o) hr (show row.length - 1 - j < row.length by omega) hf (by rw [e2]; exact h)
  exact ⟨_, eb, U', V', R', G', _, by rw [show row.length - (j + 1) = row.length - 1 - j by omega]; exact hT, rfl⟩
 ·rintro ρ ⟨U, V, R, G, o, h, rfl⟩
  rw [Nat.sub_self] at h
  unfold b_Z5_r1
  refine run_freeze (ds := U.map L) rfl (run_freeze (ds := V.map L) rfl ⟨_, mret_ev (mtup_ev (acons_ev (d := .lst (U.map L)) rfl (acons_ev (d := .lst (V.map L)) rfl anil_ev)) i2), U, V, rfl, h.lU, h.lV, fun q hq => ?_⟩)
  obtain ⟨a, b, _⟩ := h.at' q (Nat.zero_le _) hq
  exact .inr ⟨t, rfl, a, b⟩
end
section
open PySem L2
theorem gt_dn (a b : Nat) : gtI (dN b) (dN a) = some (decide (a < b)) := by
 show some (decide ((a : Int) < (b : Int))) = _
 congr 1
 apply decide_eq_decide.mpr
 omega
theorem maxP_dn : ∀ (ns : List Nat) (a : Nat), ∃ v, maxP (ns.map dN) (dN a) = some (dN v) /\ (∀ y ∈ a :: ns, y <= v) /\ v ∈ a :: ns
 | [], a => ⟨a, rfl, by simp, by simp⟩
 | b :: ns, a => by
  rw [map_cons, maxP, gt_dn]
  by_cases h : a < b
  ·rw [decide_eq_true h]
   obtain ⟨v, e, g1, g2⟩ := maxP_dn ns b
   refine ⟨v, e, fun y hy => ?_, mem_cons_of_mem _ g2⟩
   rcases List.mem_cons.mp hy with z | z
   ·have := g1 b (by simp); omega
   ·exact g1 y z
  ·rw [decide_eq_false h]
   obtain ⟨v, e, g1, g2⟩ := maxP_dn ns a
   refine ⟨v, e, fun y hy => ?_, ?_⟩
   ·rcases List.mem_cons.mp hy with z | z
    ·exact g1 y (by simp [z])
    ·rcases List.mem_cons.mp z with z | z
     ·have := g1 a (by simp); omega
     ·exact g1 y (by simp [z])
   ·rcases List.mem_cons.mp g2 with z | z
    ·simp [z]
    ·simp [z]
theorem maxE_dn (ns : List Nat) : ∃ v, maxE (ns.map dN) (.int 0) = some (dN v) /\ (∀ y ∈ ns, y <= v) /\ (ns = [] /\ v = 0 \/ v ∈ ns) := by
 cases ns with
 | nil => exact ⟨0, rfl, by simp, .inl ⟨rfl, rfl⟩⟩
 | cons a ns =>
  obtain ⟨v, e, g1, g2⟩ := maxP_dn ns a
  exact ⟨v, e, g1, .inr g2⟩
end
section
open PySem L2
theorem nils_few (row : List Int) (s : Int) : Few row s 0 (List.replicate row.length []) (List.replicate row.length []) :=
 ⟨by simp, by simp, fun q _ => .inl ⟨rfl, rep_get _ _, rep_get _ _⟩⟩
noncomputable abbrev TP2 (U V : List (List Nat)) : D := .tup [.lst (U.map L), .lst (V.map L)]
theorem no_tails_eq (row : List Int) (hr : row.length <= 300) : m_Z17 [RI row] = some (.sh (TP2 (List.replicate row.length []) (List.replicate row.length []))) := by
 unfold m_Z17 b_Z17
 have i2 : 2 <= sizeLine := le_size (by decide)
 have e := nils_ev row.length hr (startS 1 [RI row]) (bvar 0) _ rfl (by rw [length_map])
 exact runB_rt (mret_ev (mtup_ev (acons_ev (mlst_ev e) (acons_ev (mlst_ev e) anil_ev)) i2))
abbrev BT (row : List Int) (s : Int) (t : Nat) : List Nat -> Prop := Best (Tn (xr row) row.length s t)
theorem longest_tail_eq {row : List Int} {s : Int} {t : Nat} {U V : List (List Nat)} (hr : row.length <= 300) (h : Few row s (t + 1) U V) : ∃ l, m_Z11 [TP2 U V] = some (.sh (L l)) /\ BT row s t l := by
 obtain ⟨hU, hV, hd⟩ := h
 have hd : ∀ q, q < row.length -> BS row s t true q (U.getD q []) /\ BS row s t false q (V.getD q []) := fun q hq => by
  rcases hd q hq with ⟨z, _⟩ | ⟨u, e, a, b⟩
  ·omega
  ·have : u = t := by omega
   subst this
   exact ⟨a, b⟩
 have hres : ∃ l, minD (fun d => shOf (m_Z9 [d])) ((U ++ V).map L) (.lst []) = some (L l) /\ BT row s t l := by
  cases hc : U ++ V with
  | nil =>
   have : row.length = 0 := by
    have := congrArg List.length hc
    rw [length_append, length_nil] at this
    omega
   exact ⟨[], rfl, best_turns0 this⟩
  | cons b ls =>
   obtain ⟨r, e, h1, h2⟩ := min_list (mk := fun d => shOf (m_Z9 [d])) ek ls b
   refine ⟨r, ?_, ?_⟩
   ·show (match shOf (m_Z9 [L b]) with | some kd => minF _ (ls.map L) (L b) kd | none => none) = _
    rw [ek b]
    exact e
   ·rw [<- hc] at h1 h2
    have all : ∀ m ∈ U ++ V, ∃ d q, BS row s t d q m := by
     intro m hm
     rcases List.mem_append.mp hm with h | h
     ·obtain ⟨q, hq, rfl⟩ := mem_getD h
      exact ⟨true, q, (hd q (by omega)).1⟩
     ·obtain ⟨q, hq, rfl⟩ := mem_getD h
      exact ⟨false, q, (hd q (by omega)).2⟩
    refine best_turns h1 h2 (fun m hm => ?_) (fun d p hp => ?_) ?_
    ·obtain ⟨d, q, h⟩ := all m hm
     exact .inr ⟨d, h.1.1⟩
    ·cases d
     ·exact ⟨_, mem_append_right _ (getD_mem (q := p) (by omega)), (hd p hp).2⟩
     ·exact ⟨_, mem_append_left _ (getD_mem (q := p) (by omega)), (hd p hp).1⟩
    ·obtain ⟨d, q, h⟩ := all r h1
     intro z
     rw [z] at h
     exact h.1.1
 obtain ⟨l, e, hb⟩ := hres
 refine ⟨l, ?_, hb⟩
 unfold m_Z11 b_Z11
 refine runB_run (run_seq (ρ' := [some (.sh (TP2 U V)), some (.sh (.lst (U.map L))), some (.sh (.lst (V.map L)))]) rfl ⟨_, ?_, rfl⟩)
 have e1 : aslst (m2 addD (mvar 1) (mvar 2)) [some (.sh (TP2 U V)), some (.sh (.lst (U.map L))), some (.sh (.lst (V.map L)))] = some ((U ++ V).map L) := by
  have hz : (U.map L).length + (V.map L).length <= sizeLine := le_size (by simp; omega)
  refine aslst_ev ?_
  unfold m2
  show (if (U.map L).length + (V.map L).length <= sizeLine then some (D.lst (U.map L ++ V.map L)) else none) = _
  rw [if_pos hz, map_append]
 unfold mret
 rw [mminK_ev e1 (mlst_ev (sized_ev anil_ev (Nat.zero_le _))), e]
 rfl
theorem steps_call {row : List Int} {s : Int} (hr : row.length <= 300) {ρ : Ro} (h0 : mvar 0 ρ = some (RI row)) (h1 : mvar 1 ρ = some (.int s)) : mcall m_Z12 (acons (mvar 0) (acons (mvar 1) anil)) ρ = some (SP row s) :=
 mcall_sh (acons_ev h0 (acons_ev h1 anil_ev)) (later_steps_eq row s hr)
def Mx (row : List Int) (s : Int) (p m : Nat) : Prop := (∃ l d, Sd (xr row) row.length s l row.length d /\ Hd p l /\ l.length = m) /\ ∀ l t d, Sd (xr row) row.length s l t d -> Hd p l -> l.length <= m
theorem mx_step {row : List Int} {s : Int} {p v : Nat} {ms : Nat -> Nat} (hp : p < row.length) (hm : ∀ q, p < q -> q < row.length -> Mx row s q (ms q))
  (h1 : ∀ d, ∀ q ∈ abv row s d p, ms q <= v) (h2 : v = 0 \/ ∃ d, ∃ q ∈ abv row s d p, ms q = v) : Mx row s p (1 + v) := by
 constructor
 ·rcases h2 with rfl | ⟨d, q, hq, e⟩
  ·exact ⟨[p], true, hp, ⟨[], rfl⟩, rfl⟩
  ·obtain ⟨a, b, c⟩ := abv_mem.mp hq
   obtain ⟨⟨l, d', hl, ⟨m, rfl⟩, e2⟩, _⟩ := hm q a b
   have hS : Sd (xr row) row.length s (p :: q :: m) (row.length + 1) d := by
    refine ⟨a, c, ?_⟩
    by_cases hd : d' = d
    ·subst hd; exact .inl (hl.mono (by omega))
    ·have : d' = !d := by cases d <;> cases d' <;> simp_all
     subst this
     exact .inr ⟨row.length, rfl, hl⟩
   have hlen := hS.len
   refine ⟨p :: q :: m, d, hS.enough.mono (by simp at hlen ⊢; omega), ⟨_, rfl⟩, ?_⟩
   rw [length_cons, e2, e]; omega
 ·rintro l t d hl ⟨m, rfl⟩
  cases m with
  | nil => simp
  | cons q m =>
   have hq : q < row.length := by
    rcases hl.2.2 with z | ⟨u, _, z⟩
    ·exact z.lt
    ·exact z.lt
   have hqm := abv_mem.mpr ⟨hl.1, hq, hl.2.1⟩
   have := h1 d q hqm
   have h3 : (q :: m).length <= ms q := by
    rcases hl.2.2 with z | ⟨u, _, z⟩
    ·exact (hm q hl.1 hq).2 _ _ _ z ⟨_, rfl⟩
    ·exact (hm q hl.1 hq).2 _ _ _ z ⟨_, rfl⟩
   rw [length_cons]; omega
noncomputable def envM (row : List Int) (s : Int) (ms : List Nat) (o : Option S) : Ro := [some (.sh (SP row s)), some (.sh (.lst ((Ab row s true).map L))), some (.sh (.lst ((Ab row s false).map L))), some (.own (ms.map dN)), o]
theorem at_dn (ms : List Nat) (p : Nat) (h : p < ms.length) : atI (ms.map dN) (p : Int) = some (dN (ms.getD p 0)) := by
 have := atI_map dN ms (p : Int) (by omega) (by omega) 0
 rw [Int.toNat_natCast] at this
 exact this
theorem most_body {row : List Int} {s : Int} {p : Nat} {ms : List Nat} {o : Option S} (hr : row.length <= 300) (hp : p < row.length) (hl : ms.length = row.length) (h : ∀ q, p < q -> q < row.length -> Mx row s q (ms.getD q 0)) :
  ∃ v, b_Z10_f0 (envM row s ms (some (.sh (.int (p : Int))))) = some (.nx (envM row s (ms.set p v) (some (.sh (.int (p : Int)))))) /\ Mx row s p v := by
 unfold b_Z10_f0
 have ab : ∀ (d : Bool), ∀ q ∈ abv row s d p, q < ms.length := fun d q hq => by rw [hl]; exact (abv_mem.mp hq).2.1
 have e1 : aslst (m2 addD (mix (bvar 1) (mvar 4)) (mix (bvar 2) (mvar 4))) (envM row s ms (some (.sh (.int (p : Int))))) = some ((abv row s true p ++ abv row s false p).map dN) := by
  refine aslst_ev ?_
  have g1 : mix (bvar 1) (mvar 4) (envM row s ms (some (.sh (.int (p : Int))))) = some (L (abv row s true p)) := mix_ev (ds := (Ab row s true).map L) (k := (p : Int)) rfl rfl (by rw [at_L _ p (by rw [Ab_len]; exact hp), Ab_get row s true p hp])
  have g2 : mix (bvar 2) (mvar 4) (envM row s ms (some (.sh (.int (p : Int))))) = some (L (abv row s false p)) := mix_ev (ds := (Ab row s false).map L) (k := (p : Int)) rfl rfl (by rw [at_L _ p (by rw [Ab_len]; exact hp), Ab_get row s false p hp])
  rw [m2_at2 g1 g2]
  have hz : ((abv row s true p).map dN).length + ((abv row s false p).map dN).length <= sizeLine := le_size (by have := abv_len row s true p; have := abv_len row s false p; simp; omega)
  show (if ((abv row s true p).map dN).length + ((abv row s false p).map dN).length <= sizeLine then some (D.lst ((abv row s true p).map dN ++ (abv row s false p).map dN)) else none) = _
  rw [if_pos hz, map_append]
 have e2 : mcompO [none, some 3] (aslst (m2 addD (mix (bvar 1) (mvar 4)) (mix (bvar 2) (mvar 4)))) (.nm 0) cyes (mix (bvar 1) (mvar 0)) (envM row s ms (some (.sh (.int (p : Int))))) = some (((abv row s true p ++ abv row s false p).map fun q => ms.getD q 0).map dN) := by
  unfold mcompO
  rw [e1, Option.bind_some]
  refine (compD_map (f := dN) (G := fun q => dN (ms.getD q 0)) (fun ks ρ => (∀ q ∈ ks, q < ms.length) /\ ∃ x, ρ = [x, some (.own (ms.map dN))]) (by
   rintro q ks ρ ⟨hh, x, rfl⟩
   exact ⟨[some (.sh (dN q)), some (.own (ms.map dN))], rfl, rfl, mix_ev (m := bvar 1) rfl rfl (at_dn ms q (hh q (by simp))), fun r hr => hh r (by simp [hr]), _, rfl⟩) _ _ [] ⟨fun q hq => ?_, none, rfl⟩ (le_size ?_)).trans ?_
  ·rcases List.mem_append.mp hq with z | z
   ·exact ab true q z
   ·exact ab false q z
  ·have := abv_len row s true p; have := abv_len row s false p
   simp; omega
  ·rw [nil_append, map_map]; rfl
 obtain ⟨v, ev, g1, g2⟩ := maxE_dn ((abv row s true p ++ abv row s false p).map fun q => ms.getD q 0)
 refine ⟨1 + v, ?_, ?_⟩
 ·have e3 : m2 addD (mc (.int 1)) (mmaxE (mcompO [none, some 3] (aslst (m2 addD (mix (bvar 1) (mvar 4)) (mix (bvar 2) (mvar 4)))) (.nm 0) cyes (mix (bvar 1) (mvar 0))) (mc (.int 0))) (envM row s ms (some (.sh (.int (p : Int))))) = some (dN (1 + v)) := by
   rw [m2_at2 (a := .int 1) (b := dN v) rfl ((mmaxE_ev e2 rfl).trans ev)]
   have q : (1 + (v : Int)) = ((1 + v : Nat) : Int) := by omega
   show some (D.int (1 + (v : Int))) = some (D.int ((1 + v : Nat) : Int))
   rw [q]
  unfold msetix
  rw [e3]
  show ((ixN (ms.map dN).length (p : Int)).map fun j => Out.nx ((envM row s ms (some (.sh (.int (p : Int))))).set 3 (some (.own ((ms.map dN).set j (dN (1 + v))))))) = _
  rw [length_map, ixN_nat _ _ (by omega)]
  show some (Out.nx _) = _
  rw [<- map_set]
  rfl
 ·refine mx_step (ms := fun q => ms.getD q 0) hp h (fun d q hq => g1 _ (List.mem_map.mpr ⟨q, ?_, rfl⟩)) ?_
  ·cases d
   ·exact mem_append_right _ hq
   ·exact mem_append_left _ hq
  ·rcases g2 with ⟨_, z⟩ | z
   ·exact .inl z
   ·obtain ⟨q, hq, e⟩ := List.mem_map.mp z
    rcases List.mem_append.mp hq with hq | hq
    ·exact .inr ⟨true, q, hq, e⟩
    ·exact .inr ⟨false, q, hq, e⟩
theorem getD_setN (ms : List Nat) (p q v : Nat) (h : p < ms.length) : (ms.set p v).getD q 0 = if p = q then v else ms.getD q 0 := by
 rw [getD_eq_getElem?_getD, getD_eq_getElem?_getD]
 by_cases e : p = q
 ·subst e; rw [getElem?_set_self h, if_pos rfl]; rfl
 ·rw [getElem?_set_ne e, if_neg e]
theorem most_stepped_eq (row : List Int) (s : Int) (hr : row.length <= 300) : ∃ M, m_Z10 [SP row s] = some (.sh (dN M)) /\ (∀ t l, Tn (xr row) row.length s t l -> l.length <= M) /\ ∃ l, Tn (xr row) row.length s row.length l /\ l.length = M := by
 suffices h : Run b_Z10 (startS 5 [SP row s]) (fun o => ∃ M, o = .rt (dN M) /\ (∀ t l, Tn (xr row) row.length s t l -> l.length <= M) /\ ∃ l, Tn (xr row) row.length s row.length l /\ l.length = M) by
  obtain ⟨o, e, M, rfl, r⟩ := h
  exact ⟨M, runB_rt e, r⟩
 unfold b_Z10
 have k2 : okR (row.length : Int) = true := okR_of (by omega) (by omega)
 have i1 : 0 + 1 <= sizeLine := le_size (by decide)
 have big := size_big
 refine run_seq (ρ' := [some (.sh (SP row s)), some (.sh (.lst ((Ab row s true).map L))), some (.sh (.lst ((Ab row s false).map L))), none, none]) rfl ?_
 refine run_seq (ρ' := envM row s (List.replicate row.length 0) none) ?_ ?_
 ·unfold msetF
  rw [mrep_ev (ds := [.int 0]) (k := (row.length : Int)) (sized_ev (acons_ev (d := .int 0) rfl anil_ev) i1) (by rw [mlen_ev (m := bvar 1) (ds := (Ab row s true).map L) rfl, length_map, Ab_len]) (by unfold repOk; simp only [Bool.and_eq_true, decide_eq_true_eq, length_singleton]; omega), Int.toNat_natCast, flatten_replicate_singleton]
  show some (Out.nx _) = _
  unfold envM
  rw [map_replicate]
  rfl
 have ed : downD row.length = (List.range row.length).map fun (j : Nat) => D.int ((row.length : Int) - 1 - (j : Int)) := rfl
 refine run_mseq (run_forN row.length (f := fun (j : Nat) => D.int ((row.length : Int) - 1 - (j : Int))) ?_
  (I := fun j ρ => ∃ ms o, ms.length = row.length /\ (∀ q, row.length - j <= q -> q < row.length -> Mx row s q (ms.getD q 0)) /\ ρ = envM row s ms o) _
  ⟨_, _, by simp, fun q h1 h2 => by omega, rfl⟩ ?_ ?_)
 ·unfold mlist
  rw [acons_ev (x := mlen (bvar 1)) (d := .int (((Ab row s true).map L).length : Int)) (mlen_ev rfl) anil_ev, Option.bind_some, length_map, Ab_len, rngD_ok k2, Int.toNat_natCast, ed]
 ·rintro j ρ hj ⟨ms, o, hl, h, rfl⟩
  have e : (row.length : Int) - 1 - (j : Int) = ((row.length - 1 - j : Nat) : Int) := by omega
  rw [e]
  refine ⟨envM row s ms (some (.sh (.int ((row.length - 1 - j : Nat) : Int)))), rfl, ?_⟩
  obtain ⟨v, eb, hv⟩ := most_body (o := o) hr (show row.length - 1 - j < row.length by omega) hl fun q h1 h2 => h q (by omega) h2
  refine ⟨_, eb, ms.set (row.length - 1 - j) v, _, by rw [length_set]; exact hl, fun q h1 h2 => ?_, rfl⟩
  rw [getD_setN _ _ _ _ (by omega)]
  by_cases hq : row.length - 1 - j = q
  ·rw [if_pos hq, <- hq]; exact hv
  ·rw [if_neg hq]; exact h q (by omega) h2
 ·rintro ρ ⟨ms, o, hl, h, rfl⟩
  rw [Nat.sub_self] at h
  unfold b_Z10_r1
  obtain ⟨v, ev, g1, g2⟩ := maxE_dn ms
  refine run_freeze (ds := ms.map dN) rfl ⟨_, mret_ev ((mmaxE_ev (ds := ms.map dN) (d0 := .int 0) rfl rfl).trans ev), v, rfl, fun t l hl' => ?_, ?_⟩
  ·rcases hl' with rfl | ⟨d, hS⟩
   ·simp
   ·cases l with
    | nil => exact hS.elim
    | cons p l =>
     have hp := hS.lt
     refine Nat.le_trans ((h p (Nat.zero_le _) hp).2 _ _ _ hS ⟨_, rfl⟩) (g1 _ ?_)
     rw [getD_eq_getElem?_getD, getElem?_eq_getElem (by omega)]
     exact getElem_mem _
  ·rcases g2 with ⟨z, rfl⟩ | z
   ·exact ⟨[], .inl rfl, rfl⟩
   ·obtain ⟨p, hp, e⟩ := getElem_of_mem z
    obtain ⟨⟨l, d, hS, hH, e2⟩, _⟩ := h p (Nat.zero_le _) (by omega)
    refine ⟨l, .inr ⟨d, hS⟩, ?_⟩
    rw [e2, getD_eq_getElem?_getD, getElem?_eq_getElem hp, <- e]; rfl
end
section
open PySem L2
theorem while_run {c : MB} {body : MS} {I : Nat -> Ro -> Prop} {Q : Ro -> Prop}
  (h : ∀ k ρ, I k ρ -> (c ρ = some false /\ Q ρ) \/ (c ρ = some true /\ ∃ ρ', body ρ = some (.nx ρ') /\ ∃ k', k' < k /\ I k' ρ')) :
  ∀ (f k : Nat) (ρ : Ro), k < f -> I k ρ -> ∃ ρ', whileD c body f ρ = some (.nx ρ') /\ Q ρ'
 | 0, k, ρ, hk, _ => by omega
 | f + 1, k, ρ, hk, hI => by
  unfold whileD
  rcases h k ρ hI with ⟨hc, hq⟩ | ⟨hc, ρ', hb, k', hk', hI'⟩
  ·exact ⟨ρ, by rw [hc], hq⟩
  ·obtain ⟨ρ2, e, q⟩ := while_run h f k' ρ' (by omega) hI'
   refine ⟨ρ2, ?_, q⟩
   rw [hc]
   simp only [hb]
   exact e
def Kt (row : List Int) (s : Int) (t k : Nat) : Prop := ∃ l, BT row s t l /\ l.length = k
theorem Kt.uniq {row : List Int} {s : Int} {t a b : Nat} (h1 : Kt row s t a) (h2 : Kt row s t b) : a = b := by
 obtain ⟨l, hl, rfl⟩ := h1
 obtain ⟨m, hm, rfl⟩ := h2
 rw [hl.unique hm]
structure Kpt (row : List Int) (s : Int) (ks : List Nat) : Prop where
 pos : 0 < ks.length
 few : ks.length <= row.length + 1
 at' : ∀ i, i < ks.length -> Kt row s i (ks.getD i 0)
 last : ∀ t k, Kt row s t k -> k <= ks.getD (ks.length - 1) 0
 less : ∀ i, i + 1 < ks.length -> ks.getD i 0 < ks.getD (ks.length - 1) 0
noncomputable def envK (row : List Int) (s : Int) (M : Nat) (U V : List (List Nat)) (ks : List Nat) : Ro := [some (.sh (RI row)), some (.sh (.int s)), some (.sh (SP row s)), some (.sh (dN M)), some (.sh (TP2 U V)), some (.own (ks.map dN))]
theorem at_last (ks : List Nat) (h : 0 < ks.length) : atI (ks.map dN) (-1) = some (dN (ks.getD (ks.length - 1) 0)) := by
 unfold atI ixN
 rw [length_map, if_neg (by decide), if_pos (by omega)]
 have e : (-1 + (ks.length : Int)).toNat = ks.length - 1 := by omega
 rw [e]
 rw [Option.bind_some, getElem?_map, getD_eq_getElem?_getD, getElem?_eq_getElem (by omega)]
 rfl
theorem getD_app (ks : List Nat) (v i : Nat) : (ks ++ [v]).getD i 0 = if i < ks.length then ks.getD i 0 else if i = ks.length then v else 0 := by
 rw [getD_eq_getElem?_getD, getD_eq_getElem?_getD]
 by_cases h : i < ks.length
 ·rw [if_pos h, getElem?_append_left h]
 ·rw [if_neg h, getElem?_append_right (by omega)]
  by_cases h2 : i = ks.length
  ·rw [if_pos h2, h2, Nat.sub_self]; rfl
  ·rw [if_neg h2, getElem?_eq_none (by simp; omega)]; rfl
theorem kept_by_turns_eq (row : List Int) (s : Int) (hs : 1 <= s) (hr : row.length <= 300) : ∃ ks, m_Z3 [RI row, .int s] = some (.fr (ks.map dN)) /\ Kpt row s ks := by
 obtain ⟨M, eM, hM1, lM, hM2, hM3⟩ := most_stepped_eq row s hr
 have i1 : 0 + 1 <= sizeLine := le_size (by decide)
 have big := size_big
 suffices h : Run b_Z3 (startS 6 [RI row, .int s]) (fun o => ∃ ks : List Nat, o = .rf (ks.map dN) /\ Kpt row s ks) by
  obtain ⟨o, e, ks, rfl, r⟩ := h
  exact ⟨ks, runB_rf e, r⟩
 unfold b_Z3
 refine run_seq (ρ' := [some (.sh (RI row)), some (.sh (.int s)), none, none, none, none]) (mexpr_ev (mcall_sh (acons_ev (d := .int s) rfl anil_ev) (refuse_step_eq s hs))) ?_
 refine run_seq (ρ' := [some (.sh (RI row)), some (.sh (.int s)), some (.sh (SP row s)), none, none, none]) ((mset_ev (steps_call hr rfl rfl)).trans rfl) ?_
 refine run_seq (ρ' := [some (.sh (RI row)), some (.sh (.int s)), some (.sh (SP row s)), some (.sh (dN M)), none, none]) ((mset_ev (mcall_sh (acons_ev (d := SP row s) rfl anil_ev) eM)).trans rfl) ?_
 obtain ⟨U, V, e0, hf0⟩ := one_turn_more_eq hr (nils_few row s)
 obtain ⟨l0, el0, hb0⟩ := longest_tail_eq hr hf0
 refine run_seq (ρ' := [some (.sh (RI row)), some (.sh (.int s)), some (.sh (SP row s)), some (.sh (dN M)), some (.sh (TP2 U V)), none]) ((mset_ev (mcall_sh (acons_ev (d := SP row s) rfl (acons_ev (mcall_sh (acons_ev (d := RI row) rfl anil_ev) (no_tails_eq row hr)) anil_ev)) e0)).trans rfl) ?_
 have tl : ∀ (ρ : Ro) (U V : List (List Nat)) (l : List Nat), mvar 4 ρ = some (TP2 U V) -> m_Z11 [TP2 U V] = some (.sh (L l)) -> mlen (aslst (mcall m_Z11 (acons (mvar 4) anil))) ρ = some (dN l.length) := fun ρ U V l h4 h => by
  rw [mlen_ev (aslst_ev (ds := l.map dN) (mcall_sh (acons_ev h4 anil_ev) h)), length_map]; rfl
 refine run_seq (ρ' := envK row s M U V [l0.length]) (by unfold msetF; rw [sized_ev (acons_ev (tl _ U V l0 rfl el0) anil_ev) i1]; rfl) ?_
 have hW := while_run (c := mtest (m2 ltD (mix (bvar 5) (m1 negD (mc (.int 1)))) (mvar 3))) (body := b_Z3_f0)
  (I := fun k ρ => ∃ U V ks, Few row s ks.length U V /\ 0 < ks.length /\ ks.length + k = row.length + 1 /\ (∀ i, i < ks.length -> Kt row s i (ks.getD i 0)) /\ (∀ i, i + 1 < ks.length -> ks.getD i 0 < M) /\ ρ = envK row s M U V ks)
  (Q := fun ρ => ∃ U V ks, Kpt row s ks /\ ρ = envK row s M U V ks) ?_ 1000 row.length (envK row s M U V [l0.length]) (by omega) ⟨U, V, [l0.length], hf0, by simp, by simp; omega, fun i hi => ?_, fun i hi => by simp at hi, rfl⟩
 ·obtain ⟨ρ', e, U', V', ks, hk, rfl⟩ := hW
  refine run_seq e ?_
  exact run_retO (ds := ks.map dN) rfl ⟨ks, rfl, hk⟩
 ·rintro k ρ ⟨U, V, ks, hf, hpos, hlen, hat, hless, rfl⟩
  have hc : mtest (m2 ltD (mix (bvar 5) (m1 negD (mc (.int 1)))) (mvar 3)) (envK row s M U V ks) = some (decide (ks.getD (ks.length - 1) 0 < M)) := by
   rw [tlt_ev (i := ((ks.getD (ks.length - 1) 0 : Nat) : Int)) (j := (M : Int)) (mix_ev (m := bvar 5) (k := -1) rfl rfl (at_last ks hpos)) rfl]
   have : ((((ks.getD (ks.length - 1) 0 : Nat) : Int) < (M : Int)) ↔ ks.getD (ks.length - 1) 0 < M) := by omega
   rw [decide_eq_decide.mpr this]
  have hlast := hat (ks.length - 1) (by omega)
  have hle : ks.getD (ks.length - 1) 0 <= M := by
   obtain ⟨l, hl, e⟩ := hlast
   rw [<- e]; exact hM1 _ l hl.1
  by_cases hlt : ks.getD (ks.length - 1) 0 < M
  ·rw [decide_eq_true hlt] at hc
   refine .inr ⟨hc, ?_⟩
   have hkl : ks.length <= row.length := by
    rcases Nat.lt_or_ge row.length ks.length with z | z
    ·exfalso
     obtain ⟨l, hl, e⟩ := hlast
     have : lM.length <= l.length := hl.len lM (hM2.mono (by omega))
     omega
    ·exact z
   obtain ⟨U', V', e1, hf'⟩ := one_turn_more_eq hr hf
   obtain ⟨l, el, hb⟩ := longest_tail_eq hr hf'
   refine ⟨envK row s M U' V' (ks ++ [l.length]), ?_, row.length - ks.length, by omega, U', V', ks ++ [l.length], by simpa using hf', by simp, by simp; omega, fun i hi => ?_, fun i hi => ?_, rfl⟩
   ·unfold b_Z3_f0
    refine seqI (ρ' := envK row s M U' V' ks) ((mset_ev (mcall_sh (acons_ev (d := SP row s) rfl (acons_ev (d := TP2 U V) rfl anil_ev)) e1)).trans rfl) ?_
    unfold mapp
    rw [tl _ U' V' l rfl el]
    show (some (dN l.length)).bind (fun d => if (ks.map dN).length < sizeLine then some (Out.nx ((envK row s M U' V' ks).set 5 (some (.own (ks.map dN ++ [d]))))) else none) = _
    rw [Option.bind_some, if_pos (by rw [length_map]; omega)]
    unfold envK
    rw [map_append]
    rfl
   ·rw [getD_app]
    by_cases h : i < ks.length
    ·rw [if_pos h]; exact hat i h
    ·have : i = ks.length := by simp at hi; omega
     rw [if_neg h, if_pos this, this]
     exact ⟨l, hb, rfl⟩
   ·have hi : i < ks.length := by simp at hi; omega
    rw [getD_app, if_pos hi]
    by_cases h : i + 1 < ks.length
    ·exact hless i h
    ·have : i = ks.length - 1 := by omega
     rw [this]; exact hlt
  ·rw [decide_eq_false hlt] at hc
   have hM : ks.getD (ks.length - 1) 0 = M := by omega
   exact .inl ⟨hc, U, V, ks, ⟨hpos, by omega, hat, fun t k hpat => by obtain ⟨l, hl, e⟩ := hpat; rw [hM, <- e]; exact hM1 t l hl.1, fun i hi => by rw [hM]; exact hless i hi⟩, rfl⟩
 ·have : i = 0 := by simp at hi; omega
  subst this
  exact ⟨l0, hb0, rfl⟩
noncomputable def firstGe (m : Nat) : List Nat -> Nat -> Option Nat
 | [], _ => none
 | k :: ks, i => if m <= k then some i else firstGe m ks (i + 1)
noncomputable def oD : Option Nat -> D
 | some i => dN i
 | none => .non
theorem enum_dn : ∀ (ks : List Nat) (i : Nat), enumL i (ks.map dN) = (ks.zipIdx i).map fun p => D.tup [.int (p.2 : Int), dN p.1]
 | [], _ => rfl
 | k :: ks, i => by
  rw [map_cons, enumL, enum_dn ks (i + 1), zipIdx_cons, map_cons]
theorem fewest_turns_eq (row : List Int) (s : Int) (m : Nat) (hs : 1 <= s) (hr : row.length <= 300) {ks : List Nat} (hk : m_Z3 [RI row, .int s] = some (.fr (ks.map dN))) : m_Z6 [RI row, .int s, .int (m : Int)] = some (.sh (oD (firstGe m ks 0))) := by
 unfold m_Z6 b_Z6
 refine runB_run ?_
 refine run_seq (ρ' := [some (.sh (RI row)), some (.sh (.int s)), some (.sh (.int (m : Int))), none, none]) (mexpr_ev (mcall_sh (acons_ev (d := .int s) rfl anil_ev) (refuse_step_eq s hs))) ?_
 refine run_seq (ρ' := [some (.sh (RI row)), some (.sh (.int s)), some (.sh (.int (m : Int))), none, none]) (by rw [mif_ev (tLt_ev (i := (m : Int)) (k := 0) rfl rfl), decide_eq_false (by omega)]; rfl) ?_
 have ee : mlist enum1 (acons (mcall m_Z3 (acons (mvar 0) (acons (mvar 1) anil))) anil) [some (.sh (RI row)), some (.sh (.int s)), some (.sh (.int (m : Int))), none, none] = some ((ks.zipIdx 0).map fun p => D.tup [.int (p.2 : Int), dN p.1]) := by
  unfold mlist
  rw [acons_ev (mcall_fr (acons_ev (d := RI row) rfl (acons_ev (d := .int s) rfl anil_ev)) hk) anil_ev, Option.bind_some]
  show some (enumL 0 (ks.map dN)) = _
  rw [enum_dn]
 refine run_mseq (run_for (ks.zipIdx 0) (f := fun p => D.tup [.int (p.2 : Int), dN p.1]) ee
  (I := fun ps ρ => ∃ js i o3 o4, ps = List.zipIdx js i /\ firstGe m ks 0 = firstGe m js i /\ ρ = [some (.sh (RI row)), some (.sh (.int s)), some (.sh (.int (m : Int))), o3, o4]) _ ⟨ks, 0, _, _, rfl, rfl, rfl⟩ ?_ ?_)
 ·rintro ⟨k, j⟩ ps ρ ⟨js, i, o3, o4, e, ef, rfl⟩
  cases js with
  | nil => cases e
  | cons a js =>
   rw [zipIdx_cons] at e
   obtain ⟨e1, e2⟩ := List.cons.inj e
   cases e1
   refine ⟨[some (.sh (RI row)), some (.sh (.int s)), some (.sh (.int (m : Int))), some (.sh (dN j)), some (.sh (dN k))], rfl, ?_⟩
   unfold b_Z6_f0
   have ht : mtest (m2 geD (mvar 4) (mvar 2)) [some (.sh (RI row)), some (.sh (.int s)), some (.sh (.int (m : Int))), some (.sh (dN j)), some (.sh (dN k))] = some (decide (m <= k)) := by
    rw [tge_ev (i := (k : Int)) (j := (m : Int)) rfl rfl]
    have : (((m : Int) <= (k : Int)) ↔ m <= k) := by omega
    rw [decide_eq_decide.mpr this]
   refine run_if ht ?_
   rw [firstGe] at ef
   by_cases h : m <= k
   ·rw [if_pos h] at ef
    rw [decide_eq_true h]
    refine ⟨.rt (dN j), rfl, ?_⟩
    show Out.rt (dN j) = .rt (oD (firstGe m ks 0))
    rw [ef]; rfl
   ·rw [if_neg h] at ef
    rw [decide_eq_false h]
    exact ⟨_, rfl, js, j + 1, _, _, e2, ef, rfl⟩
 ·rintro ρ ⟨js, i, o3, o4, e, ef, rfl⟩
  cases js with
  | nil =>
   refine ⟨.rt .non, rfl, ?_⟩
   rw [ef]; rfl
  | cons a js => rw [zipIdx_cons] at e; cases e
end
section
open PySem L2
theorem mpu_ev {m : ME} {ρ : Ro} {d : D} (h : m ρ = some d) : mpu m ρ = some (d, ρ) := by unfold mpu; rw [h]
theorem apu_ev {m : ML} {ρ : Ro} {d : List D} (h : m ρ = some d) : apu m ρ = some (d, ρ) := by unfold apu; rw [h]
theorem m2m_ev {f : D -> D -> Option D} {x y : MEm} {ρ ρ1 ρ2 : Ro} {d e g : D} (h1 : x ρ = some (d, ρ1)) (h2 : y ρ1 = some (e, ρ2)) (h3 : f d e = some g) : m2m f x y ρ = some (g, ρ2) := by
 unfold m2m; rw [h1]; simp only; rw [h2]; simp only; rw [h3]
theorem aconsm_ev {x : MEm} {r : MLm} {ρ ρ1 ρ2 : Ro} {d : D} {ds : List D} (h1 : x ρ = some (d, ρ1)) (h2 : r ρ1 = some (ds, ρ2)) : aconsm x r ρ = some (d :: ds, ρ2) := by
 unfold aconsm; rw [h1]; simp only; rw [h2]
theorem mlstm_ev {m : MLm} {ρ ρ1 : Ro} {ds : List D} (h : m ρ = some (ds, ρ1)) (hz : ds.length <= sizeLine) : mlstm m ρ = some (.lst ds, ρ1) := by
 unfold mlstm; rw [h]; simp only [hz, if_true]
theorem msetm_ev {i : Nat} {x : MEm} {ρ ρ1 : Ro} {d : D} (h : x ρ = some (d, ρ1)) : msetm i x ρ = some (.nx (ρ1.set i (some (.sh d)))) := by unfold msetm; rw [h]
theorem mretG_ev {i : Nat} {x : MEm} {ρ ρ1 : Ro} {d : D} {p : Addr} {r : List D} (h : x ρ = some (d, ρ1)) (h2 : ρ1[i]? = some (some (.ob p r))) : mretG i x ρ = some (.rg d p r) := by unfold mretG; rw [h]; simp only; rw [h2]
theorem mcallG_ob {f : MG} {i : Nat} {m : MLm} {ρ ρ1 : Ro} {p : Addr} {r0 r1 r2 ds : List D} {t : Rt} {d : D} (h0 : ρ[i]? = some (some (.ob p r2))) (h1 : m ρ = some (ds, ρ1)) (h2 : ρ1[i]? = some (some (.ob p r0))) (h3 : f p r0 ds = some (t, r1)) (h4 : rtD t = some d) : mcallG f i m ρ = some (d, ρ1.set i (some (.ob p r1))) := by
 unfold mcallG; rw [h0]; simp only; rw [h1]; simp only; rw [h2]; simp only; rw [h3]; simp only; rw [h4]
theorem mcallG_own {f : MG} {i : Nat} {m : MLm} {ρ ρ1 : Ro} {r0 r1 r2 ds : List D} {t : Rt} {d : D} (h0 : ρ[i]? = some (some (.own r2))) (h1 : m ρ = some (ds, ρ1)) (h2 : ρ1[i]? = some (some (.own r0))) (h3 : ∀ p, f p r0 ds = some (t, r1)) (h4 : rtD t = some d) : mcallG f i m ρ = some (d, ρ1.set i (some (.own r1))) := by
 unfold mcallG; rw [h0]; simp only; rw [h1]; simp only; rw [h2]; simp only; rw [anyP_of h3]; simp only; rw [h4]
theorem runG_rg {n : Nat} {m : MS} {p : Addr} {r r' ds : List D} {d : D} (h : m (startG n p r ds) = some (.rg d p r')) : runG n m p r ds = some (.sh d, r') := by unfold runG; rw [h]; simp only [if_true]
theorem runG_rgf {n : Nat} {m : MS} {p : Addr} {r r' ds es : List D} (h : m (startG n p r ds) = some (.rgf es p r')) : runG n m p r ds = some (.fr es, r') := by unfold runG; rw [h]; simp only [if_true]
noncomputable def RL (a b : Int) : List D := [.int a, .int b]
theorem at3 (x y z : Int) (k : Int) (h0 : 0 <= k) (h1 : k < 3) : ∃ w, atI [D.int x, .int y, .int z] k = some (.int w) /\ (w = x \/ w = y \/ w = z) := by
 have : k = 0 \/ k = 1 \/ k = 2 := by omega
 rcases this with h | h | h <;> subst h
 ·exact ⟨_, rfl, by simp⟩
 ·exact ⟨_, rfl, by simp⟩
 ·exact ⟨_, rfl, by simp⟩
end
section
open PySem L2
theorem next_eq (c k m : Int) (h : 0 < m) (h2 : m < 1073741824) : ∃ x c' k', 0 <= x /\ x < m /\ ∀ p, m_Z15 p (RL c k) [.int m] = some (.sh (.int x), RL c' k') := by
 have hp : ((10 : Int) ^ (18 : Int).toNat) = 10 ^ 18 := rfl
 have o1 : powOk 10 18 = true := by decide
 have c0 : ∀ x y : Int, atI [D.int x, D.int y] 0 = some (.int x) := fun _ _ => rfl
 have c1 : ∀ x y : Int, atI [D.int x, D.int y] 1 = some (.int y) := fun _ _ => rfl
 have n0 : ixN (0 + 1 + 1) 0 = some 0 := rfl
 have n1 : ixN (0 + 1 + 1) 1 = some 1 := rfl
 by_cases hb : 10 ^ 18 <= c
 ·refine ⟨c % m, c / m, k + 1, Int.emod_nonneg _ (by omega), Int.emod_lt_of_pos _ h, fun p => ?_⟩
  unfold m_Z15
  refine runG_rg ?_
  unfold b_Z15 startG RL
  simp_arith [hp, o1, c0, c1, hb, decide_true, if_true, modOk_of c m h, fdivOk_of c m h h2, n0, n1, mretG, mpu, set_cons_zero, set_cons_succ]
 ·have q3 : ∀ i, modOk i 2147483647 = true := fun i => modOk_of _ _ (by decide)
  have q4 : ∀ i, modOk i 2147483629 = true := fun i => modOk_of _ _ (by decide)
  have q5 : ∀ i, modOk i 2147483587 = true := fun i => modOk_of _ _ (by decide)
  have q6 : ∀ i, modOk i m = true := fun i => modOk_of _ _ h
  have f8 : ∀ i, fdivOk i 8 = true := fun i => fdivOk_of _ _ (by decide) (by decide)
  have m1 : ∀ i, mulOk i 69621 = true := fun i => mulOk_r _ _ (by decide) (by decide)
  have m2 : ∀ i, mulOk i 7919 = true := fun i => mulOk_r _ _ (by decide) (by decide)
  have m3 : ∀ i, mulOk i 48271 = true := fun i => mulOk_r _ _ (by decide) (by decide)
  have m4 : ∀ i, mulOk i 40692 = true := fun i => mulOk_r _ _ (by decide) (by decide)
  have bb := mod_cases (x := c * 69621 + (k + 1) * 7919 + 13) (show (0 : Int) < 2147483647 by decide)
  have m5 : mulOk ((c * 69621 + (k + 1) * 7919 + 13) % 2147483647) ((c * 69621 + (k + 1) * 7919 + 13) % 2147483647) = true := mulOk_l _ _ (by omega) (by omega)
  refine ⟨_, c, k + 1, Int.emod_nonneg _ (by omega), Int.emod_lt_of_pos (((((c * 69621 + (k + 1) * 7919 + 13) % 2147483647) * ((c * 69621 + (k + 1) * 7919 + 13) % 2147483647) % 2147483629) * 48271 + (k + 1) * 40692) % 2147483587 / 8) h, fun p => ?_⟩
  unfold m_Z15
  refine runG_rg ?_
  unfold b_Z15 startG RL
  simp_arith [hp, o1, c0, c1, hb, decide_false, if_true, q3, q4, q5, q6, f8, m1, m2, m3, m4, m5, n0, n1, mretG, mpu, set_cons_zero, set_cons_succ]
abbrev Nx (c k m x c' k' : Int) : Prop := ∀ p, m_Z15 p (RL c k) [.int m] = some (.sh (.int x), RL c' k')
theorem next_env {p : Addr} {c k m x c' k' : Int} {e : ME} {tl : List (Option S)} (h : Nx c k m x c' k') (hx : e (some (.ob p (RL c k)) :: tl) = some (.int m)) : mcallG m_Z15 0 (apu (acons e anil)) (some (.ob p (RL c k)) :: tl) = some (.int x, some (.ob p (RL c' k')) :: tl) :=
 mcallG_ob (ρ := some (.ob p (RL c k)) :: tl) rfl (apu_ev (acons_ev hx anil_ev)) rfl (h p) rfl
theorem some_number_eq (c k kind : Int) : ∃ x c' k', ∀ p, m_Z0 p (RL c k) [.int kind] = some (.sh (.int x), RL c' k') := by
 have i2 : 0 + 1 + 1 <= sizeLine := le_size (by decide)
 have tst : ∀ (p : Addr) (j : Int), mtest (m2 eqSD (mvar 1) (mc (.int j))) [some (.ob p (RL c k)), some (.sh (.int kind))] = some (kind == j) := fun p j => by unfold mtest m2; rfl
 by_cases h0 : kind = 0
 ·obtain ⟨x, c1, k1, _, _, e⟩ := next_eq c k 4 (by decide) (by decide)
  refine ⟨x, c1, k1, fun p => ?_⟩
  unfold m_Z0 b_Z0
  refine runG_rg (seq_after (o := .rg (.int x) p (RL c1 k1)) ?_)
  show mif _ _ _ [some (.ob p (RL c k)), some (.sh (.int kind))] = _
  rw [mif_ev (tst p 0), show (kind == 0) = true by rw [h0]; rfl]
  exact mretG_ev (next_env e rfl) rfl
 ·have f0 : (kind == 0) = false := beq_eq_false_iff_ne.mpr h0
  by_cases h1 : kind = 1
  ·obtain ⟨x, c1, k1, _, _, e⟩ := next_eq c k 21 (by decide) (by decide)
   refine ⟨x - 10, c1, k1, fun p => ?_⟩
   unfold m_Z0 b_Z0
   refine runG_rg (seqI (ρ' := [some (.ob p (RL c k)), some (.sh (.int kind))]) ?_ (seq_after (o := .rg (.int (x - 10)) p (RL c1 k1)) ?_))
   ·show mif _ _ _ [some (.ob p (RL c k)), some (.sh (.int kind))] = _
    rw [mif_ev (tst p 0), f0]; rfl
   ·rw [mif_ev (tst p 1), show (kind == 1) = true by rw [h1]; rfl]
    exact mretG_ev (m2m_ev (next_env e rfl) (mpu_ev (d := .int 10) rfl) rfl) rfl
  ·have f1 : (kind == 1) = false := beq_eq_false_iff_ne.mpr h1
   by_cases h2 : kind = 2
   ·obtain ⟨x, c1, k1, _, _, e⟩ := next_eq c k 1001 (by decide) (by decide)
    refine ⟨x - 500, c1, k1, fun p => ?_⟩
    unfold m_Z0 b_Z0
    refine runG_rg (seqI (ρ' := [some (.ob p (RL c k)), some (.sh (.int kind))]) ?_ (seqI (ρ' := [some (.ob p (RL c k)), some (.sh (.int kind))]) ?_ (seq_after (o := .rg (.int (x - 500)) p (RL c1 k1)) ?_)))
    ·show mif _ _ _ [some (.ob p (RL c k)), some (.sh (.int kind))] = _
     rw [mif_ev (tst p 0), f0]; rfl
    ·rw [mif_ev (tst p 1), f1]; rfl
    ·rw [mif_ev (tst p 2), show (kind == 2) = true by rw [h2]; rfl]
     exact mretG_ev (m2m_ev (next_env e rfl) (mpu_ev (d := .int 500) rfl) rfl) rfl
   ·have f2 : (kind == 2) = false := beq_eq_false_iff_ne.mpr h2
    obtain ⟨x, c1, k1, l1, u1, e⟩ := next_eq c k 2 (by decide) (by decide)
    obtain ⟨y, c2, k2, l2, u2, e2⟩ := next_eq c1 k1 1000 (by decide) (by decide)
    obtain ⟨z, hz, hz2⟩ : ∃ z, atI [D.int (-1), .int 1] x = some (.int z) /\ (z = -1 \/ z = 1) := by
     have : x = 0 \/ x = 1 := by omega
     rcases this with h | h <;> subst h
     ·exact ⟨_, rfl, by simp⟩
     ·exact ⟨_, rfl, by simp⟩
    have mu : mulOk z (100000000000000000000000000000 + y) = true := mulOk_l _ _ (by omega) (by omega)
    refine ⟨z * (100000000000000000000000000000 + y), c2, k2, fun p => ?_⟩
    unfold m_Z0 b_Z0
    refine runG_rg (seqI (ρ' := [some (.ob p (RL c k)), some (.sh (.int kind))]) ?_ (seqI (ρ' := [some (.ob p (RL c k)), some (.sh (.int kind))]) ?_ (seqI (ρ' := [some (.ob p (RL c k)), some (.sh (.int kind))]) ?_ ?_)))
    ·show mif _ _ _ [some (.ob p (RL c k)), some (.sh (.int kind))] = _
     rw [mif_ev (tst p 0), f0]; rfl
    ·rw [mif_ev (tst p 1), f1]; rfl
    ·rw [mif_ev (tst p 2), f2]; rfl
    ·have p29 : (10 : Int) ^ (29 : Int).toNat = 100000000000000000000000000000 := by decide
     have o29 : powOk 10 29 = true := by decide
     refine mretG_ev (m2m_ev (m2m_ev (mpu_ev (mlst_ev (sized_ev (acons_ev (d := .int (-1)) rfl (acons_ev (d := .int 1) rfl anil_ev)) i2))) (next_env e rfl) (g := .int z) hz) (m2m_ev (mpu_ev (d := .int 100000000000000000000000000000) ?_) (next_env e2 rfl) (g := .int (100000000000000000000000000000 + y)) rfl) ?_) rfl
     ·simp_arith [p29, o29, if_true]
     ·show (if mulOk _ _ = true then _ else none) = _
      rw [if_pos mu]
end
section
open PySem L2
theorem mcompmB_ev {src : List (Option Nat)} {mi : ML} {i j : Nat} {elt : MEm} {ρ ρb : Ro} {rr : Addr} {r0 r1 its out : List D} (h0 : ρ[i]? = some (some (.ob rr r0))) (h1 : mi ρ = some its) (h2 : compDm elt its ((blkRo src ρ).set j (some (.own r0))) [] = some (out, ρb)) (h3 : ρb[j]? = some (some (.own r1))) : mcompmB src mi i j elt ρ = some (.lst out, ρ.set i (some (.ob rr r1))) := by
 unfold mcompmB
 rw [h0]; simp only; rw [h1]; simp only; rw [h2]; simp only; rw [h3]
theorem numbers_eq (kind : Int) : ∀ (its : List Int) (c k : Int) (o : Option S) (acc : List Int), acc.length + its.length <= 1000 -> ∃ (f : List Int) (c' k' : Int) (o' : Option S), f.length = acc.length + its.length /\
  compDm (mcallG m_Z0 1 (apu (acons (mvar 2) anil))) (its.map .int) [o, some (.own (RL c k)), some (.sh (.int kind))] (acc.map .int) = some (f.map .int, [o', some (.own (RL c' k')), some (.sh (.int kind))])
 | [], c, k, o, acc, _ => ⟨acc, c, k, o, by simp, rfl⟩
 | i :: its, c, k, o, acc, h => by
  obtain ⟨x, c1, k1, e⟩ := some_number_eq c k kind
  obtain ⟨f, c', k', o', hf, e2⟩ := numbers_eq kind its c1 k1 (some (.sh (.int i))) (acc ++ [x]) (by simp at h ⊢; omega)
  refine ⟨f, c', k', o', by rw [hf]; simp; omega, ?_⟩
  rw [map_cons, compDm]
  have e3 : mcallG m_Z0 1 (apu (acons (mvar 2) anil)) [some (.sh (.int i)), some (.own (RL c k)), some (.sh (.int kind))] = some (.int x, [some (.sh (.int i)), some (.own (RL c1 k1)), some (.sh (.int kind))]) :=
   mcallG_own (r0 := RL c k) (r2 := RL c k) rfl (apu_ev (acons_ev (d := .int kind) rfl anil_ev)) rfl e rfl
  show (match mcallG m_Z0 1 (apu (acons (mvar 2) anil)) [some (.sh (.int i)), some (.own (RL c k)), some (.sh (.int kind))] with | some (x, ρ1) => if (acc.map D.int).length < sizeLine then compDm _ (its.map .int) ρ1 (acc.map D.int ++ [x]) else none | none => none) = _
  rw [e3]
  have hz : (acc.map D.int).length < sizeLine := by
   have := size_big
   rw [length_map]; simp at h; omega
  simp only [hz, if_true]
  rw [map_append] at e2
  exact e2
theorem intsD_int (f : List Int) : intsD (f.map .int) = some f := intsD_map f
noncomputable def envW (p : Addr) (c k most kind many : Int) (f : List Int) (o5 : Option S) : Ro := [some (.ob p (RL c k)), some (.sh (.int most)), some (.sh (.int kind)), some (.sh (.int many)), some (.sh (.lst (f.map .int))), o5]
theorem row_change {p : Addr} {c k most kind many sh j : Int} {f g : List Int} {E : ME} (hE : sh = j -> E (envW p c k most kind many f (some (.sh (.int sh)))) = some (.lst (g.map .int))) :
  mif (mtest (m2 eqSD (mvar 5) (mc (.int j)))) (mset 4 E) mnext (envW p c k most kind many f (some (.sh (.int sh)))) = some (.nx (envW p c k most kind many (if sh = j then g else f) (some (.sh (.int sh))))) := by
 have ht : mtest (m2 eqSD (mvar 5) (mc (.int j))) (envW p c k most kind many f (some (.sh (.int sh)))) = some (sh == j) := by unfold mtest m2; rfl
 rw [mif_ev ht]
 by_cases h : sh = j
 ·rw [show (sh == j) = true by rw [h]; exact beq_self_eq_true _, if_pos h]
  exact (mset_ev (hE h)).trans rfl
 ·rw [beq_eq_false_iff_ne.mpr h, if_neg h]; rfl
theorem some_row_eq (c k : Int) (most : Nat) (hm : most < 60) : ∃ (f : List Int) (c' k' : Int), f.length <= most /\ ∀ p, m_Z8 p (RL c k) [.int (most : Int)] = some (.sh (.lst (f.map .int)), RL c' k') := by
 have i2 : 0 + 1 + 1 <= sizeLine := le_size (by decide)
 have i3 : 0 + 1 + 1 + 1 <= sizeLine := le_size (by decide)
 obtain ⟨kind, c1, k1, _, _, e1⟩ := next_eq c k 4 (by decide) (by decide)
 obtain ⟨w, c2, k2, l2, u2, e2⟩ := next_eq c1 k1 3 (by decide) (by decide)
 obtain ⟨m, hm1, hm2⟩ := at3 (min 4 ((most : Int) + 1)) (min 9 ((most : Int) + 1)) ((most : Int) + 1) w l2 u2
 obtain ⟨many, c3, k3, l3, u3, e3⟩ := next_eq c2 k2 m (by omega) (by omega)
 obtain ⟨n, rfl⟩ := nat_of l3
 obtain ⟨f, c4, k4, o', hf, e4⟩ := numbers_eq kind ((List.range n).map fun (i : Nat) => (i : Int)) c3 k3 none [] (by simp; omega)
 obtain ⟨sh, c5, k5, _, _, e5⟩ := next_eq c4 k4 6 (by decide) (by decide)
 have hfl : f.length = n := by simpa using hf
 let f1 : List Int := if sh = 0 then isort f else f
 have l1 : f1.length = n := by
  show (if sh = 0 then isort f else f).length = n
  split
  ·rw [isort_length, hfl]
  ·exact hfl
 let g2 : List Int := (List.range f1.length).map fun (i : Nat) => f1.getD i 0 + (if (i : Int) % 2 = 0 then 7 else -7)
 let f2 : List Int := if sh = 1 then g2 else f1
 have l2' : f2.length = n := by
  show (if sh = 1 then g2 else f1).length = n
  split
  ·show (List.map _ (List.range f1.length)).length = n
   rw [length_map, length_range, l1]
  ·exact l1
 let g3 : List Int := (List.replicate n (f2.take 1)).flatten
 let f3 : List Int := if sh = 2 then g3 else f2
 have l3' : f3.length <= n := by
  show (if sh = 2 then g3 else f2).length <= n
  split
  ·show (List.replicate n (f2.take 1)).flatten.length <= n
   rw [length_flatten, map_replicate, sum_replicate_nat, length_take]
   exact Nat.le_trans (Nat.mul_le_mul_left n (Nat.min_le_left 1 _)) (by omega)
  ·omega
 refine ⟨f3, c5, k5, by omega, fun p => ?_⟩
 unfold m_Z8 b_Z8
 refine runG_rg ?_
 refine seqI (ρ' := [some (.ob p (RL c1 k1)), some (.sh (.int (most : Int))), some (.sh (.int kind)), none, none, none]) ((msetm_ev (next_env (tl := [some (.sh (.int (most : Int))), none, none, none, none]) e1 rfl)).trans rfl) ?_
 refine seqI (ρ' := [some (.ob p (RL c3 k3)), some (.sh (.int (most : Int))), some (.sh (.int kind)), some (.sh (.int (n : Int))), none, none]) ?_ ?_
 ·have q1 : sized (acons (call1 min2F (acons (mc (.int 4)) (acons (m2 addD (mvar 1) (mc (.int 1))) anil))) (acons (call1 min2F (acons (mc (.int 9)) (acons (m2 addD (mvar 1) (mc (.int 1))) anil))) (acons (m2 addD (mvar 1) (mc (.int 1))) anil))) [some (.ob p (RL c1 k1)), some (.sh (.int (most : Int))), some (.sh (.int kind)), none, none, none] = some [.int (min 4 ((most : Int) + 1)), .int (min 9 ((most : Int) + 1)), .int ((most : Int) + 1)] := by
   simp_arith [min_if, i3, if_true]
  refine (msetm_ev (ρ1 := [some (.ob p (RL c3 k3)), some (.sh (.int (most : Int))), some (.sh (.int kind)), none, none, none]) (mcallG_ob (ρ1 := [some (.ob p (RL c2 k2)), some (.sh (.int (most : Int))), some (.sh (.int kind)), none, none, none]) (p := p) (r2 := RL c1 k1) rfl (aconsm_ev (m2m_ev (mpu_ev (mlst_ev q1)) (next_env (tl := [some (.sh (.int (most : Int))), some (.sh (.int kind)), none, none, none]) e2 rfl) (g := .int m) hm1) (apu_ev anil_ev)) rfl (e3 p) rfl)).trans rfl
 have kn : okR (n : Int) = true := okR_of (by omega) (by omega)
 refine seqI (ρ' := envW p c4 k4 most kind n f none) ?_ ?_
 ·refine (msetm_ev (mcompmB_ev (ρ := [some (.ob p (RL c3 k3)), some (.sh (.int (most : Int))), some (.sh (.int kind)), some (.sh (.int (n : Int))), none, none]) (rr := p) (r0 := RL c3 k3) (r1 := RL c4 k4) rfl (its := ((List.range n).map fun (i : Nat) => (i : Int)).map .int) ?_ (out := f.map .int) (ρb := [o', some (.own (RL c4 k4)), some (.sh (.int kind))]) e4 rfl)).trans rfl
  unfold mlist
  rw [acons_ev (d := .int (n : Int)) rfl anil_ev, Option.bind_some, rng1_ok kn, Int.toNat_natCast, rangeD_li]
 refine seqI (ρ' := envW p c5 k5 most kind n f (some (.sh (.int sh)))) ((msetm_ev (next_env (tl := [some (.sh (.int (most : Int))), some (.sh (.int kind)), some (.sh (.int (n : Int))), some (.sh (.lst (f.map .int))), none]) e5 rfl)).trans rfl) ?_
 refine seqI (row_change (g := isort f) fun _ => ?_) ?_
 ·refine mlst_ev ?_
  unfold msorted
  show (match intsD (f.map D.int) with | some ns => if ns.length < 64 then some ((isort ns).map D.int) else none | none => none) = _
  rw [intsD_int]
  show (if f.length < 64 then some ((isort f).map D.int) else none) = _
  rw [if_pos (by omega)]
 show mseq _ _ (envW p c5 k5 most kind n f1 (some (.sh (.int sh)))) = _
 refine seqI (row_change (g := g2) fun _ => ?_) ?_
 ·refine mlst_ev ?_
  unfold mcomp
  have ee : mlist enum1 (acons (mvar 4) anil) (envW p c5 k5 most kind n f1 (some (.sh (.int sh)))) = some ((List.range f1.length).map fun (i : Nat) => D.tup [.int (i : Int), .int (f1.getD i 0)]) := by
   unfold mlist
   rw [acons_ev (x := mvar 4) (d := .lst (f1.map .int)) rfl anil_ev, Option.bind_some]
   show some (enumL 0 (f1.map .int)) = _
   rw [enumL_map]
   simp only [Nat.zero_add]
  rw [ee, Option.bind_some]
  refine (compD_map (f := fun (i : Nat) => D.tup [.int (i : Int), .int (f1.getD i 0)]) (G := fun (i : Nat) => D.int (f1.getD i 0 + (if (i : Int) % 2 = 0 then 7 else -7))) (fun _ ρ => ∃ x y, ρ = [x, y]) (by
   rintro i ds ρ ⟨x, y, rfl⟩
   refine ⟨[some (.sh (.int (i : Int))), some (.sh (.int (f1.getD i 0)))], rfl, rfl, ?_, _, _, rfl⟩
   have ix : mix (sized (acons (mc (.int 7)) (acons (m1 negD (mc (.int 7))) anil))) (m2 modD (mvar 0) (mc (.int 2))) [some (.sh (.int (i : Int))), some (.sh (.int (f1.getD i 0)))] = some (.int (if (i : Int) % 2 = 0 then 7 else -7)) := by
    refine mix_ev (sized_ev (acons_ev (d := .int 7) rfl (acons_ev (d := .int (-7)) rfl anil_ev)) i2) (k := (i : Int) % 2) ?_ ?_
    ·simp_arith [modOk_of (i : Int) 2 (by decide), if_true]
    ·have := mod_cases (x := (i : Int)) (show (0 : Int) < 2 by decide)
     have : (i : Int) % 2 = 0 \/ (i : Int) % 2 = 1 := by omega
     rcases this with h | h
     ·rw [h]; rfl
     ·rw [h]; rfl
   rw [m2_at2 (a := .int (f1.getD i 0)) rfl ix]; rfl) (List.range f1.length) _ [] ⟨none, none, rfl⟩ (le_size (by simp; omega))).trans ?_
  rw [nil_append]
  show some _ = some (List.map D.int (List.map _ (List.range f1.length)))
  rw [map_map]
  rfl
 show mseq _ _ (envW p c5 k5 most kind n f2 (some (.sh (.int sh)))) = _
 refine seqI (row_change (g := g3) fun _ => ?_) ?_
 ·refine mlst_ev ?_
  have ec : mcut (bvar 4) onone (osome (mc (.int 1))) (envW p c5 k5 most kind n f2 (some (.sh (.int sh)))) = some ((f2.take 1).map .int) := by
   unfold mcut
   show some (cutL (f2.map D.int) none (some 1)) = _
   rw [cutL_map]
   exact congrArg (fun z => some (List.map D.int z)) (cutI_to f2 1)
  have hl1 : ((f2.take 1).map D.int).length <= 1 := by rw [length_map, length_take]; omega
  have big := size_big
  rw [mrep_ev ec (k := (n : Int)) rfl (by
   unfold repOk
   simp only [Bool.and_eq_true, decide_eq_true_eq]
   refine ⟨⟨by omega, by omega⟩, ?_⟩
   rw [Int.toNat_natCast]
   exact Nat.le_trans (Nat.mul_le_mul_right n hl1) (by omega)), Int.toNat_natCast]
  show some _ = some (List.map D.int (List.replicate n (f2.take 1)).flatten)
  rw [map_flatten, map_replicate]
 show mretG 0 (mpu (mvar 4)) (envW p c5 k5 most kind n f3 (some (.sh (.int sh)))) = _
 exact mretG_ev (mpu_ev (d := .lst (f3.map .int)) rfl) rfl
theorem some_step_eq (c k : Int) : ∃ (s c' k' : Int), 1 <= s /\ s <= 100000000000000000000000000000 /\ ∀ p, m_Z4 p (RL c k) [] = some (.sh (.int s), RL c' k') := by
 have i5 : 0 + 1 + 1 + 1 + 1 + 1 <= sizeLine := le_size (by decide)
 obtain ⟨x, c1, k1, l1, u1, e1⟩ := next_eq c k 4 (by decide) (by decide)
 obtain ⟨y, c2, k2, l2, u2, e2⟩ := next_eq c1 k1 40 (by decide) (by decide)
 obtain ⟨z, c3, k3, l3, u3, e3⟩ := next_eq c2 k2 5 (by decide) (by decide)
 have p29 : (10 : Int) ^ (29 : Int).toNat = 100000000000000000000000000000 := by decide
 have o29 : powOk 10 29 = true := by decide
 obtain ⟨s, hs, hs2⟩ : ∃ s, atI [D.int 1, .int 1, .int (1 + x), .int (1 + y), .int 100000000000000000000000000000] z = some (.int s) /\ (1 <= s /\ s <= 100000000000000000000000000000) := by
  have : z = 0 \/ z = 1 \/ z = 2 \/ z = 3 \/ z = 4 := by omega
  rcases this with h | h | h | h | h <;> subst h <;> exact ⟨_, rfl, by omega⟩
 refine ⟨s, c3, k3, hs2.1, hs2.2, fun p => ?_⟩
 unfold m_Z4 b_Z4
 refine runG_rg (mretG_ev (m2m_ev (mlstm_ev (aconsm_ev (mpu_ev (d := .int 1) rfl) (aconsm_ev (mpu_ev (d := .int 1) rfl) (aconsm_ev (m2m_ev (mpu_ev (d := .int 1) rfl) (next_env (tl := []) e1 rfl) (g := .int (1 + x)) rfl) (aconsm_ev (m2m_ev (mpu_ev (d := .int 1) rfl) (next_env (tl := []) e2 rfl) (g := .int (1 + y)) rfl) (apu_ev (acons_ev (d := .int 100000000000000000000000000000) ?_ anil_ev)))))) i5) (next_env (tl := []) e3 rfl) (g := .int s) hs) rfl)
 simp_arith [p29, o29, if_true]
end
section
open PySem L2
theorem mtest_bl {x : ME} {ρ : Ro} {b : Bool} (h : x ρ = some (.bl b)) : mtest x ρ = some b := by unfold mtest; rw [h]
theorem pots_comp : ∀ (xs : List Int) (o : Option S) (acc : List Int), acc.length + xs.length <= 1000 -> compP (.nm 0) (sized (acons (mvar 0) (acons (mc (.int 0)) anil))) (xs.map .int) [o] (acc.map fun c => RL c 0) = some ((acc ++ xs).map fun c => RL c 0)
 | [], o, acc, _ => by rw [append_nil]; rfl
 | x :: xs, o, acc, h => by
  have i2 : 0 + 1 + 1 <= sizeLine := le_size (by decide)
  have big := size_big
  rw [map_cons, compP]
  show (match sized (acons (mvar 0) (acons (mc (.int 0)) anil)) [some (.sh (.int x))] with | some ds => if (acc.map fun c => RL c 0).length < sizeLine then compP _ _ (xs.map .int) [some (.sh (.int x))] ((acc.map fun c => RL c 0) ++ [ds]) else none | none => none) = _
  rw [sized_ev (acons_ev (d := .int x) rfl (acons_ev (d := .int 0) rfl anil_ev)) i2]
  have hz : (acc.map fun c => RL c 0).length < sizeLine := by rw [length_map]; simp at h; omega
  simp only [hz, if_true]
  have := pots_comp xs (some (.sh (.int x))) (acc ++ [x]) (by simp at h ⊢; omega)
  rw [map_append, append_assoc] at this
  exact this
theorem pots_eq (xs : List Int) (h : xs.length <= 63) : ∃ cs : List Int, m_law_pots [.lst (xs.map .int)] = some (cs.map fun c => RL c 0) := by
 unfold m_law_pots runP
 have i2 : 0 + 1 + 1 <= sizeLine := le_size (by decide)
 have e0 : mtest (m2 eqSD (mlen (bvar 0)) (mc (.int 0))) (startS 1 [.lst (xs.map .int)]) = some ((xs.length : Int) == 0) := by
  rw [tI_ev (i := (xs.length : Int)) (by rw [mlen_ev (show bvar 0 _ = some (xs.map .int) from rfl), length_map])]
 rw [e0]
 cases hb : ((xs.length : Int) == 0) with
 | true =>
  refine ⟨[0], ?_⟩
  show mlst1 _ _ = _
  unfold mlst1
  rw [sized_ev (acons_ev (d := .int 0) rfl (acons_ev (d := .int 0) rfl anil_ev)) i2]
  rfl
 | false =>
  refine ⟨cutI xs none (some 63), ?_⟩
  show mcompP _ _ _ _ _ = _
  unfold mcompP
  have c1 : aslst (mlst (mcut (bvar 0) onone (osome (mc (.int 63))))) (startS 1 [.lst (xs.map .int)]) = some ((cutI xs none (some 63)).map .int) := by
   refine aslst_ev (mlst_ev ?_)
   unfold mcut
   exact congrArg some (cutL_map D.int xs none (some 63))
  rw [c1, Option.bind_some]
  have := cutI_len xs none (some 63)
  exact pots_comp (cutI xs none (some 63)) none [] (by simp; omega)
end
section
open PySem L2
def Mo (P : List Nat -> Prop) (v : Nat) : Prop := (∃ l, P l /\ l.length = v) /\ ∀ l, P l -> l.length <= v
theorem Mo.uniq {P : List Nat -> Prop} {a b : Nat} (h : Mo P a) (k : Mo P b) : a = b := by
 obtain ⟨⟨l, hl, rfl⟩, h⟩ := h
 obtain ⟨⟨m, hm, rfl⟩, k⟩ := k
 exact Nat.le_antisymm (k l hl) (h m hm)
theorem Mo.iff {P Q : List Nat -> Prop} {a : Nat} (h : Mo P a) (e : ∀ l, P l ↔ Q l) : Mo Q a := by
 obtain ⟨⟨l, hl, z⟩, h⟩ := h
 exact ⟨⟨l, (e l).mp hl, z⟩, fun m hm => h m ((e m).mpr hm)⟩
theorem Mo.or {P Q R : List Nat -> Prop} {a b : Nat} (h : Mo P a) (k : Mo Q b) (e : ∀ l, R l ↔ P l \/ Q l) : Mo R (max a b) := by
 obtain ⟨⟨l, hl, rfl⟩, h⟩ := h
 obtain ⟨⟨m, hm, rfl⟩, k⟩ := k
 refine ⟨?_, fun u hu => ?_⟩
 ·by_cases z : l.length <= m.length
  ·exact ⟨m, (e m).mpr (.inr hm), by omega⟩
  ·exact ⟨l, (e l).mpr (.inl hl), by omega⟩
 ·rcases (e u).mp hu with z | z
  ·have := h u z; omega
  ·have := k u z; omega
section
variable {x : Nat -> Int} {n : Nat} {s : Int} {t : Nat} {d : Bool} {p : Nat}
def FP (x : Nat -> Int) (n : Nat) (s : Int) (t : Nat) (d : Bool) (p k : Nat) (l : List Nat) : Prop := FS x n s t d p l /\ ∀ q m, l = p :: q :: m -> q < k
theorem hd_cons {p : Nat} {l : List Nat} (h : Hd p l) : ∃ m, l = p :: m := h
theorem fp_start (hp : p < n) : Mo (FP x n s t d p (p + 1)) 1 := by
 refine ⟨⟨[p], ⟨⟨hp, [], rfl⟩, fun q m e => by cases e⟩, rfl⟩, fun l h => ?_⟩
 obtain ⟨m, rfl⟩ := hd_cons h.1.2
 cases m with
 | nil => simp
 | cons q m =>
  have h1 := h.2 q m rfl
  have h2 : p < q := h.1.1.1
  omega
theorem fp_end : ∀ l, FP x n s t d p n l ↔ FS x n s t d p l := fun l => by
 refine ⟨fun h => h.1, fun h => ⟨h, fun q m e => ?_⟩⟩
 subst e
 rcases h.1.2.2 with z | ⟨u, _, z⟩ <;> exact z.lt
theorem fp_miss {k v : Nat} (h : Mo (FP x n s t d p k) v) (hf : ¬ far s d (x p) (x k)) : Mo (FP x n s t d p (k + 1)) v := by
 refine h.iff fun l => ⟨fun z => ⟨z.1, fun q m e => Nat.lt_succ_of_lt (z.2 q m e)⟩, fun z => ⟨z.1, fun q m e => ?_⟩⟩
 have h1 := z.2 q m e
 have h2 := z.1.1
 rw [e] at h2
 by_cases hq : q = k
 ·subst hq; exact absurd h2.2.1 hf
 ·omega
theorem fp_hit {k v w : Nat} (hk : p < k) (h : Mo (FP x n s t d p k) v) (hf : far s d (x p) (x k)) (hw : Mo (FR x n s t d k) w) : Mo (FP x n s t d p (k + 1)) (max v (1 + w)) := by
 refine Mo.or h (Q := fun l => ∃ m, l = p :: m /\ FR x n s t d k m) ?_ fun l => ⟨fun z => ?_, fun z => ?_⟩
 ·obtain ⟨⟨m, hm, rfl⟩, hw⟩ := hw
  refine ⟨⟨p :: m, ⟨m, rfl, hm⟩, by simp; omega⟩, ?_⟩
  rintro l ⟨m', rfl, hm'⟩
  have := hw m' hm'
  simp; omega
 ·obtain ⟨m, rfl⟩ := hd_cons z.1.2
  cases m with
  | nil => exact .inl ⟨z.1, fun q m e => by cases e⟩
  | cons q m =>
   have hq := z.2 q m rfl
   by_cases e : q = k
   ·subst e
    exact .inr ⟨q :: m, rfl, z.1.1.2.2, m, rfl⟩
   ·exact .inl ⟨z.1, fun q' m' e' => by cases e'; omega⟩
 ·rcases z with z | ⟨m, rfl, hm⟩
  ·exact ⟨z.1, fun q m e => Nat.lt_succ_of_lt (z.2 q m e)⟩
  ·obtain ⟨m', rfl⟩ := hd_cons hm.2
   exact ⟨⟨⟨hk, hf, hm.1⟩, _, rfl⟩, fun q m e => by cases e; omega⟩
theorem fr_zero {a : Nat} (h : Mo (FS x n s 0 d p) a) : Mo (FR x n s 0 d p) a := h.iff fun l => ⟨fun z => ⟨.inl z.1, z.2⟩, fun z => ⟨z.1.resolve_right fun hpat => by obtain ⟨u, e, _⟩ := hpat; omega, z.2⟩⟩
theorem fr_succ {a b u : Nat} (h : Mo (FS x n s (u + 1) d p) a) (k : Mo (FS x n s u (!d) p) b) : Mo (FR x n s (u + 1) d p) (max a b) := Mo.or h k fun l => by
 constructor
 ·rintro ⟨z | ⟨v, e, z⟩, y⟩
  ·exact .inl ⟨z, y⟩
  ·cases e; exact .inr ⟨z, y⟩
 ·rintro (z | z)
  ·exact ⟨.inl z.1, z.2⟩
  ·exact ⟨.inr ⟨u, rfl, z.1⟩, z.2⟩
end
theorem few_ex (row : List Int) (s : Int) (hr : row.length <= 300) : ∀ t, ∃ U V, Few row s t U V
 | 0 => ⟨_, _, nils_few row s⟩
 | t + 1 => by
  obtain ⟨U, V, hf⟩ := few_ex row s hr t
  obtain ⟨U', V', _, h⟩ := one_turn_more_eq hr hf
  exact ⟨U', V', h⟩
theorem kt_of {row : List Int} {s : Int} {t k : Nat} (hr : row.length <= 300) (h : Mo (Tn (xr row) row.length s t) k) : Kt row s t k := by
 obtain ⟨U, V, hf⟩ := few_ex row s hr (t + 1)
 obtain ⟨l, _, hl⟩ := longest_tail_eq hr hf
 exact ⟨l, hl, Mo.uniq ⟨⟨l, hl.1, rfl⟩, fun m hm => hl.len m hm⟩ h⟩
end
section
open PySem L2
section
variable {α : Type}
noncomputable def pick (b : Bool) (w : α × α) : α := if b then w.2 else w.1
noncomputable def putp (b : Bool) (v : α) (w : α × α) : α × α := if b then (w.1, v) else (v, w.2)
theorem pick_put (b c : Bool) (v : α) (w : α × α) : pick c (putp b v w) = if c = b then v else pick c w := by cases b <;> cases c <;> rfl
noncomputable def bit (b : Bool) : Int := if b then 1 else 0
noncomputable def FW (f : α -> D) (A : List (α × α)) : List Fl := A.map fun w => .l [f w.1, f w.2]
noncomputable def DW (f : α -> D) (A : List (α × α)) : List D := A.map fun w => .lst [f w.1, f w.2]
theorem FW_D (f : α -> D) (A : List (α × α)) : cellD (.row (FW f A)) = .lst (DW f A) := by
 show D.lst ((FW f A).map L2.flD) = _
 unfold FW DW
 rw [map_map]
 rfl
theorem FW_S (f : α -> D) (A : List (α × α)) : (FW f A).map flS = DW f A := by
 unfold FW DW
 rw [map_map]
 rfl
theorem at_pair (f : α -> D) (w : α × α) (b : Bool) : atI [f w.1, f w.2] (bit b) = some (f (pick b w)) := by cases b <;> rfl
theorem at_DW (f : α -> D) (A : List (α × α)) (p : Nat) (hp : p < A.length) (dv : α × α) : atI (DW f A) (p : Int) = some (.lst [f (A.getD p dv).1, f (A.getD p dv).2]) := by
 have := atI_map (fun w : α × α => D.lst [f w.1, f w.2]) A (p : Int) (by omega) (by omega) dv
 rw [Int.toNat_natCast] at this
 exact this
theorem ix2_ev {f : α -> D} {A : List (α × α)} {m : ML} {i j : ME} {ρ : Ro} {p : Nat} {b : Bool} (dv : α × α) (h1 : m ρ = some (DW f A)) (h2 : i ρ = some (.int (p : Int))) (h3 : j ρ = some (.int (bit b))) (hp : p < A.length) : mix (aslst (mix m i)) j ρ = some (f (pick b (A.getD p dv))) :=
 mix_ev (aslst_ev (mix_ev h1 h2 (at_DW f A p hp dv))) h3 (at_pair f _ b)
theorem FW_get {f : α -> D} {A : List (α × α)} {p : Nat} (dv : α × α) (hp : p < A.length) : (FW f A)[p]? = some (.l [f (A.getD p dv).1, f (A.getD p dv).2]) := by
 unfold FW
 rw [getElem?_map, getD_eq_getElem?_getD, getElem?_eq_getElem hp]
 rfl
theorem FW_len {f : α -> D} {A : List (α × α)} : (FW f A).length = A.length := by unfold FW; simp
theorem ixN_at (n p : Nat) (h : p < n) : ixN n (p : Int) = some p := by
 have := ixN_in (n := n) (k := (p : Int)) (by omega) (by omega)
 rw [this, Int.toNat_natCast]
theorem setR_ev {f : α -> D} {A : List (α × α)} {p : Nat} {b : Bool} {v : α} (dv : α × α) (hp : p < A.length) : setR (p : Int) (bit b) (f v) (FW f A) = some (FW f (A.set p (putp b v (A.getD p dv)))) := by
 unfold setR
 rw [FW_len, ixN_at _ _ hp]
 simp only
 rw [FW_get dv hp]
 have e : ∀ w : α × α, (match ixN [f w.1, f w.2].length (bit b) with | some m => some ((FW f A).set p (.l ([f w.1, f w.2].set m (f v)))) | none => none) = some (FW f (A.set p (putp b v w))) := fun w => by
  unfold FW
  rw [map_set]
  cases b <;> rfl
 exact e _
theorem msetR_ev {f : α -> D} {A : List (α × α)} {i : Nat} {k1 k2 : ME} {g : Ro -> Bx -> Option D} {ρ : Ro} {β : Bx} {y : Addr} {p : Nat} {b : Bool} {v : α} (dv : α × α) (hg : g ρ β = some (f v)) (hi : ρ[i]? = some (some (.sh (.ptr y)))) (hb : β.lookup y = some (.row (FW f A))) (h2 : k1 ρ = some (.int (p : Int))) (h3 : k2 ρ = some (.int (bit b))) (hp : p < A.length) : msetR i k1 k2 g ρ β = some (.nx ρ, updB y (.row (FW f (A.set p (putp b v (A.getD p dv))))) β) := by
 unfold msetR
 simp only [hg, hi, h2, h3, hb]
 rw [setR_ev dv hp]
 rfl
theorem getD_put {A : List (α × α)} {p q : Nat} {b c : Bool} {v : α} (dv : α × α) (hp : p < A.length) : pick c ((A.set p (putp b v (A.getD p dv))).getD q dv) = if q = p /\ c = b then v else pick c (A.getD q dv) := by
 rw [getD_eq_getElem?_getD, getElem?_set]
 by_cases h : p = q
 ·subst h
  rw [if_pos rfl, if_pos hp]
  show pick c (putp b v (A.getD p dv)) = _
  rw [pick_put]
  simp
 ·rw [if_neg h, if_neg (fun z => h z.1.symm), getD_eq_getElem?_getD]
end
theorem seqW {x y : MW} {ρ ρ' : Ro} {β β' : Bx} {r : Option (Out × Bx)} (h : x ρ β = some (.nx ρ', β')) (h2 : y ρ' β' = r) : mseqW x y ρ β = r := by
 unfold mseqW; rw [h]; exact h2
theorem wS_nx {m : MS} {ρ ρ' : Ro} {β : Bx} (h : m ρ = some (.nx ρ')) : wS m ρ β = some (.nx ρ', β) := by unfold wS; rw [h]
theorem mifW_f {c : Ro -> Bx -> Option Bool} {x y : MW} {ρ : Ro} {β : Bx} (h : c ρ β = some false) : mifW c x y ρ β = y ρ β := by unfold mifW; rw [h]
theorem mifW_t {c : Ro -> Bx -> Option Bool} {x y : MW} {ρ : Ro} {β : Bx} (h : c ρ β = some true) : mifW c x y ρ β = x ρ β := by unfold mifW; rw [h]
theorem not_bit (b : Bool) : (1 : Int) - bit b = bit (!b) := by cases b <;> rfl
theorem forW_step {α : Type} {f : α -> D} {g : Tg} {body : MW} {d : α} {ds : List α} {ρ ρ1 ρ2 : Ro} {β β2 : Bx} {r : Option (Out × Bx)} (h1 : tgD g (f d) ρ = some ρ1) (h2 : body ρ1 β = some (.nx ρ2, β2)) (h3 : forW g body (ds.map f) ρ2 β2 = r) : forW g body ((d :: ds).map f) ρ β = r := by
 rw [map_cons, forW, h1]
 simp only
 rw [h2]
 exact h3
theorem rng_ev {a b : ME} {ρ : Ro} {i j : Nat} (h1 : a ρ = some (.int (i : Int))) (h2 : b ρ = some (.int (j : Int))) (hi : i <= 1000) (hj : j <= 1000) : mlist rng2 (acons a (acons b anil)) ρ = some (((List.range (j - i)).map (i + ·)).map dN) := by
 unfold mlist
 rw [acons_ev h1 (acons_ev h2 anil_ev), Option.bind_some, rng2_ok (okR_of (by omega) (by omega)) (okR_of (by omega) (by omega)), rangeD_map, map_map, show ((j : Int) - (i : Int)).toNat = j - i by omega]
 rfl
theorem mforW_ev {mi : ML} {g : Tg} {body : MW} {ρ : Ro} {β : Bx} {its : List D} {r : Option (Out × Bx)} (h : mi ρ = some its) (h2 : forW g body its ρ β = r) : mforW mi g body ρ β = r := by
 unfold mforW; rw [h]; exact h2
theorem comp_two (d : D) (m : ME) (hm : ∀ ρ, m ρ = some d) : ∀ (is : List Int) (o : Option S) (acc : List (List D)), acc.length + is.length <= 1000 -> compP (.nm 0) (sized (acons m (acons m anil))) (is.map .int) [o] acc = some (acc ++ List.replicate is.length [d, d])
 | [], o, acc, _ => by simp [compP]
 | i :: is, o, acc, h => by
  have i2 : 0 + 1 + 1 <= sizeLine := le_size (by decide)
  have big := size_big
  rw [map_cons, compP]
  have e1 : tgD (.nm 0) (.int i) [o] = some [some (.sh (.int i))] := rfl
  rw [e1]
  simp only
  rw [sized_ev (acons_ev (hm _) (acons_ev (hm _) anil_ev)) i2]
  simp only
  rw [if_pos (by simp at h; omega), comp_two d m hm is _ _ (by simp at h ⊢; omega)]
  simp [replicate_succ]
theorem compP_ev (d : D) (m : ME) (hm : ∀ ρ, m ρ = some d) (ns : List Int) (hn : ns.length <= 300) {ρ : Ro} (h : mvar 0 ρ = some (RI ns)) : mcompP [none] (aslst (mvar 0)) (.nm 0) (sized (acons m (acons m anil))) ρ = some (List.replicate ns.length [d, d]) := by
 unfold mcompP
 rw [aslst_ev h, Option.bind_some]
 show compP (.nm 0) _ _ [none] [] = _
 rw [comp_two d m hm ns none [] (by simp; omega), nil_append]
end
section
open PySem L2
noncomputable abbrev PW := List (Nat × Nat)
noncomputable abbrev TbD (A : PW) : D := .lst (DW dN A)
noncomputable def eQ (row : List Int) (s : Int) (T : Nat) (Ts : List PW) (o4 o5 o6 o7 o8 o9 : Option S) : Ro := [some (.sh (RI row)), some (.sh (.int s)), some (.sh (dN T)), some (.own (Ts.map TbD)), o4, o5, o6, o7, o8, o9]
abbrev MF' (row : List Int) (s : Int) (u : Nat) (d : Bool) (q v : Nat) : Prop := Mo (FS (xr row) row.length s u d q) v
structure Tb (row : List Int) (s : Int) (u : Nat) (A : PW) : Prop where
 len : A.length = row.length
 at' : ∀ q, q < row.length -> ∀ d, MF' row s u d q (pick (!d) (A.getD q (1, 1)))
structure Inr (row : List Int) (s : Int) (u p k : Nat) (A : PW) : Prop where
 len : A.length = row.length
 behind : ∀ q, p < q -> q < row.length -> ∀ d, MF' row s u d q (pick (!d) (A.getD q (1, 1)))
 here : ∀ d, Mo (FP (xr row) row.length s u d p k) (pick (!d) (A.getD p (1, 1)))
 yet : ∀ q, q < p -> A.getD q (1, 1) = (1, 1)
def Pv (row : List Int) (s : Int) (u : Nat) (Ts : List PW) : Prop := ∀ v, u = v + 1 -> ∃ R B, Ts = R ++ [B] /\ Tb row s v B
theorem thaw_at {ρ : Ro} {β : Bx} {i : Nat} {y : Option S} (h : ρ[i]? = some y) : (thaw ρ β)[i]? = some (thawS β y) := by unfold thaw; rw [getElem?_map, h]; rfl
theorem mvar_th {ρ : Ro} {β : Bx} {i : Nat} {d : D} (h : ρ[i]? = some (some (.sh d))) (hd : thawS β (some (.sh d)) = some (.sh d)) : mvar i (thaw ρ β) = some d := by
 unfold mvar; rw [thaw_at h, hd]
theorem bvar_tw {ρ : Ro} {β : Bx} {i : Nat} {y : Addr} {A : PW} (h : ρ[i]? = some (some (.sh (.ptr y)))) (hb : β.lookup y = some (.row (FW dN A))) : bvar i (thaw ρ β) = some (DW dN A) := by
 unfold bvar
 rw [thaw_at h, show thawS β (some (.sh (.ptr y))) = some (.sh (cellD (.row (FW dN A)))) by unfold thawS; simp only; rw [hb], FW_D]
theorem lookE_int {m : ME} {ρ : Ro} {β : Bx} {v : Int} (h : m (thaw ρ β) = some (.int v)) : lookE m ρ β = some (.int v) := by unfold lookE; rw [h]; rfl
theorem setW_ev {i : Nat} {x : Ro -> Bx -> Option D} {ρ : Ro} {β : Bx} {d : D} (h : x ρ β = some d) : msetW i x ρ β = some (.nx (ρ.set i (some (.sh d))), β) := by unfold msetW; rw [h]; rfl
theorem max2_ev {m : ML} {ρ : Ro} {a b : Nat} (h : m ρ = some [dN a, dN b]) : call1 max2F m ρ = some (dN (max a b)) := by
 unfold call1
 rw [h]
 show some (D.int (if (b : Int) > (a : Int) then (b : Int) else (a : Int))) = _
 unfold dN
 congr 2
 split <;> omega
theorem look_b (y : Addr) (c : Cell) (β : Bx) : List.lookup y ((y, c) :: β) = some c := by rw [lookup_cons, beq_self_eq_true]
theorem upd_b (y : Addr) (c c' : Cell) (β : Bx) : updB y c' ((y, c) :: β) = (y, c') :: β := by unfold updB; rw [if_pos rfl]
theorem far_side {s a b : Int} (hs : 1 <= s) : (far s (!decide (b < a)) a b ↔ s <= ((b - a).natAbs : Int)) /\ ¬ far s (decide (b < a)) a b := by
 by_cases h : b < a
 ·rw [decide_eq_true h]
  unfold far
  simp only [Bool.not_true, Bool.false_eq_true, if_false, if_true]
  constructor
  ·omega
  ·omega
 ·rw [decide_eq_false h]
  unfold far
  simp only [Bool.not_false, Bool.false_eq_true, if_false, if_true]
  constructor
  ·omega
  ·omega
theorem abs_if' (z : Int) : (if z < 0 then -z else z) = (z.natAbs : Int) := by split <;> omega
theorem f0_eq (row : List Int) (s : Int) (hs : 1 <= s) (hr : row.length <= 300) (T u p k : Nat) (Ts : List PW) (A : PW) (hp : p < k) (hk : k < row.length) (pv : Pv row s u Ts) (I : Inr row s u p k A) (o8 o9 : Option S) :
  ∃ A' p8 p9, Inr row s u p (k + 1) A' /\ ∀ y, b_law_tables_f0 (eQ row s T Ts (some (.sh (dN u))) (some (.sh (.ptr y))) (some (.sh (dN p))) (some (.sh (dN k))) o8 o9) [(y, .row (FW dN A))] = some (.nx (eQ row s T Ts (some (.sh (dN u))) (some (.sh (.ptr y))) (some (.sh (dN p))) (some (.sh (dN k))) p8 p9), [(y, .row (FW dN A'))]) := by
 obtain ⟨b, hb⟩ : ∃ b, b = decide (xr row k < xr row p) := ⟨_, rfl⟩
 obtain ⟨fa, fb⟩ := far_side (a := xr row p) (b := xr row k) hs
 rw [<- hb] at fa fb
 have lA := I.len
 have ak : ∀ o5 o8 o9, mix (bvar 0) (mvar 7) (eQ row s T Ts (some (.sh (dN u))) o5 (some (.sh (dN p))) (some (.sh (dN k))) o8 o9) = some (.int (xr row k)) := fun o5 o8 o9 => mix_ev (m := bvar 0) rfl rfl (at_nat row k hk)
 have ap : ∀ o5 o8 o9, mix (bvar 0) (mvar 6) (eQ row s T Ts (some (.sh (dN u))) o5 (some (.sh (dN p))) (some (.sh (dN k))) o8 o9) = some (.int (xr row p)) := fun o5 o8 o9 => mix_ev (m := bvar 0) rfl rfl (at_nat row p (by omega))
 have e8 : ∀ y, wS (mset 8 (call1 intF (acons (m2 ltD (mix (bvar 0) (mvar 7)) (mix (bvar 0) (mvar 6))) anil))) (eQ row s T Ts (some (.sh (dN u))) (some (.sh (.ptr y))) (some (.sh (dN p))) (some (.sh (dN k))) o8 o9) [(y, .row (FW dN A))] = some (.nx (eQ row s T Ts (some (.sh (dN u))) (some (.sh (.ptr y))) (some (.sh (dN p))) (some (.sh (dN k))) (some (.sh (.int (bit b)))) o9), [(y, .row (FW dN A))]) := fun y => by
  refine wS_nx ((mset_ev (d := .int (bit b)) ?_).trans rfl)
  unfold call1
  rw [acons_ev ((m2_at2 (ak _ _ _) (ap _ _ _)).trans (show ltD (.int (xr row k)) (.int (xr row p)) = some (.bl (decide (xr row k < xr row p))) from rfl)) anil_ev, <- hb]
  cases b <;> rfl
 have et : ∀ y, wE (mtest (m2 geD (call1 absF (acons (m2 subD (mix (bvar 0) (mvar 7)) (mix (bvar 0) (mvar 6))) anil)) (mvar 1))) (eQ row s T Ts (some (.sh (dN u))) (some (.sh (.ptr y))) (some (.sh (dN p))) (some (.sh (dN k))) (some (.sh (.int (bit b)))) o9) [(y, .row (FW dN A))] = some (decide (s <= ((xr row k - xr row p).natAbs : Int))) := fun y => by
  refine tge_ev ?_ rfl
  unfold call1
  rw [acons_ev ((m2_at2 (ak _ _ _) (ap _ _ _)).trans (show subD (.int (xr row k)) (.int (xr row p)) = some (.int (xr row k - xr row p)) from rfl)) anil_ev]
  show some (D.int (if xr row k - xr row p < 0 then -(xr row k - xr row p) else xr row k - xr row p)) = _
  rw [abs_if']
 by_cases hf : s <= ((xr row k - xr row p).natAbs : Int)
 ·have far1 := fa.mpr hf
  obtain ⟨w, p9, hw, ew⟩ : ∃ (w : Nat) (p9 : Option S), Mo (FR (xr row) row.length s u (!b) k) w /\ p9 = some (.sh (dN w)) /\ ∀ (y : Addr) (rest : MW), mseqW (msetW 9 (lookE (mix (aslst (mix (bvar 5) (mvar 7))) (mvar 8)))) (mseqW (mifW (wE (mtest (m2 gtD (mvar 4) (mc (.int 0))))) (wS (mset 9 (call1 max2F (acons (mvar 9) (acons (mix (aslst (mix (aslst (mix (bvar 3) (m1 negD (mc (.int 1))))) (mvar 7))) (m2 subD (mc (.int 1)) (mvar 8))) anil))))) (wS mnext)) rest) (eQ row s T Ts (some (.sh (dN u))) (some (.sh (.ptr y))) (some (.sh (dN p))) (some (.sh (dN k))) (some (.sh (.int (bit b)))) o9) [(y, .row (FW dN A))] = rest (eQ row s T Ts (some (.sh (dN u))) (some (.sh (.ptr y))) (some (.sh (dN p))) (some (.sh (dN k))) (some (.sh (.int (bit b)))) p9) [(y, .row (FW dN A))] := by
   obtain ⟨a, ha⟩ : ∃ a, a = pick b (A.getD k (1, 1)) := ⟨_, rfl⟩
   have ma : Mo (FS (xr row) row.length s u (!b) k) a := by
    have := I.behind k hp hk (!b)
    rw [Bool.not_not, <- ha] at this
    exact this
   have e9 : ∀ (y : Addr), msetW 9 (lookE (mix (aslst (mix (bvar 5) (mvar 7))) (mvar 8))) (eQ row s T Ts (some (.sh (dN u))) (some (.sh (.ptr y))) (some (.sh (dN p))) (some (.sh (dN k))) (some (.sh (.int (bit b)))) o9) [(y, .row (FW dN A))] = some (.nx (eQ row s T Ts (some (.sh (dN u))) (some (.sh (.ptr y))) (some (.sh (dN p))) (some (.sh (dN k))) (some (.sh (.int (bit b)))) (some (.sh (dN a)))), [(y, .row (FW dN A))]) := fun y => by
    refine (setW_ev (d := dN a) (lookE_int ?_)).trans rfl
    rw [ix2_ev (f := dN) (A := A) (p := k) (b := b) (1, 1) (bvar_tw (i := 5) (y := y) rfl (look_b ..)) (mvar_th (i := 7) (d := dN k) rfl rfl) (mvar_th (i := 8) (d := .int (bit b)) rfl rfl) (by omega), <- ha]
    rfl
   have tu : ∀ (y : Addr) β, wE (mtest (m2 gtD (mvar 4) (mc (.int 0)))) (eQ row s T Ts (some (.sh (dN u))) (some (.sh (.ptr y))) (some (.sh (dN p))) (some (.sh (dN k))) (some (.sh (.int (bit b)))) (some (.sh (dN a)))) β = some (decide ((u : Int) > 0)) := fun y β => mtest_bl ((m2_at2 (a := .int (u : Int)) (b := .int 0) rfl rfl).trans rfl)
   cases u with
   | zero =>
    refine ⟨a, _, fr_zero ma, rfl, fun y rest => ?_⟩
    exact seqW (e9 y) (seqW ((mifW_f (tu y _)).trans rfl) rfl)
   | succ v =>
    obtain ⟨R, B, eT, tb⟩ := pv v rfl
    obtain ⟨c, hc⟩ : ∃ c, c = pick (!b) (B.getD k (1, 1)) := ⟨_, rfl⟩
    have mc' : Mo (FS (xr row) row.length s v (!!b) k) c := by
     have := tb.at' k hk b
     rw [<- hc] at this
     rw [Bool.not_not]
     exact this
    refine ⟨max a c, _, fr_succ ma mc', rfl, fun y rest => ?_⟩
    have tt : wE (mtest (m2 gtD (mvar 4) (mc (.int 0)))) (eQ row s T Ts (some (.sh (dN (v + 1)))) (some (.sh (.ptr y))) (some (.sh (dN p))) (some (.sh (dN k))) (some (.sh (.int (bit b)))) (some (.sh (dN a)))) [(y, .row (FW dN A))] = some true := by
     rw [tu y, decide_eq_true (by omega)]
    refine seqW (e9 y) (seqW ((mifW_t tt).trans (wS_nx ((mset_ev (max2_ev (a := a) (b := c) (acons_ev rfl (acons_ev ?_ anil_ev)))).trans rfl))) rfl)
    rw [ix2_ev (f := dN) (A := B) (p := k) (b := !b) (1, 1) (m := aslst (mix (bvar 3) (m1 negD (mc (.int 1))))) (aslst_ev (mix_ev (m := bvar 3) (ds := Ts.map TbD) (k := -1) rfl rfl (d := TbD B) (by rw [eT]; exact atI_last TbD R B))) rfl ((m2_at2 (a := .int 1) (b := .int (bit b)) rfl rfl).trans (congrArg (fun z => some (D.int z)) (not_bit b))) (by rw [tb.len]; exact hk), <- hc]
  obtain ⟨rfl, ew⟩ := ew
  obtain ⟨v, hv⟩ : ∃ v, v = pick b (A.getD p (1, 1)) := ⟨_, rfl⟩
  refine ⟨A.set p (putp b (max v (1 + w)) (A.getD p (1, 1))), some (.sh (.int (bit b))), some (.sh (dN w)), ⟨by rw [length_set]; exact lA, fun q h1 h2 d => ?_, fun d => ?_, fun q hq => ?_⟩, fun y => ?_⟩
  ·rw [getD_put (1, 1) (by omega), if_neg (by omega)]
   exact I.behind q h1 h2 d
  ·rw [getD_put (1, 1) (by omega)]
   by_cases hd : (!d) = b
   ·rw [if_pos ⟨rfl, hd⟩, <- Bool.not_not d, hd, hv]
    have h0 := I.here (!b)
    rw [Bool.not_not] at h0
    exact fp_hit hp h0 far1 hw
   ·rw [if_neg fun z => hd z.2]
    have : d = b := by cases d <;> cases b <;> simp_all
    subst this
    exact fp_miss (I.here d) fb
  ·rw [getD_eq_getElem?_getD, getElem?_set_ne (by omega), <- getD_eq_getElem?_getD]
   exact I.yet q hq
  ·unfold b_law_tables_f0
   refine seqW (e8 y) ?_
   rw [mifW_t ((et y).trans (by rw [decide_eq_true hf])), ew y]
   have eg : lookE (call1 max2F (acons (mix (aslst (mix (bvar 5) (mvar 6))) (mvar 8)) (acons (m2 addD (mc (.int 1)) (mvar 9)) anil))) (eQ row s T Ts (some (.sh (dN u))) (some (.sh (.ptr y))) (some (.sh (dN p))) (some (.sh (dN k))) (some (.sh (.int (bit b)))) (some (.sh (dN w)))) [(y, .row (FW dN A))] = some (dN (max v (1 + w))) := by
    refine lookE_int (max2_ev (acons_ev ?_ (acons_ev ?_ anil_ev)))
    ·rw [ix2_ev (f := dN) (A := A) (p := p) (b := b) (1, 1) (bvar_tw (i := 5) (y := y) rfl (look_b ..)) (mvar_th (i := 6) (d := dN p) rfl rfl) (mvar_th (i := 8) (d := .int (bit b)) rfl rfl) (by omega), <- hv]
    ·refine (m2_at2 (a := .int 1) (b := dN w) rfl (mvar_th (i := 9) (d := dN w) rfl rfl)).trans ?_
     show some (D.int (1 + (w : Int))) = some (D.int ((1 + w : Nat) : Int))
     congr 2
   rw [msetR_ev (f := dN) (A := A) (p := p) (b := b) (y := y) (v := max v (1 + w)) (1, 1) eg rfl (look_b ..) rfl rfl (by omega), upd_b]
 ·have nf : ¬ far s (!b) (xr row p) (xr row k) := fun z => hf (fa.mp z)
  refine ⟨A, some (.sh (.int (bit b))), o9, ⟨lA, I.behind, fun d => ?_, I.yet⟩, fun y => ?_⟩
  ·refine fp_miss (I.here d) ?_
   by_cases hd : d = b
   ·rw [hd]; exact fb
   ·have : d = !b := by cases d <;> cases b <;> simp_all
    rw [this]; exact nf
  ·unfold b_law_tables_f0
   refine seqW (e8 y) ?_
   rw [mifW_f ((et y).trans (by rw [decide_eq_false hf]))]
   rfl
end
section
open PySem L2
section
variable (row : List Int) (s : Int) (hs : 1 <= s) (hr : row.length <= 300) (T u : Nat) (Ts : List PW) (pv : Pv row s u Ts)
include hs hr pv
theorem inner_eq (p : Nat) : ∀ (j k : Nat) (A : PW) (o7 o8 o9 : Option S), p < k -> k + j = row.length -> Inr row s u p k A ->
  ∃ A' p7 p8 p9, Inr row s u p row.length A' /\ ∀ y, forW (.nm 7) b_law_tables_f0 (((List.range j).map (k + ·)).map dN) (eQ row s T Ts (some (.sh (dN u))) (some (.sh (.ptr y))) (some (.sh (dN p))) o7 o8 o9) [(y, .row (FW dN A))] = some (.nx (eQ row s T Ts (some (.sh (dN u))) (some (.sh (.ptr y))) (some (.sh (dN p))) p7 p8 p9), [(y, .row (FW dN A'))])
 | 0, k, A, o7, o8, o9, hp, hk, I => ⟨A, o7, o8, o9, by rw [<- hk]; exact I, fun y => rfl⟩
 | j + 1, k, A, o7, o8, o9, hp, hk, I => by
  obtain ⟨A1, q8, q9, I1, e1⟩ := f0_eq row s hs hr T u p k Ts A hp (by omega) pv I o8 o9
  obtain ⟨A2, p7, p8, p9, I2, e2⟩ := inner_eq p j (k + 1) A1 (some (.sh (dN k))) q8 q9 (by omega) (by omega) I1
  refine ⟨A2, p7, p8, p9, I2, fun y => ?_⟩
  rw [range_succ_eq_map, map_cons, map_map, show ((k + ·) ∘ Nat.succ : Nat -> Nat) = (k + 1 + ·) by funext z; simp only [Function.comp, Nat.succ_eq_add_one]; omega, Nat.add_zero]
  exact forW_step (ρ1 := eQ row s T Ts (some (.sh (dN u))) (some (.sh (.ptr y))) (some (.sh (dN p))) (some (.sh (dN k))) o8 o9) rfl (e1 y) (e2 y)
theorem f1_eq (p : Nat) (hp : p < row.length) (A : PW) (o7 o8 o9 : Option S) (I : Inr row s u p (p + 1) A) :
  ∃ A' p7 p8 p9, Inr row s u p row.length A' /\ ∀ y, b_law_tables_f1 (eQ row s T Ts (some (.sh (dN u))) (some (.sh (.ptr y))) (some (.sh (dN p))) o7 o8 o9) [(y, .row (FW dN A))] = some (.nx (eQ row s T Ts (some (.sh (dN u))) (some (.sh (.ptr y))) (some (.sh (dN p))) p7 p8 p9), [(y, .row (FW dN A'))]) := by
 obtain ⟨A', p7, p8, p9, I', e⟩ := inner_eq row s hs hr T u Ts pv p (row.length - (p + 1)) (p + 1) A o7 o8 o9 (by omega) (by omega) I
 refine ⟨A', p7, p8, p9, I', fun y => ?_⟩
 unfold b_law_tables_f1
 refine mforW_ev (rng_ev (i := p + 1) (j := row.length) ?_ ?_ (by omega) (by omega)) (e y)
 ·exact (m2_at2 (a := dN p) (b := .int 1) rfl rfl).trans rfl
 ·rw [mlen_ev (show bvar 0 _ = some (row.map .int) from rfl), length_map]
theorem inr_next {p : Nat} {A : PW} (hp : p + 1 < row.length + 1) (I : ∀ q, p + 1 <= q -> q < row.length -> ∀ d, MF' row s u d q (pick (!d) (A.getD q (1, 1)))) (hl : A.length = row.length) (hy : ∀ q, q < p + 1 -> A.getD q (1, 1) = (1, 1)) : Inr row s u p (p + 1) A :=
 ⟨hl, fun q h1 h2 d => I q (by omega) h2 d, fun d => by rw [hy p (by omega)]; cases d <;> exact fp_start (by omega), fun q hq => hy q (by omega)⟩
theorem outer_eq : ∀ (p : Nat) (A : PW) (o6 o7 o8 o9 : Option S), p <= row.length -> A.length = row.length -> (∀ q, p <= q -> q < row.length -> ∀ d, MF' row s u d q (pick (!d) (A.getD q (1, 1)))) -> (∀ q, q < p -> A.getD q (1, 1) = (1, 1)) ->
  ∃ A' p6 p7 p8 p9, Tb row s u A' /\ ∀ y, forW (.nm 6) b_law_tables_f1 (((List.range p).map fun j => p - 1 - j).map dN) (eQ row s T Ts (some (.sh (dN u))) (some (.sh (.ptr y))) o6 o7 o8 o9) [(y, .row (FW dN A))] = some (.nx (eQ row s T Ts (some (.sh (dN u))) (some (.sh (.ptr y))) p6 p7 p8 p9), [(y, .row (FW dN A'))])
 | 0, A, o6, o7, o8, o9, hp, hl, hd, hy => ⟨A, o6, o7, o8, o9, ⟨hl, fun q hq d => hd q (Nat.zero_le _) hq d⟩, fun y => rfl⟩
 | p + 1, A, o6, o7, o8, o9, hp, hl, hd, hy => by
  obtain ⟨A1, q7, q8, q9, I1, e1⟩ := f1_eq row s hs hr T u Ts pv p (by omega) A o7 o8 o9 (inr_next row s hs hr u Ts pv (by omega) hd hl hy)
  obtain ⟨A2, p6, p7, p8, p9, t2, e2⟩ := outer_eq p A1 (some (.sh (dN p))) q7 q8 q9 (by omega) I1.len (fun q h1 h2 d => by
   by_cases z : q = p
   ·subst z; exact (I1.here d).iff fp_end
   ·exact I1.behind q (by omega) h2 d) I1.yet
  refine ⟨A2, p6, p7, p8, p9, t2, fun y => ?_⟩
  rw [range_succ_eq_map, map_cons, map_map, show ((fun j => p + 1 - 1 - j) ∘ Nat.succ : Nat -> Nat) = (fun j => p - 1 - j) by funext z; simp only [Function.comp, Nat.succ_eq_add_one]; omega, show p + 1 - 1 - 0 = p by omega]
  exact forW_step (ρ1 := eQ row s T Ts (some (.sh (dN u))) (some (.sh (.ptr y))) (some (.sh (dN p))) o7 o8 o9) rfl (e1 y) (e2 y)
end
end
section
open PySem L2
theorem rng3_down (n : Nat) (h : n <= 900) : rng3 [.int ((n : Int) - 1), .int (-1), .int (-1)] = some (downD n) := by
 unfold rng3
 dsimp only
 rw [if_pos ⟨by omega, by omega, rfl, rfl⟩, show (((n : Int) - 1) + 1).toNat = n by omega]
theorem down_dn (n : Nat) : downD n = ((List.range n).map fun j => n - 1 - j).map dN := by
 unfold downD dN
 rw [map_map]
 refine map_congr_left fun i hi => ?_
 have := List.mem_range.mp hi
 show D.int ((n : Int) - 1 - (i : Int)) = D.int ((n - 1 - i : Nat) : Int)
 congr 1
 omega
theorem setF_nil {i : Nat} {ρ : Ro} : msetF i (sized anil) ρ = some (.nx (ρ.set i (some (.own [])))) := by unfold msetF; rw [sized_ev anil_ev (Nat.zero_le _)]; rfl
theorem plainW_rf {n : Nat} {m : MW} {ds es : List D} {β : Bx} (h : m (startS n ds) [] = some (.rf es, β)) : plainW (runW n m) ds = some (.fr es) := by
 unfold plainW runW
 rw [h]
theorem rng_T (T : Nat) (hT : T <= 310) {x : ME} {ρ : Ro} (h : x ρ = some (dN T)) : mlist rng1 (acons (m2 addD x (mc (.int 1))) anil) ρ = some (((List.range (T + 1)).map (0 + ·)).map dN) := by
 have k1 : okR ((T : Int) + 1) = true := okR_of (by omega) (by omega)
 unfold mlist
 rw [acons_ev (d := .int ((T : Int) + 1)) ((m2_at2 h (b := .int 1) rfl).trans rfl) anil_ev, Option.bind_some, rng1_ok k1, show ((T : Int) + 1).toNat = T + 1 by omega, rangeD_li, map_map, map_map]
 refine congrArg some (map_congr_left fun i _ => ?_)
 simp only [Function.comp, Nat.zero_add]
 rfl
theorem rep_at (n q : Nat) : (List.replicate n ((1, 1) : Nat × Nat)).getD q (1, 1) = (1, 1) := by
 rw [getD_eq_getElem?_getD, getElem?_replicate]
 split <;> rfl
theorem rep_FW (n : Nat) : (List.replicate n [D.int 1, D.int 1]).map Fl.l = FW dN (List.replicate n (1, 1)) := by
 unfold FW
 rw [map_replicate, map_replicate]
 rfl
def AllT (row : List Int) (s : Int) (Ts : List PW) : Prop := ∀ t, t < Ts.length -> Tb row s t (Ts.getD t [])
theorem allT_pv {row : List Int} {s : Int} {Ts : List PW} (h : AllT row s Ts) : Pv row s Ts.length Ts := fun v e => by
 rcases eq_nil_or_concat Ts with z | ⟨R, B, z⟩
 ·rw [z] at e; cases e
 ·rw [concat_eq_append] at z
  refine ⟨R, B, z, ?_⟩
  have hv : v = R.length := by rw [z] at e; simp at e; omega
  have := h v (by omega)
  rw [z, getD_eq_getElem?_getD, hv, getElem?_append_right (Nat.le_refl _), Nat.sub_self] at this
  rw [hv]
  exact this
theorem allT_snoc {row : List Int} {s : Int} {Ts : List PW} {A : PW} (h : AllT row s Ts) (hA : Tb row s Ts.length A) : AllT row s (Ts ++ [A]) := fun t ht => by
 rw [getD_eq_getElem?_getD]
 by_cases z : t < Ts.length
 ·rw [getElem?_append_left z, <- getD_eq_getElem?_getD]; exact h t z
 ·have : t = Ts.length := by simp at ht; omega
  subst this
  rw [getElem?_append_right (Nat.le_refl _), Nat.sub_self]
  exact hA
section
variable (row : List Int) (s : Int) (hs : 1 <= s) (hr : row.length <= 300)
include hs hr
theorem f4_eq (T : Nat) (Ts : List PW) (hT : Ts.length <= 400) (h : AllT row s Ts) (o5 o6 o7 o8 o9 : Option S) : ∃ A p6 p7 p8 p9, Tb row s Ts.length A /\ b_law_tables_f4 (eQ row s T Ts (some (.sh (dN Ts.length))) o5 o6 o7 o8 o9) [] = some (.nx (eQ row s T (Ts ++ [A]) (some (.sh (dN Ts.length))) none p6 p7 p8 p9), []) := by
 obtain ⟨A, p6, p7, p8, p9, tb, e⟩ := outer_eq row s hs hr T Ts.length Ts (allT_pv h) row.length (List.replicate row.length (1, 1)) o6 o7 o8 o9 (Nat.le_refl _) (by simp) (fun q h1 h2 => by omega) (fun q _ => rep_at _ q)
 refine ⟨A, p6, p7, p8, p9, tb, ?_⟩
 unfold b_law_tables_f4 mnewR
 rw [compP_ev (.int 1) (mc (.int 1)) (fun _ => rfl) row hr rfl, Option.bind_some]
 refine anyN_of fun y _ => ?_
 have r3 : b_law_tables_r3 (eQ row s T Ts (some (.sh (dN Ts.length))) (some (.sh (.ptr y))) o6 o7 o8 o9) [(y, .row (FW dN (List.replicate row.length (1, 1))))] = some (.nx (eQ row s T (Ts ++ [A]) (some (.sh (dN Ts.length))) (some (.sh (TbD A))) p6 p7 p8 p9), []) := by
  unfold b_law_tables_r3
  refine seqW (mforW_ev (its := ((List.range row.length).map fun j => row.length - 1 - j).map dN) ?_ (e y)) ?_
  ·unfold mlist
   rw [acons_ev (d := .int ((row.length : Int) - 1)) ((m2_at2 (a := .int (row.length : Int)) (b := .int 1) (by rw [mlen_ev (show bvar 0 _ = some (row.map .int) from rfl), length_map]) rfl).trans rfl) (acons_ev (d := .int (-1)) rfl (acons_ev (d := .int (-1)) rfl anil_ev)), Option.bind_some, rng3_down _ (by omega), down_dn]
  ·unfold b_law_tables_r2 mfreezeR
   rw [show (eQ row s T Ts (some (.sh (dN Ts.length))) (some (.sh (.ptr y))) p6 p7 p8 p9)[5]? = some (some (.sh (.ptr y))) from rfl]
   simp only
   rw [look_b]
   simp only
   rw [FW_S, show delB y [(y, Cell.row (FW dN A))] = [] by unfold delB; rw [beq_self_eq_true]]
   refine wS_nx ?_
   have hz : (Ts.map TbD).length < sizeLine := Nat.lt_of_lt_of_le (show (Ts.map TbD).length < 1000 by rw [length_map]; omega) (Nat.le_trans (by decide) size_big)
   unfold mapp
   show ((some (TbD A)).bind fun d => if (Ts.map TbD).length < sizeLine then _ else none) = _
   rw [Option.bind_some, if_pos hz]
   unfold eQ
   rw [map_append]
   rfl
 show (b_law_tables_r3 (eQ row s T Ts (some (.sh (dN Ts.length))) (some (.sh (.ptr y))) o6 o7 o8 o9) [(y, .row ((List.replicate row.length [D.int 1, D.int 1]).map Fl.l))]).map (L2.letGo 5 0) = _
 rw [rep_FW, r3]
 rfl
theorem tab_loop (T : Nat) : ∀ (j : Nat) (Ts : List PW) (o4 o5 o6 o7 o8 o9 : Option S), Ts.length + j <= 400 -> AllT row s Ts ->
  ∃ Ts' p4 p5 p6 p7 p8 p9, Ts'.length = Ts.length + j /\ AllT row s Ts' /\ forW (.nm 4) b_law_tables_f4 (((List.range j).map (Ts.length + ·)).map dN) (eQ row s T Ts o4 o5 o6 o7 o8 o9) [] = some (.nx (eQ row s T Ts' p4 p5 p6 p7 p8 p9), [])
 | 0, Ts, o4, o5, o6, o7, o8, o9, hl, h => ⟨Ts, o4, o5, o6, o7, o8, o9, rfl, h, rfl⟩
 | j + 1, Ts, o4, o5, o6, o7, o8, o9, hl, h => by
  obtain ⟨A, q6, q7, q8, q9, tb, e⟩ := f4_eq row s hs hr T Ts (by omega) h o5 o6 o7 o8 o9
  have hn : (Ts ++ [A]).length = Ts.length + 1 := by simp
  obtain ⟨Ts', p4, p5, p6, p7, p8, p9, l2, h2, e2⟩ := tab_loop T j (Ts ++ [A]) (some (.sh (dN Ts.length))) none q6 q7 q8 q9 (by omega) (allT_snoc h tb)
  refine ⟨Ts', p4, p5, p6, p7, p8, p9, by omega, h2, ?_⟩
  rw [hn] at e2
  rw [range_succ_eq_map, map_cons, map_map, show ((Ts.length + ·) ∘ Nat.succ : Nat -> Nat) = (Ts.length + 1 + ·) by funext z; simp only [Function.comp, Nat.succ_eq_add_one]; omega, Nat.add_zero]
  exact forW_step (ρ1 := eQ row s T Ts (some (.sh (dN Ts.length))) o5 o6 o7 o8 o9) rfl e e2
theorem tables_eq (T : Nat) (hT : T <= 310) : ∃ Ts : List PW, Ts.length = T + 1 /\ AllT row s Ts /\ m_law_tables [RI row, .int s, dN T] = some (.fr (Ts.map TbD)) := by
 obtain ⟨Ts, p4, p5, p6, p7, p8, p9, l, h, e⟩ := tab_loop row s hs hr T (T + 1) [] none none none none none none (by simp; omega) (fun t ht => by simp at ht)
 refine ⟨Ts, by simpa using l, h, ?_⟩
 have e5 : b_law_tables_r5 (eQ row s T Ts p4 p5 p6 p7 p8 p9) [] = some (.rf (Ts.map TbD), []) := by
  unfold b_law_tables_r5 mretOW
  rw [show (eQ row s T Ts p4 p5 p6 p7 p8 p9)[3]? = some (some (.own (Ts.map TbD))) from rfl]
 have key : b_law_tables (startS 10 [RI row, .int s, dN T]) [] = some (.rf (Ts.map TbD), []) := by
  unfold b_law_tables
  exact seqW (ρ' := eQ row s T [] none none none none none none) (wS_nx (setF_nil.trans rfl)) (seqW (mforW_ev (rng_T T hT rfl) e) e5)
 unfold m_law_tables
 exact plainW_rf key
end
end
section
open PySem L2
theorem mcomp_of {b : List (Option Nat)} {mi : ML} {g : Tg} {c : MB} {e : ME} {ρ : Ro} {ds : List D} (h : mi ρ = some ds) : mcomp b mi g c e ρ = compD g c e ds (blkRo b ρ) [] := by unfold mcomp; rw [h]; rfl
noncomputable def wM (w : Nat × Nat) : Nat := max w.1 w.2
theorem pick_wM (b : Bool) (w : Nat × Nat) : pick b w <= wM w := by unfold pick wM; split <;> omega
theorem wM_pick (w : Nat × Nat) : ∃ b, wM w = pick b w := by
 unfold wM
 by_cases h : w.1 <= w.2
 ·exact ⟨true, by show max w.1 w.2 = w.2; omega⟩
 ·exact ⟨false, by show max w.1 w.2 = w.1; omega⟩
theorem max_two {m : ML} {ρ : Ro} {a b : Nat} (h : m ρ = some [dN a, dN b]) : mmaxL m ρ = some (dN (max a b)) := by
 rw [mmaxL_ev (x := (a : Int)) (r := [(b : Int)]) h]
 show some (D.int (if (b : Int) > (a : Int) then (b : Int) else (a : Int))) = some (D.int ((max a b : Nat) : Int))
 congr 2
 split <;> omega
theorem most_eq (A : PW) (hl : A.length <= 300) : ∃ v : Nat, m_Z16 [TbD A] = some (.sh (dN v)) /\ (∀ w ∈ A, wM w <= v) /\ (v = 0 \/ ∃ w ∈ A, v = wM w) := by
 have e : mcomp [none] (aslst (mvar 0)) (.nm 0) cyes (mmaxL (bvar 0)) (startS 1 [TbD A]) = some ((A.map fun w => ((wM w : Nat) : Int)).map .int) := by
  rw [mcomp_of (aslst_ev (m := mvar 0) (ds := DW dN A) rfl)]
  refine (compD_map (f := fun w : Nat × Nat => D.lst [dN w.1, dN w.2]) (G := fun w => D.int ((wM w : Nat) : Int)) (fun _ ρ => ∃ o, ρ = [o]) (by
   rintro w ws ρ ⟨o, rfl⟩
   exact ⟨[some (.sh (.lst [dN w.1, dN w.2]))], rfl, rfl, max_two rfl, _, rfl⟩) A _ [] ⟨none, rfl⟩ (le_size (by simp; omega))).trans ?_
  rw [nil_append, map_map]; rfl
 obtain ⟨vs, hvs⟩ : ∃ vs, vs = A.map fun w => ((wM w : Nat) : Int) := ⟨_, rfl⟩
 rw [<- hvs] at e
 have h1 := maxI_mem (ns := 0 :: vs) (by simp)
 have h2 : ∀ y ∈ (0 : Int) :: vs, y <= maxI (0 :: vs) := fun y hy => maxI_ge hy
 have h0 := h2 0 (by simp)
 obtain ⟨v, hv⟩ : ∃ v : Nat, maxI (0 :: vs) = (v : Int) := ⟨(maxI (0 :: vs)).toNat, by omega⟩
 rw [hv] at h1 h2
 refine ⟨v, ?_, fun w hw => ?_, ?_⟩
 ·unfold m_Z16 b_Z16
  refine runB_rt (mret_ev ?_)
  rw [mmaxL_ev (x := 0) (r := vs) (mcat_ev (ds := [.int 0]) (es := vs.map .int) (sized_ev (acons_ev (d := .int 0) rfl anil_ev) (le_size (by decide))) e (le_size (by rw [hvs]; simp; omega))), hv]
  rfl
 ·have := h2 ((wM w : Nat) : Int) (mem_cons_of_mem _ (by rw [hvs]; exact List.mem_map.mpr ⟨w, hw, rfl⟩))
  omega
 ·rcases List.mem_cons.mp h1 with z | z
  ·exact .inl (by omega)
  ·rw [hvs] at z
   obtain ⟨w, hw, e⟩ := List.mem_map.mp z
   exact .inr ⟨w, hw, by omega⟩
theorem most_kt {row : List Int} {s : Int} {t : Nat} {A : PW} (hr : row.length <= 300) (h : Tb row s t A) : ∃ v, m_Z16 [TbD A] = some (.sh (dN v)) /\ Kt row s t v := by
 have hl := h.len
 obtain ⟨v, e, h1, h2⟩ := most_eq A (by omega)
 have at_mem : ∀ q, q < row.length -> A.getD q (1, 1) ∈ A := fun q hq => by
  rw [getD_eq_getElem?_getD, getElem?_eq_getElem (by omega)]
  exact getElem_mem _
 refine ⟨v, e, kt_of hr ⟨?_, fun l hl' => ?_⟩⟩
 ·rcases h2 with z | ⟨w, hw, z⟩
  ·exact ⟨[], .inl rfl, by rw [z]; rfl⟩
  ·obtain ⟨q, hq, rfl⟩ := getElem_of_mem hw
   obtain ⟨b, eb⟩ := wM_pick A[q]
   have hm := h.at' q (by omega) (!b)
   rw [Bool.not_not, getD_eq_getElem?_getD, getElem?_eq_getElem hq] at hm
   obtain ⟨⟨l, hl2, el⟩, _⟩ := hm
   refine ⟨l, .inr ⟨!b, hl2.1⟩, ?_⟩
   rw [el, z, eb]; rfl
 ·rcases hl' with rfl | ⟨d, hd⟩
  ·simp
  ·cases l with
   | nil => simp
   | cons p l =>
    have hp := hd.lt
    have := (h.at' p hp d).2 (p :: l) ⟨hd, l, rfl⟩
    have h3 := pick_wM (!d) (A.getD p (1, 1))
    have h4 := h1 _ (at_mem p hp)
    omega
theorem kept_ev {row : List Int} {s : Int} (hs : 1 <= s) (hr : row.length <= 300) (T : Nat) (hT : T <= 310) : ∃ vs : List Nat, vs.length = T + 1 /\ (∀ t, t < T + 1 -> Kt row s t (vs.getD t 0)) /\ ∀ {mi : ML} {ρ : Ro}, (∀ ds, m_law_tables [RI row, .int s, dN T] = some (.fr ds) -> mi ρ = some ds) -> mcomp [none] mi (.nm 0) cyes (mcall m_Z16 (acons (mvar 0) anil)) ρ = some (vs.map dN) := by
 obtain ⟨Ts, hl, hA, e⟩ := tables_eq row s hs hr T hT
 have key : ∀ Bs : List PW, (∀ B ∈ Bs, ∃ t, Tb row s t B) -> ∃ vs : List Nat, vs.length = Bs.length /\ (∀ i, i < Bs.length -> ∀ t, Tb row s t (Bs.getD i []) -> Kt row s t (vs.getD i 0)) /\ ∀ (o : Option S) (acc : List D), acc.length + Bs.length <= 1000 -> compD (.nm 0) cyes (mcall m_Z16 (acons (mvar 0) anil)) (Bs.map TbD) [o] acc = some (acc ++ vs.map dN) := by
  intro Bs
  induction Bs with
  | nil => intro _; exact ⟨[], rfl, (fun i hi => by simp at hi), fun o acc _ => by simp [compD]⟩
  | cons B Bs ih =>
   intro hB
   obtain ⟨t0, hB0⟩ := hB B (by simp)
   obtain ⟨v, ev, _⟩ := most_kt hr hB0
   obtain ⟨vs, l1, h1, e1⟩ := ih fun C hC => hB C (by simp [hC])
   refine ⟨v :: vs, by simp [l1], fun i hi t ht => ?_, fun o acc ha => ?_⟩
   ·cases i with
    | zero =>
     obtain ⟨v', ev', k'⟩ := most_kt hr (t := t) (A := B) ht
     rw [ev] at ev'
     have : v = v' := by simp only [Option.some.injEq, Rt.sh.injEq, dN, D.int.injEq] at ev'; omega
     subst this
     exact k'
    | succ i => exact h1 i (by simp at hi; omega) t ht
   ·rw [length_cons] at ha
    have em : mcall m_Z16 (acons (mvar 0) anil) [some (.sh (TbD B))] = some (dN v) := mcall_sh (acons_ev (d := TbD B) rfl anil_ev) ev
    rw [map_cons, map_cons]
    unfold compD
    rw [show tgD (.nm 0) (TbD B) [o] = some [some (.sh (TbD B))] from rfl]
    simp only
    rw [show cyes [some (S.sh (TbD B))] = some true from rfl]
    simp only
    rw [em]
    simp only
    rw [if_pos (show acc.length < sizeLine from Nat.lt_of_lt_of_le (show acc.length < 1000 by omega) (Nat.le_trans (by decide) size_big)), e1 _ _ (by simp; omega), append_assoc]
    rfl
 obtain ⟨vs, l1, h1, e1⟩ := key Ts fun B hB => by
  obtain ⟨i, hi, rfl⟩ := getElem_of_mem hB
  have := hA i hi
  rw [getD_eq_getElem?_getD, getElem?_eq_getElem hi] at this
  exact ⟨i, this⟩
 refine ⟨vs, by omega, fun t ht => h1 t (by omega) t (hA t (by omega)), fun {mi ρ} hm => ?_⟩
 rw [mcomp_of (hm _ e)]
 exact (e1 none [] (by simp; omega)).trans rfl
end
section
open PySem L2
theorem fg_app (m : Nat) : ∀ (a b : List Nat) (i : Nat), firstGe m (a ++ b) i = (firstGe m a i).or (firstGe m b (i + a.length))
 | [], b, i => rfl
 | x :: a, b, i => by
  rw [cons_append, firstGe, firstGe]
  by_cases h : m <= x
  ·rw [if_pos h, if_pos h]; rfl
  ·rw [if_neg h, if_neg h, fg_app m a b (i + 1), length_cons, show i + 1 + a.length = i + (a.length + 1) by omega]
theorem fg_none (m : Nat) : ∀ (a : List Nat) (i : Nat), (∀ x ∈ a, x < m) -> firstGe m a i = none
 | [], _, _ => rfl
 | x :: a, i, h => by
  have := h x (by simp)
  rw [firstGe, if_neg (by omega)]
  exact fg_none m a (i + 1) fun y hy => h y (by simp [hy])
theorem fg_some (m : Nat) : ∀ (a : List Nat) (i : Nat), firstGe m a i = none -> ∀ x ∈ a, x < m
 | [], _, _, x, h => by cases h
 | y :: a, i, h, x, hx => by
  rw [firstGe] at h
  by_cases z : m <= y
  ·rw [if_pos z] at h; cases h
  ·rw [if_neg z] at h
   rcases List.mem_cons.mp hx with e | hx
   ·omega
   ·exact fg_some m a (i + 1) h x hx
theorem fg_head (m : Nat) : ∀ (a : List Nat) (i : Nat), firstGe m a i = (((a.zipIdx i).filter fun p => decide (m <= p.1)).map (·.2)).head?
 | [], _ => rfl
 | x :: a, i => by
  rw [firstGe, zipIdx_cons, filter_cons]
  by_cases z : m <= x
  ·rw [if_pos z, if_pos (by simpa using z)]; rfl
  ·rw [if_neg z, if_neg (by simpa using z)]
   exact fg_head m a (i + 1)
theorem mem_at {a : List Nat} {x : Nat} (h : x ∈ a) : ∃ i, i < a.length /\ x = a.getD i 0 := by
 obtain ⟨i, hi, rfl⟩ := getElem_of_mem h
 exact ⟨i, hi, by rw [getD_eq_getElem?_getD, getElem?_eq_getElem hi]; rfl⟩
theorem same_first {row : List Int} {s : Int} {ks vs : List Nat} {N : Nat} (hN : vs.length = N + 1) (hk : Kpt row s ks) (hv : ∀ t, t < N + 1 -> Kt row s t (vs.getD t 0)) (hm : ∀ t k, Kt row s t k -> k <= vs.getD N 0) (m : Nat) : firstGe m ks 0 = firstGe m vs 0 := by
 have hp := hk.pos
 have a1 : ks.getD (ks.length - 1) 0 <= vs.getD N 0 := hm _ _ (hk.at' _ (by omega))
 have a2 : vs.getD N 0 <= ks.getD (ks.length - 1) 0 := hk.last _ _ (hv N (by omega))
 have hl : ks.length <= N + 1 := by
  rcases Nat.lt_or_ge (N + 1) ks.length with z | z
  ·have h1 := hk.less N z
   have h2 := Kt.uniq (hk.at' N (by omega)) (hv N (by omega))
   omega
  ·exact z
 have pre : ks = vs.take ks.length := by
  apply ext_getElem
  ·rw [length_take]; omega
  ·intro i h1 h2
   have := Kt.uniq (hk.at' i h1) (hv i (by omega))
   rw [getElem_take]
   rw [getD_eq_getElem?_getD, getElem?_eq_getElem h1, getD_eq_getElem?_getD, getElem?_eq_getElem (by omega)] at this
   exact this
 have e := fg_app m ks (vs.drop ks.length) 0
 have e2 : ks ++ vs.drop ks.length = vs := by
  conv => lhs; lhs; rw [pre]
  exact take_append_drop _ _
 rw [e2] at e
 rw [e]
 cases h : firstGe m ks 0 with
 | some i => rfl
 | none =>
  have hlast : ks.getD (ks.length - 1) 0 < m := by
   refine fg_some m ks 0 h _ ?_
   rw [getD_eq_getElem?_getD, getElem?_eq_getElem (by omega)]
   exact getElem_mem _
  rw [fg_none m (vs.drop ks.length) _ fun x hx => by
   obtain ⟨i, hi, rfl⟩ := mem_at (mem_of_mem_drop hx)
   have := hm _ _ (hv i (by omega))
   omega]
  rfl
theorem some_ev (vs : List Nat) (m : Nat) (hl : vs.length <= 1000) {mi : ML} {ρ : Ro} (hi : mi ρ = some (enumL 0 (vs.map dN))) (hb : blkRo [none, none, some 3] ρ = [none, none, some (.sh (dN m))]) : mcomp [none, none, some 3] mi (.tp [0, 1]) (mtest (m2 geD (mvar 1) (mvar 2))) (mvar 0) ρ = some ((((vs.zipIdx 0).filter fun p => decide (m <= p.1)).map (·.2)).map dN) := by
 rw [mcomp_of hi, hb, enum_dn]
 refine (compD_filter (f := fun p : Nat × Nat => D.tup [.int (p.2 : Int), dN p.1]) (p := fun p => decide (m <= p.1)) (G := fun p => dN p.2) (fun _ ρ => ∃ a b, ρ = [a, b, some (.sh (dN m))]) (by
  rintro p ps ρ ⟨a, b, rfl⟩
  refine ⟨[some (.sh (dN p.2)), some (.sh (dN p.1)), some (.sh (dN m))], rfl, ?_, fun _ => rfl, _, _, rfl⟩
  refine (tge_ev (i := (p.1 : Int)) (j := (m : Int)) rfl rfl).trans ?_
  congr 1
  exact decide_eq_decide.mpr (by omega)) (vs.zipIdx 0) _ [] ⟨none, none, rfl⟩ (le_size (by simp; omega))).trans ?_
 rw [nil_append, map_map]
 rfl
theorem right_eq {row : List Int} {s : Int} (hs : 1 <= s) (hr : row.length <= 300) {vs : List Nat} {N : Nat} (hN : vs.length = N + 1) (hN2 : N <= 310) (hv : ∀ t, t < N + 1 -> Kt row s t (vs.getD t 0)) (hm : ∀ t k, Kt row s t k -> k <= vs.getD N 0) (m : Nat) : m_Z14 [RI row, .int s, L vs, dN m] = some (.sh (.bl true)) := by
 obtain ⟨ks, ek, hk⟩ := kept_by_turns_eq row s hs hr
 have ef := fewest_turns_eq row s m hs hr ek
 rw [same_first hN hk hv hm m, fg_head] at ef
 unfold m_Z14 b_Z14
 refine runB_rt ?_
 obtain ⟨sm, hsm⟩ : ∃ sm, sm = ((vs.zipIdx 0).filter fun p => decide (m <= p.1)).map (·.2) := ⟨_, rfl⟩
 rw [<- hsm] at ef
 refine seqI (ρ' := [some (.sh (RI row)), some (.sh (.int s)), some (.sh (L vs)), some (.sh (dN m)), some (.sh (L sm)), none]) ((mset_ev (mlst_ev (some_ev vs m (by omega) ?_ rfl))).trans (by rw [<- hsm]; rfl)) ?_
 ·unfold mlist
  rw [acons_ev (d := L vs) rfl anil_ev, Option.bind_some]
  rfl
 refine seqI (ρ' := [some (.sh (RI row)), some (.sh (.int s)), some (.sh (L vs)), some (.sh (dN m)), some (.sh (L sm)), some (.sh (oD sm.head?))]) ((mset_ev (mcall_sh (acons_ev (d := RI row) rfl (acons_ev (d := .int s) rfl (acons_ev (d := dN m) rfl anil_ev))) ef)).trans rfl) ?_
 have t0 : mtest (meqB false (bvar 4) (sized anil)) [some (.sh (RI row)), some (.sh (.int s)), some (.sh (L vs)), some (.sh (dN m)), some (.sh (L sm)), some (.sh (oD sm.head?))] = some sm.isEmpty := by
  refine mtest_bl ?_
  rw [eqB_nilD (m := bvar 4) (ds := sm.map dN) rfl false, empty_iff]; rfl
 cases sm with
 | nil =>
  refine seq_after (o := .rt (.bl true)) ?_
  rw [mif_ev t0]
  exact mret_ev ((m2_at2 (a := .non) (b := .non) rfl rfl).trans rfl)
 | cons i r =>
  refine seqI (ρ' := [some (.sh (RI row)), some (.sh (.int s)), some (.sh (L vs)), some (.sh (dN m)), some (.sh (L (i :: r))), some (.sh (dN i))]) (by rw [mif_ev t0]; rfl) ?_
  refine mret_ev (mand_bl (a := true) (b := true) ?_ (mand_bl (a := true) (b := true) ?_ ?_))
  ·unfold misi
   show (kitB "int" "int").map D.bl = _
   rw [ks_ii]; rfl
  ·have b1 : misi "bool" (mvar 5) [some (.sh (RI row)), some (.sh (.int s)), some (.sh (L vs)), some (.sh (dN m)), some (.sh (L (i :: r))), some (.sh (dN i))] = some (.bl false) := by
    unfold misi
    show (kitB "int" "bool").map D.bl = _
    rw [ks_ib]; rfl
   unfold m1
   rw [b1]; rfl
  ·rw [m2_at2 (a := dN i) rfl (mix_ev (m := bvar 4) (ds := (i :: r).map dN) (k := 0) rfl rfl (d := dN i) (at_dn (i :: r) 0 (by simp)))]
   show some (D.bl ((i : Int) == (i : Int))) = _
   rw [beq_self_eq_true]
end
section
open PySem L2
structure Wide (x : Nat -> Int) (n : Nat) (s : Int) (h : Nat -> Int) (cg : Nat -> Nat) : Prop where
 near : ∀ i, i < n -> h i <= x i /\ x i - h i <= s / 2
 mono : ∀ i, i + 1 < n -> cg i <= cg (i + 1)
 few : ∀ i, i < n -> cg i <= 7
 up : ∀ i, i + 1 < n -> cg (i + 1) % 2 = 0 -> h i <= h (i + 1)
 down : ∀ i, i + 1 < n -> cg (i + 1) % 2 = 1 -> h (i + 1) <= h i
section
variable {x : Nat -> Int} {n : Nat} {s : Int} {h : Nat -> Int} {cg : Nat -> Nat} (W : Wide x n s h cg) (hs : 1 <= s)
include W
theorem Wide.le {i : Nat} : ∀ {j : Nat}, i <= j -> j < n -> cg i <= cg j
 | 0, hi, _ => by rw [show i = 0 by omega]; exact Nat.le_refl _
 | j + 1, hi, hj => by
  by_cases z : i = j + 1
  ·rw [z]; exact Nat.le_refl _
  ·exact Nat.le_trans (Wide.le (by omega) (by omega)) (W.mono j hj)
noncomputable def dpar (d : Bool) : Nat := if d then 0 else 1
theorem Wide.flat (d : Bool) {p : Nat} : ∀ (j : Nat), p + j < n -> (∀ k, p < k -> k <= p + j -> cg k % 2 ≠ dpar d) -> (if d then h (p + j) <= h p else h p <= h (p + j))
 | 0, _, _ => by cases d <;> exact Int.le_refl _
 | j + 1, hj, hk => by
  have ih := Wide.flat d j (by omega) fun k h1 h2 => hk k h1 (by omega)
  have h1 := hk (p + (j + 1)) (by omega) (Nat.le_refl _)
  have e : p + (j + 1) = p + j + 1 := by omega
  rw [e] at h1 ⊢
  cases d with
  | true =>
   have := W.down (p + j) (by omega) (by simp only [dpar, if_true] at h1; omega)
   simp only [if_true] at ih ⊢
   omega
  | false =>
   have := W.up (p + j) (by omega) (by simp only [dpar, Bool.false_eq_true, if_false] at h1; omega)
   simp only [Bool.false_eq_true, if_false] at ih ⊢
   omega
include hs
theorem Wide.sees {d : Bool} {p q : Nat} (hp : p < q) (hq : q < n) (hf : far s d (x p) (x q)) : ∃ k, p < k /\ k <= q /\ cg k % 2 = dpar d := by
 by_cases z : ∃ k, p < k /\ k <= q /\ cg k % 2 = dpar d
 ·exact z
 ·exfalso
  have h1 := W.flat d (p := p) (q - p) (by omega) fun k h1 h2 h3 => z ⟨k, h1, by omega, h3⟩
  rw [show p + (q - p) = q by omega] at h1
  have h2 := W.near p (by omega)
  have h3 := W.near q hq
  cases d with
  | true =>
   simp only [if_true] at h1
   unfold far at hf
   simp only [if_true] at hf
   omega
  | false =>
   simp only [Bool.false_eq_true, if_false] at h1
   unfold far at hf
   simp only [Bool.false_eq_true, if_false] at hf
   omega
theorem Wide.bound : ∀ (l : List Nat) (p q t k : Nat) (d : Bool), Sd x n s (p :: q :: l) t d -> k <= q -> cg k % 2 = dpar d -> Sd x n s (p :: q :: l) (7 - cg k) d
 | [], p, q, t, k, d, hS, _, _ => ⟨hS.1, hS.2.1, .inl (by rcases hS.2.2 with z | ⟨u, _, z⟩ <;> exact z)⟩
 | r :: l, p, q, t, k, d, hS, hk, hc => by
  refine ⟨hS.1, hS.2.1, ?_⟩
  rcases hS.2.2 with z | ⟨u, _, z⟩
  ·have hr : r < n := by rcases z.2.2 with y | ⟨_, _, y⟩ <;> exact y.lt
   obtain ⟨k', a, b, c⟩ := W.sees hs z.1 hr z.2.1
   have := W.le (i := k) (j := k') (by omega) (by omega)
   exact .inl ((Wide.bound l q r t k' d z b c).mono (by omega))
  ·have hr : r < n := by rcases z.2.2 with y | ⟨_, _, y⟩ <;> exact y.lt
   obtain ⟨k', a, b, c⟩ := W.sees hs z.1 hr z.2.1
   have h1 := W.le (i := k) (j := k') (by omega) (by omega)
   have h2 := W.few k' (by omega)
   have h3 : cg k ≠ cg k' := fun e => by
    rw [<- e, hc] at c
    cases d <;> cases c
   exact .inr ⟨7 - cg k - 1, by omega, (Wide.bound l q r u k' (!d) z b c).mono (by omega)⟩
theorem Wide.turns {t : Nat} {l : List Nat} (hT : Tn x n s t l) : Tn x n s 7 l := by
 rcases hT with z | ⟨d, z⟩
 ·exact .inl z
 ·refine .inr ⟨d, ?_⟩
  match l, z with
  | [p], z => exact z
  | p :: q :: l, z =>
   have hq : q < n := by rcases z.2.2 with y | ⟨_, _, y⟩ <;> exact y.lt
   obtain ⟨k, a, b, c⟩ := W.sees hs z.1 hq z.2.1
   exact (W.bound hs l p q t k d z b c).mono (by omega)
end
noncomputable def flips (bs : List Int) (j : Nat) : Nat := ((List.range j).filter fun (i : Nat) => bs.contains (i : Int)).length
theorem flips_succ (bs : List Int) (j : Nat) : flips bs (j + 1) = flips bs j + if bs.contains (j : Int) then 1 else 0 := by
 unfold flips
 rw [range_succ, filter_append, length_append, filter_cons]
 split <;> rfl
theorem one_le (b : Int) : ∀ j : Nat, ((List.range j).filter fun (i : Nat) => (i : Int) == b).length <= if b < (j : Int) then 1 else 0
 | 0 => Nat.zero_le _
 | j + 1 => by
  have ih := one_le b j
  rw [range_succ, filter_append, length_append, filter_cons]
  by_cases z : (j : Int) = b
  ·rw [if_pos (beq_iff_eq.mpr z)]
   rw [if_neg (by omega)] at ih
   rw [if_pos (by omega)]
   simp only [filter_nil, length_cons, length_nil]
   omega
  ·rw [if_neg (by simpa using z)]
   simp only [filter_nil, length_nil]
   by_cases y : b < (j : Int)
   ·rw [if_pos y] at ih
    rw [if_pos (by omega)]
    exact ih
   ·rw [if_neg y] at ih
    omega
theorem filter_or (p q : Nat -> Bool) : ∀ l : List Nat, (l.filter fun i => p i || q i).length <= (l.filter p).length + (l.filter q).length
 | [] => Nat.zero_le _
 | a :: l => by
  have := filter_or p q l
  simp only [filter_cons]
  cases p a <;> cases q a <;> simp <;> omega
theorem flips_le (j : Nat) : ∀ bs : List Int, flips bs j <= bs.length
 | [] => by
  unfold flips
  rw [List.filter_eq_nil_iff.mpr (by simp)]; exact Nat.le_refl _
 | b :: bs => by
  have ih := flips_le j bs
  have h1 := filter_or (fun (i : Nat) => (i : Int) == b) (fun (i : Nat) => bs.contains (i : Int)) (List.range j)
  have h2 := one_le b j
  have e : flips (b :: bs) j = ((List.range j).filter fun (i : Nat) => ((i : Int) == b) || bs.contains (i : Int)).length := by
   unfold flips
   congr 1
  unfold flips at ih
  rw [e, length_cons]
  have : (if b < (j : Int) then 1 else 0 : Nat) <= 1 := by split <;> omega
  omega
end
section
open PySem L2
theorem flVs_li : ∀ ps : List Int, flVs (ps.map D.int) = some (ps.map V.int)
 | [] => rfl
 | p :: ps => by rw [map_cons, flVs, flVs_li ps]; rfl
theorem inV_li (i : Int) : ∀ ps : List Int, inV (.int i) (ps.map V.int) = ps.contains i
 | [] => rfl
 | p :: ps => by
  have ih := inV_li i ps
  unfold inV at ih ⊢
  rw [map_cons, any_cons, ih, contains_cons]
  congr 1
  show (p == i) = (i == p)
  rw [Bool.eq_iff_iff, beq_iff_eq, beq_iff_eq]
  exact eq_comm
theorem in_li (i : Int) (ps : List Int) : inD false (.int i) (.lst (ps.map .int)) = some (.bl (ps.contains i)) := by
 show inDs false (.int i) (ps.map .int) = _
 unfold inDs
 rw [flVs_li]
 show some (D.bl (inV (.int i) (ps.map V.int))) = _
 rw [inV_li]
theorem forD_nx {g : Tg} {body : MS} {d : D} {ds : List D} {ρ ρ1 ρ2 : Ro} (h1 : tgD g d ρ = some ρ1) (h2 : body ρ1 = some (.nx ρ2)) : forD g body (d :: ds) ρ = forD g body ds ρ2 := by
 rw [forD, h1]; simp only; rw [h2]
theorem bends_eq (many : Int) (hm : 0 < many) (hm2 : many < 1073741824) : ∀ (its : List D) (c k : Int) (o : Option S) (acc : List Int), acc.length + its.length <= 1000 -> ∃ (f : List Int) (c' k' : Int) (o' : Option S), f.length = acc.length + its.length /\
  compDm (mcallG m_Z15 1 (apu (acons (mvar 2) anil))) its [o, some (.own (RL c k)), some (.sh (.int many))] (acc.map .int) = some (f.map .int, [o', some (.own (RL c' k')), some (.sh (.int many))])
 | [], c, k, o, acc, _ => ⟨acc, c, k, o, by simp, rfl⟩
 | i :: its, c, k, o, acc, h => by
  obtain ⟨x, c1, k1, _, _, e⟩ := next_eq c k many hm hm2
  obtain ⟨f, c', k', o', hf, e2⟩ := bends_eq many hm hm2 its c1 k1 (some (.sh i)) (acc ++ [x]) (by simp at h ⊢; omega)
  refine ⟨f, c', k', o', by rw [hf]; simp; omega, ?_⟩
  rw [compDm]
  have e3 : mcallG m_Z15 1 (apu (acons (mvar 2) anil)) [some (.sh i), some (.own (RL c k)), some (.sh (.int many))] = some (.int x, [some (.sh i), some (.own (RL c1 k1)), some (.sh (.int many))]) :=
   mcallG_own (r0 := RL c k) (r2 := RL c k) rfl (apu_ev (acons_ev (d := .int many) rfl anil_ev)) rfl e rfl
  show (match mcallG m_Z15 1 (apu (acons (mvar 2) anil)) [some (.sh i), some (.own (RL c k)), some (.sh (.int many))] with | some (x, ρ1) => if (acc.map D.int).length < sizeLine then compDm _ its ρ1 (acc.map D.int ++ [x]) else none | none => none) = _
  rw [e3]
  have hz : (acc.map D.int).length < sizeLine := by
   have := size_big
   rw [length_map]; simp at h; omega
  simp only [hz, if_true]
  rw [map_append] at e2
  exact e2
noncomputable def eV (p : Addr) (c k s many : Int) (bs : List Int) (here sign : Int) (fs : List Int) (o7 : Option S) : Ro := [some (.ob p (RL c k)), some (.sh (.int s)), some (.sh (.int many)), some (.sh (.lst (bs.map .int))), some (.sh (.int here)), some (.sh (.int sign)), some (.own (fs.map .int)), o7]
noncomputable def sgn (t : Nat) : Int := if t % 2 = 0 then 1 else -1
theorem sgn_flip (t : Nat) : 0 - sgn t = sgn (t + 1) := by
 unfold sgn
 by_cases h : t % 2 = 0
 ·rw [if_pos h, if_neg (by omega)]; rfl
 ·rw [if_neg h, if_pos (by omega)]; rfl
structure Wk (bs : List Int) (s : Int) (j : Nat) (hs fs : List Int) : Prop where
 l1 : hs.length = j
 l2 : fs.length = j
 near : ∀ i, i < j -> hs.getD i 0 <= fs.getD i 0 /\ fs.getD i 0 - hs.getD i 0 <= s / 2
 up : ∀ i, i + 1 < j -> flips bs (i + 2) % 2 = 0 -> hs.getD i 0 <= hs.getD (i + 1) 0
 down : ∀ i, i + 1 < j -> flips bs (i + 2) % 2 = 1 -> hs.getD (i + 1) 0 <= hs.getD i 0
noncomputable def hereAt (hs : List Int) : Int := hs.getD (hs.length - 1) 0
theorem getD_snoc (xs : List Int) (v : Int) (i : Nat) : (xs ++ [v]).getD i 0 = if i < xs.length then xs.getD i 0 else if i = xs.length then v else 0 := by
 rw [getD_eq_getElem?_getD]
 by_cases h : i < xs.length
 ·rw [if_pos h, getElem?_append_left h, <- getD_eq_getElem?_getD]
 ·rw [if_neg h, getElem?_append_right (by omega)]
  by_cases z : i = xs.length
  ·rw [if_pos z, z, Nat.sub_self]; rfl
  ·rw [if_neg z, getElem?_eq_none (by simp; omega)]; rfl
theorem wk_next {bs : List Int} {s : Int} {j : Nat} {hs fs : List Int} (W : Wk bs s j hs fs) {a e : Int} (ha : 0 <= a) (he : 0 <= e) (he2 : e <= s / 2) : Wk bs s (j + 1) (hs ++ [hereAt hs + sgn (flips bs (j + 1)) * a]) (fs ++ [hereAt hs + sgn (flips bs (j + 1)) * a + e]) := by
 have e1 := W.l1
 have e2 := W.l2
 refine ⟨by simp [e1], by simp [e2], fun i hi => ?_, fun i hi hp => ?_, fun i hi hp => ?_⟩
 ·rw [getD_snoc, getD_snoc]
  by_cases z : i < j
  ·rw [if_pos (show i < hs.length by omega), if_pos (show i < fs.length by omega)]; exact W.near i z
  ·rw [if_neg (show ¬ i < hs.length by omega), if_neg (show ¬ i < fs.length by omega), if_pos (show i = hs.length by omega), if_pos (show i = fs.length by omega)]
   generalize hereAt hs + sgn (flips bs (j + 1)) * a = y
   omega
 ·rw [getD_snoc, getD_snoc, if_pos (show i < hs.length by omega)]
  by_cases z : i + 1 < j
  ·rw [if_pos (show i + 1 < hs.length by omega)]; exact W.up i z hp
  ·have ij : i + 1 = j := by omega
   rw [if_neg (show ¬ i + 1 < hs.length by omega), if_pos (show i + 1 = hs.length by omega)]
   have h1 : sgn (flips bs (j + 1)) = 1 := by unfold sgn; rw [<- ij]; exact if_pos hp
   have h2 : hereAt hs = hs.getD i 0 := by unfold hereAt; rw [e1, show j - 1 = i by omega]
   rw [h1, h2]
   omega
 ·rw [getD_snoc, getD_snoc, if_pos (show i < hs.length by omega)]
  by_cases z : i + 1 < j
  ·rw [if_pos (show i + 1 < hs.length by omega)]; exact W.down i z hp
  ·have ij : i + 1 = j := by omega
   rw [if_neg (show ¬ i + 1 < hs.length by omega), if_pos (show i + 1 = hs.length by omega)]
   have h1 : sgn (flips bs (j + 1)) = -1 := by unfold sgn; rw [<- ij]; exact if_neg (show ¬ flips bs (i + 1 + 1) % 2 = 0 by have z2 : flips bs (i + 1 + 1) % 2 = 1 := hp; omega)
   have h2 : hereAt hs = hs.getD i 0 := by unfold hereAt; rw [e1, show j - 1 = i by omega]
   rw [h1, h2]
   omega
theorem here_snoc (hs : List Int) (v : Int) : hereAt (hs ++ [v]) = v := by
 unfold hereAt
 rw [getD_snoc, length_append, length_singleton, if_neg (by omega), if_pos (by omega)]
theorem wide_of {bs : List Int} {s : Int} {n : Nat} {hs fs : List Int} (W : Wk bs s n hs fs) (hb : bs.length <= 7) : Wide (xr fs) n s (fun i => hs.getD i 0) (fun i => flips bs (i + 1)) :=
 ⟨fun i hi => W.near i hi, fun i _ => by rw [flips_succ bs (i + 1)]; omega, fun i _ => Nat.le_trans (flips_le _ _) hb, fun i hi hp => W.up i hi hp, fun i hi hp => W.down i hi hp⟩
theorem wide_body (s many : Int) (hs1 : 1 <= s) (hs2 : s <= 100) (bs : List Int) (j : Nat) (hj : j < 300) (hs fs : List Int) (W : Wk bs s j hs fs) (c k : Int) : ∃ hs' fs' c' k', Wk bs s (j + 1) hs' fs' /\ ∀ p, b_Z7_f0 (eV p c k s many bs (hereAt hs) (sgn (flips bs j)) fs (some (.sh (dN j)))) = some (.nx (eV p c' k' s many bs (hereAt hs') (sgn (flips bs (j + 1))) fs' (some (.sh (dN j))))) := by
 obtain ⟨a, c1, k1, a0, a1, ea⟩ := next_eq c k 4 (by decide) (by decide)
 have hd : (0 : Int) <= s / 2 := Int.ediv_nonneg (by omega) (by decide)
 have hd2 : s / 2 < 1000 := by omega
 obtain ⟨e, c2, k2, e0, e1, ee⟩ := next_eq c1 k1 (s / 2 + 1) (by omega) (by omega)
 refine ⟨_, _, c2, k2, wk_next W a0 e0 (by omega), fun p => ?_⟩
 rw [here_snoc]
 unfold b_Z7_f0
 have t1 : mtest (m2 (inD false) (mvar 7) (mvar 3)) (eV p c k s many bs (hereAt hs) (sgn (flips bs j)) fs (some (.sh (dN j)))) = some (bs.contains (j : Int)) := mtest_bl ((m2_at2 (a := .int (j : Int)) (b := .lst (bs.map .int)) rfl rfl).trans (in_li _ _))
 refine seqI (ρ' := eV p c k s many bs (hereAt hs) (sgn (flips bs (j + 1))) fs (some (.sh (dN j)))) ?_ ?_
 ·rw [mif_ev t1, flips_succ]
  cases bs.contains (j : Int) with
  | true =>
   rw [if_pos rfl, if_pos rfl, <- sgn_flip]
   exact (mset_ev ((m2_at2 (a := .int 0) (b := .int (sgn (flips bs j))) rfl rfl).trans rfl)).trans rfl
  | false => rfl
 generalize hg : sgn (flips bs (j + 1)) = g
 have hg' : g = 1 \/ g = -1 := by rw [<- hg]; unfold sgn; split <;> simp
 have om : mulOk g a = true := mulOk_r _ _ (by omega) (by omega)
 have en : mcallG m_Z15 0 (apu (acons (mc (.int 4)) anil)) (eV p c k s many bs (hereAt hs) g fs (some (.sh (dN j)))) = some (.int a, eV p c1 k1 s many bs (hereAt hs) g fs (some (.sh (dN j)))) := next_env ea rfl
 have em : m2m mulD (mpu (mvar 5)) (mcallG m_Z15 0 (apu (acons (mc (.int 4)) anil))) (eV p c k s many bs (hereAt hs) g fs (some (.sh (dN j)))) = some (.int (g * a), eV p c1 k1 s many bs (hereAt hs) g fs (some (.sh (dN j)))) := m2m_ev (mpu_ev (d := .int g) rfl) en (by show (if mulOk g a = true then some (D.int (g * a)) else none) = _; rw [if_pos om])
 refine seqI (ρ' := eV p c1 k1 s many bs (hereAt hs + g * a) g fs (some (.sh (dN j)))) ((msetm_ev (m2m_ev (mpu_ev (d := .int (hereAt hs)) rfl) em (g := .int (hereAt hs + g * a)) rfl)).trans rfl) ?_
 have ed : m2 addD (m2 fdivD (mvar 1) (mc (.int 2))) (mc (.int 1)) (eV p c1 k1 s many bs (hereAt hs + g * a) g fs (some (.sh (dN j)))) = some (.int (s / 2 + 1)) := by
  refine (m2_at2 (a := .int (s / 2)) (b := .int 1) ?_ rfl).trans rfl
  rw [m2_at2 (a := .int s) (b := .int 2) rfl rfl]
  show (if fdivOk s 2 = true then some (D.int (s / 2)) else none) = _
  rw [if_pos (fdivOk_of _ _ (by decide) (by decide))]
 have ef : m2m addD (mpu (mvar 4)) (mcallG m_Z15 0 (apu (acons (m2 addD (m2 fdivD (mvar 1) (mc (.int 2))) (mc (.int 1))) anil))) (eV p c1 k1 s many bs (hereAt hs + g * a) g fs (some (.sh (dN j)))) = some (.int (hereAt hs + g * a + e), eV p c2 k2 s many bs (hereAt hs + g * a) g fs (some (.sh (dN j)))) := m2m_ev (mpu_ev (d := .int (hereAt hs + g * a)) rfl) (next_env ee ed) rfl
 have hz : (fs.map D.int).length < sizeLine := Nat.lt_of_lt_of_le (show (fs.map D.int).length < 1000 by rw [length_map, W.l2]; omega) (Nat.le_trans (by decide) size_big)
 unfold mappm
 rw [show (eV p c1 k1 s many bs (hereAt hs + g * a) g fs (some (.sh (dN j))))[6]? = some (some (.own (fs.map .int))) from rfl]
 simp only
 rw [ef]
 simp only
 rw [show (eV p c2 k2 s many bs (hereAt hs + g * a) g fs (some (.sh (dN j))))[6]? = some (some (.own (fs.map .int))) from rfl]
 simp only
 rw [if_pos hz]
 unfold eV
 rw [map_append]
 rfl
theorem wide_loop (s many : Int) (hs1 : 1 <= s) (hs2 : s <= 100) (bs : List Int) : ∀ (i j : Nat) (hs fs : List Int) (c k : Int) (o7 : Option S), i + j <= 300 -> Wk bs s j hs fs -> ∃ hs' fs' c' k' p7, Wk bs s (j + i) hs' fs' /\ ∀ p, forD (.nm 7) b_Z7_f0 (((List.range i).map (j + ·)).map dN) (eV p c k s many bs (hereAt hs) (sgn (flips bs j)) fs o7) = some (.nx (eV p c' k' s many bs (hereAt hs') (sgn (flips bs (j + i))) fs' p7))
 | 0, j, hs, fs, c, k, o7, _, W => ⟨hs, fs, c, k, o7, W, fun p => rfl⟩
 | i + 1, j, hs, fs, c, k, o7, hl, W => by
  obtain ⟨h1, f1, c1, k1, W1, e1⟩ := wide_body s many hs1 hs2 bs j (by omega) hs fs W c k
  obtain ⟨h2, f2, c2, k2, p7, W2, e2⟩ := wide_loop s many hs1 hs2 bs i (j + 1) h1 f1 c1 k1 (some (.sh (dN j))) (by omega) W1
  refine ⟨h2, f2, c2, k2, p7, by rw [show j + (i + 1) = j + 1 + i by omega]; exact W2, fun p => ?_⟩
  rw [range_succ_eq_map, map_cons, map_map, show ((j + ·) ∘ Nat.succ : Nat -> Nat) = (j + 1 + ·) by funext z; simp only [Function.comp, Nat.succ_eq_add_one]; omega, Nat.add_zero, map_cons, show j + (i + 1) = j + 1 + i by omega]
  exact (forD_nx (ρ1 := eV p c k s many bs (hereAt hs) (sgn (flips bs j)) fs (some (.sh (dN j)))) rfl (e1 p)).trans (e2 p)
theorem wide_row_eq (s : Int) (hs1 : 1 <= s) (hs2 : s <= 100) (c k : Int) : ∃ (fs : List Int) (c' k' : Int), 1 <= fs.length /\ fs.length <= 300 /\ (∃ h cg, Wide (xr fs) fs.length s h cg) /\ ∀ p, m_Z7 p (RL c k) [.int s] = some (.fr (fs.map .int), RL c' k') := by
 obtain ⟨m, c1, k1, m0, m1, em⟩ := next_eq c k 201 (by decide) (by decide)
 obtain ⟨b, c2, k2, b0, b1, eb⟩ := next_eq c1 k1 8 (by decide) (by decide)
 have hb : okR b = true := okR_of (by omega) (by omega)
 have hm : okR (100 + m) = true := okR_of (by omega) (by omega)
 obtain ⟨bs, c3, k3, o', lb, e3⟩ := bends_eq (100 + m) (by omega) (by omega) (rangeD 0 b.toNat) c2 k2 none [] (by unfold rangeD; simp; omega)
 have lb7 : bs.length <= 7 := by rw [lb]; unfold rangeD; simp; omega
 obtain ⟨hs, fs, c4, k4, p7, W, e4⟩ := wide_loop s (100 + m) hs1 hs2 bs (100 + m).toNat 0 [] [] c3 k3 none (by omega) ⟨rfl, rfl, (fun i hi => by omega), (fun i hi => by omega), (fun i hi => by omega)⟩
 rw [Nat.zero_add] at W
 refine ⟨fs, c4, k4, by rw [W.l2]; omega, by rw [W.l2]; omega, ⟨_, _, by rw [W.l2]; exact wide_of W lb7⟩, fun p => ?_⟩
 unfold m_Z7
 refine runG_rgf ?_
 unfold b_Z7
 refine seqI (ρ' := [some (.ob p (RL c1 k1)), some (.sh (.int s)), some (.sh (.int (100 + m))), none, none, none, none, none]) ((msetm_ev (m2m_ev (mpu_ev (d := .int 100) rfl) (next_env em rfl) (g := .int (100 + m)) rfl)).trans rfl) ?_
 have ec : mcompmRB [none, some 0, some 2] (mlistm rng1 (aconsm (mcallG m_Z15 0 (apu (acons (mc (.int 8)) anil))) (apu anil))) 0 1 (mcallG m_Z15 1 (apu (acons (mvar 2) anil))) [some (.ob p (RL c1 k1)), some (.sh (.int s)), some (.sh (.int (100 + m))), none, none, none, none, none] = some (.lst (bs.map .int), [some (.ob p (RL c3 k3)), some (.sh (.int s)), some (.sh (.int (100 + m))), none, none, none, none, none]) := by
  have ea : aconsm (mcallG m_Z15 0 (apu (acons (mc (.int 8)) anil))) (apu anil) [some (.ob p (RL c1 k1)), some (.sh (.int s)), some (.sh (.int (100 + m))), none, none, none, none, none] = some ([.int b], [some (.ob p (RL c2 k2)), some (.sh (.int s)), some (.sh (.int (100 + m))), none, none, none, none, none]) := aconsm_ev (next_env eb rfl) (apu_ev anil_ev)
  unfold mcompmRB mlistm
  rw [ea]
  simp only
  rw [rng1_ok hb]
  simp only
  exact (mcompmB_ev (its := rangeD 0 b.toNat) (r0 := RL c2 k2) (rr := p) rfl rfl e3 rfl).trans rfl
 refine seqI (ρ' := [some (.ob p (RL c3 k3)), some (.sh (.int s)), some (.sh (.int (100 + m))), some (.sh (.lst (bs.map .int))), none, none, none, none]) ((msetm_ev ec).trans rfl) ?_
 refine seqI (ρ' := [some (.ob p (RL c3 k3)), some (.sh (.int s)), some (.sh (.int (100 + m))), some (.sh (.lst (bs.map .int))), some (.sh (.int 0)), none, none, none]) rfl ?_
 refine seqI (ρ' := [some (.ob p (RL c3 k3)), some (.sh (.int s)), some (.sh (.int (100 + m))), some (.sh (.lst (bs.map .int))), some (.sh (.int 0)), some (.sh (.int 1)), none, none]) rfl ?_
 refine seqI (ρ' := eV p c3 k3 s (100 + m) bs 0 1 [] none) (setF_nil.trans rfl) ?_
 refine seqI (ρ' := eV p c4 k4 s (100 + m) bs (hereAt hs) (sgn (flips bs (0 + (100 + m).toNat))) fs p7) ?_ ?_
 ·unfold mfor mlist
  rw [acons_ev (d := .int (100 + m)) rfl anil_ev, Option.bind_some, rng1_ok hm, Option.bind_some]
  have er : rangeD 0 (100 + m).toNat = ((List.range (100 + m).toNat).map (0 + ·)).map dN := by
   rw [rangeD_li, map_map, map_map]
   refine map_congr_left fun i _ => ?_
   simp only [Function.comp, Nat.zero_add]
   rfl
  rw [er]
  exact e4 p
 ·unfold mretGO
  rfl
end
section
open PySem L2
theorem mtru_bl {x : ME} {ρ : Ro} {b : Bool} (h : x ρ = some (.bl b)) : mtru x ρ = some b := by unfold mtru; rw [h]; rfl
theorem kt_top {row : List Int} {s : Int} {N v t k : Nat} (hv : Kt row s N v) (h : ∀ l, Tn (xr row) row.length s t l -> Tn (xr row) row.length s N l) (hk : Kt row s t k) : k <= v := by
 obtain ⟨l, hl, rfl⟩ := hk
 obtain ⟨m, hm, rfl⟩ := hv
 exact hm.len l (h l hl.1)
theorem cnot_ev {x : MB} {ρ : Ro} {b : Bool} (h : x ρ = some b) : cnot x ρ = some (!b) := by unfold cnot; rw [h]; rfl
theorem testm_ev {x : MEm} {ρ ρ1 : Ro} {b : Bool} (h : x ρ = some (.bl b, ρ1)) : mtestm x ρ = some (b, ρ1) := by unfold mtestm; rw [h]
theorem candm_t {x y : MBm} {ρ ρ1 : Ro} (h : x ρ = some (true, ρ1)) : candm x y ρ = y ρ1 := by unfold candm; rw [h]
theorem candm_f {x y : MBm} {ρ ρ1 : Ro} (h : x ρ = some (false, ρ1)) : candm x y ρ = some (false, ρ1) := by unfold candm; rw [h]
theorem cpu_ev {c : MB} {ρ : Ro} {b : Bool} (h : c ρ = some b) : cpu c ρ = some (b, ρ) := by unfold cpu; rw [h]
theorem wide_right_eq (c k : Int) : ∃ c' k', ∀ p, m_Z1 p (RL c k) [] = some (.sh (.bl true), RL c' k') := by
 obtain ⟨x, c1, k1, x0, x1, ex⟩ := next_eq c k 9 (by decide) (by decide)
 obtain ⟨s, hs⟩ : ∃ s, s = 4 + x := ⟨_, rfl⟩
 obtain ⟨row, c2, k2, l1, l2, ⟨h, cg, W⟩, er⟩ := wide_row_eq s (by omega) (by omega) c1 k1
 obtain ⟨y, c3, k3, y0, y1, ey⟩ := next_eq c2 k2 (row.length : Int) (by omega) (by omega)
 obtain ⟨vs, lv, hv, ek⟩ := kept_ev (row := row) (s := s) (by omega) l2 9 (by decide)
 have i5 : 0 + 1 + 1 + 1 + 1 + 1 <= sizeLine := le_size (by decide)
 have rt : ∀ m : Nat, m_Z14 [RI row, .int s, L vs, dN m] = some (.sh (.bl true)) := fun m =>
  right_eq (by omega) l2 (N := 9) lv (by decide) hv (fun t k hk => kt_top (hv 9 (by decide)) (fun l hl => (W.turns (by omega) hl).mono (by decide)) hk) m
 refine ⟨c3, k3, fun p => ?_⟩
 unfold m_Z1
 refine runG_rg ?_
 unfold b_Z1
 refine seqI (ρ' := [some (.ob p (RL c1 k1)), some (.sh (.int s)), none, none, none]) ((msetm_ev (m2m_ev (mpu_ev (d := .int 4) rfl) (next_env ex rfl) (g := .int (4 + x)) rfl)).trans (by rw [hs]; rfl)) ?_
 have e2 : mcallG m_Z7 0 (apu (acons (mvar 1) anil)) [some (.ob p (RL c1 k1)), some (.sh (.int s)), none, none, none] = some (RI row, [some (.ob p (RL c2 k2)), some (.sh (.int s)), none, none, none]) :=
  mcallG_ob (r2 := RL c1 k1) (r0 := RL c1 k1) (ρ := [some (.ob p (RL c1 k1)), some (.sh (.int s)), none, none, none]) rfl (apu_ev (acons_ev (d := .int s) rfl anil_ev)) rfl (er p) rfl
 refine seqI (ρ' := [some (.ob p (RL c2 k2)), some (.sh (.int s)), some (.sh (RI row)), none, none]) ((msetm_ev e2).trans rfl) ?_
 refine seqI (ρ' := [some (.ob p (RL c2 k2)), some (.sh (.int s)), some (.sh (RI row)), some (.sh (L vs)), none]) ((mset_ev (mlst_ev (ek fun ds e => aslst_ev (mcall_fr (acons_ev (d := RI row) rfl (acons_ev (d := .int s) rfl (acons_ev (d := dN 9) rfl anil_ev))) e)))).trans rfl) ?_
 obtain ⟨a, ha⟩ : ∃ a, a = vs.getD 0 0 := ⟨_, rfl⟩
 obtain ⟨b, hb⟩ : ∃ b, b = vs.getD (vs.length - 1) 0 := ⟨_, rfl⟩
 obtain ⟨z, hz⟩ := nat_of y0
 have k0 : mix (bvar 3) (mc (.int 0)) [some (.ob p (RL c2 k2)), some (.sh (.int s)), some (.sh (RI row)), some (.sh (L vs)), none] = some (dN a) := mix_ev (m := bvar 3) rfl rfl (by rw [ha]; exact at_dn vs 0 (by omega))
 have k9 : mix (bvar 3) (m1 negD (mc (.int 1))) [some (.ob p (RL c2 k2)), some (.sh (.int s)), some (.sh (RI row)), some (.sh (L vs)), none] = some (dN b) := mix_ev (m := bvar 3) (k := -1) rfl rfl (by rw [hb]; exact at_last vs (by omega))
 have pl : ∀ (n : Nat) {m : ME} {ρ : Ro}, m ρ = some (dN n) -> m2 addD m (mc (.int 1)) ρ = some (dN (n + 1)) := fun n {m ρ} hm => (m2_at2 hm (b := .int 1) rfl).trans rfl
 have el : mlen (bvar 2) [some (.ob p (RL c2 k2)), some (.sh (.int s)), some (.sh (RI row)), some (.sh (L vs)), none] = some (.int (row.length : Int)) := by rw [mlen_ev (show bvar 2 _ = some (row.map .int) from rfl), length_map]
 have e4 : mlstm (aconsm (mpu (mix (bvar 3) (mc (.int 0)))) (aconsm (mpu (m2 addD (mix (bvar 3) (mc (.int 0))) (mc (.int 1)))) (aconsm (mpu (mix (bvar 3) (m1 negD (mc (.int 1))))) (aconsm (mpu (m2 addD (mix (bvar 3) (m1 negD (mc (.int 1)))) (mc (.int 1)))) (aconsm (mcallG m_Z15 0 (apu (acons (mlen (bvar 2)) anil))) (apu anil)))))) [some (.ob p (RL c2 k2)), some (.sh (.int s)), some (.sh (RI row)), some (.sh (L vs)), none] = some (L [a, a + 1, b, b + 1, z], [some (.ob p (RL c3 k3)), some (.sh (.int s)), some (.sh (RI row)), some (.sh (L vs)), none]) := by
  have := mlstm_ev (aconsm_ev (mpu_ev k0) (aconsm_ev (mpu_ev (pl a k0)) (aconsm_ev (mpu_ev k9) (aconsm_ev (mpu_ev (pl b k9)) (aconsm_ev (next_env ey el) (apu_ev anil_ev)))))) i5
  rw [hz] at this
  exact this
 refine seqI (ρ' := [some (.ob p (RL c3 k3)), some (.sh (.int s)), some (.sh (RI row)), some (.sh (L vs)), some (.sh (L [a, a + 1, b, b + 1, z]))]) ((msetm_ev e4).trans rfl) ?_
 refine mretG_ev (mpu_ev (d := .bl true) ?_) rfl
 have ec : mcomp [none, some 2, some 1, some 3] (aslst (mvar 4)) (.nm 0) (cnot (mtru (mcall m_Z14 (acons (mvar 1) (acons (mvar 2) (acons (mvar 3) (acons (mvar 0) anil))))))) (mvar 0) [some (.ob p (RL c3 k3)), some (.sh (.int s)), some (.sh (RI row)), some (.sh (L vs)), some (.sh (L [a, a + 1, b, b + 1, z]))] = some [] := by
  rw [mcomp_of (aslst_ev (m := mvar 4) (ds := [a, a + 1, b, b + 1, z].map dN) rfl)]
  refine (compD_filter (f := dN) (p := fun _ => false) (G := dN) (fun _ ρ => ∃ o, ρ = [o, some (.sh (RI row)), some (.sh (.int s)), some (.sh (L vs))]) (by
   rintro m ms ρ ⟨o, rfl⟩
   exact ⟨[some (.sh (dN m)), some (.sh (RI row)), some (.sh (.int s)), some (.sh (L vs))], rfl, cnot_ev (mtru_bl (mcall_sh (acons_ev (d := RI row) rfl (acons_ev (d := .int s) rfl (acons_ev (d := L vs) rfl (acons_ev (d := dN m) rfl anil_ev)))) (rt m))), fun y => (by cases y), _, rfl⟩) [a, a + 1, b, b + 1, z] _ [] ⟨none, rfl⟩ (le_size (by simp))).trans ?_
  rfl
 rw [eqB_nilD ec false]; rfl
noncomputable def eJ (scr : D) (n : Nat) (c k : Int) (o3 o4 o5 o6 o7 : Option S) : Ro := [some (.sh scr), some (.sh (dN n)), some (.own (RL c k)), o3, o4, o5, o6, o7]
theorem next_J {scr : D} {n : Nat} {c k m x c' k' : Int} {e : ME} {o3 o4 o5 o6 o7 : Option S} (h : Nx c k m x c' k') (hx : e (eJ scr n c k o3 o4 o5 o6 o7) = some (.int m)) : mcallG m_Z15 2 (apu (acons e anil)) (eJ scr n c k o3 o4 o5 o6 o7) = some (.int x, eJ scr n c' k' o3 o4 o5 o6 o7) :=
 mcallG_own (r0 := RL c k) (r2 := RL c k) rfl (apu_ev (acons_ev hx anil_ev)) rfl h rfl
theorem first_ok (scr : D) (n : Nat) (c k : Int) (o3 o4 o5 o6 o7 : Option S) : ∃ c' k', mifm (candm (cpu (mtest (m2 eqSD (mvar 1) (mc (.int 0))))) (candm (mtestm (m2m eqSD (mcallG m_Z15 2 (apu (acons (mc (.int 4)) anil))) (mpu (mc (.int 0))))) (cnotm (mtestm (mcallG m_Z1 2 (apu anil)))))) (mret (mc (.bl false))) mnext (eJ scr n c k o3 o4 o5 o6 o7) = some (.nx (eJ scr n c' k' o3 o4 o5 o6 o7)) := by
 have t0 : cpu (mtest (m2 eqSD (mvar 1) (mc (.int 0)))) (eJ scr n c k o3 o4 o5 o6 o7) = some ((n : Int) == 0, eJ scr n c k o3 o4 o5 o6 o7) := cpu_ev (mtest_bl ((m2_at2 (a := .int (n : Int)) (b := .int 0) rfl rfl).trans rfl))
 have fin : ∀ {cc : MBm} {c' k' : Int}, cc (eJ scr n c k o3 o4 o5 o6 o7) = some (false, eJ scr n c' k' o3 o4 o5 o6 o7) -> mifm cc (mret (mc (.bl false))) mnext (eJ scr n c k o3 o4 o5 o6 o7) = some (.nx (eJ scr n c' k' o3 o4 o5 o6 o7)) := fun {cc c' k'} h => by
  unfold mifm; rw [h]; rfl
 cases hn : (n : Int) == 0 with
 | false =>
  rw [hn] at t0
  exact ⟨c, k, fin (candm_f t0)⟩
 | true =>
  rw [hn] at t0
  obtain ⟨x, c1, k1, _, _, ex⟩ := next_eq c k 4 (by decide) (by decide)
  have t1 : mtestm (m2m eqSD (mcallG m_Z15 2 (apu (acons (mc (.int 4)) anil))) (mpu (mc (.int 0)))) (eJ scr n c k o3 o4 o5 o6 o7) = some (x == 0, eJ scr n c1 k1 o3 o4 o5 o6 o7) := testm_ev (m2m_ev (next_J ex rfl) (mpu_ev (d := .int 0) rfl) (g := .bl (x == 0)) rfl)
  cases hx : x == 0 with
  | false =>
   rw [hx] at t1
   exact ⟨c1, k1, fin ((candm_t t0).trans (candm_f t1))⟩
  | true =>
   rw [hx] at t1
   obtain ⟨c2, k2, ew⟩ := wide_right_eq c1 k1
   refine ⟨c2, k2, fin ((candm_t t0).trans ((candm_t t1).trans ?_))⟩
   have e2 : mcallG m_Z1 2 (apu anil) (eJ scr n c1 k1 o3 o4 o5 o6 o7) = some (.bl true, eJ scr n c2 k2 o3 o4 o5 o6 o7) := mcallG_own (r0 := RL c1 k1) (r2 := RL c1 k1) rfl (apu_ev anil_ev) rfl ew rfl
   unfold cnotm
   rw [testm_ev e2]
   rfl
theorem pot_ok (scr : D) (n : Nat) (c : Int) (o3 o4 o5 o6 o7 : Option S) : ∃ c' k' p3 p4 p5 p6 p7, b_Z18_f1 (eJ scr n c 0 o3 o4 o5 o6 o7) = some (.nx (eJ scr n c' k' p3 p4 p5 p6 p7)) := by
 obtain ⟨c1, k1, e1⟩ := first_ok scr n c 0 o3 o4 o5 o6 o7
 obtain ⟨row, c2, k2, hl, e2⟩ := some_row_eq c1 k1 25 (by decide)
 obtain ⟨s, c3, k3, hs, _, e3⟩ := some_step_eq c2 k2
 obtain ⟨vs, lv, hv, ek⟩ := kept_ev (row := row) (s := s) hs (by omega) row.length (by omega)
 have rt : ∀ m : Nat, m_Z14 [RI row, .int s, L vs, dN m] = some (.sh (.bl true)) := fun m =>
  right_eq hs (by omega) (N := row.length) lv (by omega) hv (fun t k hk => kt_top (hv row.length (by omega)) (fun l hl => hl.all) hk) m
 obtain ⟨b, hb⟩ : ∃ b, b = vs.getD (vs.length - 1) 0 := ⟨_, rfl⟩
 have hb25 : b <= 25 := by
  obtain ⟨l, hl2, e⟩ := hv row.length (by omega)
  have := hl2.1.len
  rw [hb, lv, Nat.add_sub_cancel, <- e]
  omega
 have p29 : (10 : Int) ^ (29 : Int).toNat = 100000000000000000000000000000 := by decide
 have o29 : powOk 10 29 = true := by decide
 have i1 : 0 + 1 <= sizeLine := le_size (by decide)
 unfold b_Z18_f1
 suffices hh : Run (mfor (aslst (mlst (mcat (mlist lrng1 (acons (m2 addD (mix (bvar 5) (m1 negD (mc (.int 1)))) (mc (.int 3))) anil)) (sized (acons (m2 powD (mc (.int 10)) (mc (.int 29))) anil))))) (.nm 7) b_Z18_f0) (eJ scr n c3 k3 (some (.sh (RI row))) (some (.sh (.int s))) (some (.sh (L vs))) (some (.sh (RI row))) o7) (fun o => ∃ p7, o = .nx (eJ scr n c3 k3 (some (.sh (RI row))) (some (.sh (.int s))) (some (.sh (L vs))) (some (.sh (RI row))) p7)) by
  obtain ⟨o, eo, p7, rfl⟩ := hh
  refine ⟨c3, k3, _, _, _, _, p7, seqI e1 (seqI (ρ' := eJ scr n c2 k2 (some (.sh (RI row))) o4 o5 o6 o7) ((msetm_ev (mcallG_own (ρ := eJ scr n c1 k1 o3 o4 o5 o6 o7) (r0 := RL c1 k1) (r2 := RL c1 k1) rfl (apu_ev (acons_ev (d := .int 25) rfl anil_ev)) rfl e2 rfl)).trans rfl) (seqI (ρ' := eJ scr n c3 k3 (some (.sh (RI row))) (some (.sh (.int s))) o5 o6 o7) ((msetm_ev (mcallG_own (ρ := eJ scr n c2 k2 (some (.sh (RI row))) o4 o5 o6 o7) (r0 := RL c2 k2) (r2 := RL c2 k2) rfl (apu_ev anil_ev) rfl e3 rfl)).trans rfl) (seqI (ρ' := eJ scr n c3 k3 (some (.sh (RI row))) (some (.sh (.int s))) (some (.sh (L vs))) o6 o7) ((mset_ev (mlst_ev (ek fun ds e => aslst_ev (mcall_fr (acons_ev (d := RI row) rfl (acons_ev (d := .int s) rfl (acons_ev (d := dN row.length) ?_ anil_ev))) e)))).trans rfl) (seqI (ρ' := eJ scr n c3 k3 (some (.sh (RI row))) (some (.sh (.int s))) (some (.sh (L vs))) (some (.sh (RI row))) o7) ((mset_ev (mlst_ev (m := bvar 3) rfl)).trans rfl) eo))))⟩
  rw [mlen_ev (show bvar 3 _ = some (row.map .int) from rfl), length_map]; rfl
 refine run_for (List.range (b + 3) ++ [100000000000000000000000000000]) (f := dN) ?_ (I := fun _ ρ => ∃ p7, ρ = eJ scr n c3 k3 (some (.sh (RI row))) (some (.sh (.int s))) (some (.sh (L vs))) (some (.sh (RI row))) p7) _ ⟨_, rfl⟩ ?_ ?_
 ·have k9 : mix (bvar 5) (m1 negD (mc (.int 1))) (eJ scr n c3 k3 (some (.sh (RI row))) (some (.sh (.int s))) (some (.sh (L vs))) (some (.sh (RI row))) o7) = some (dN b) := mix_ev (m := bvar 5) (k := -1) rfl rfl (by rw [hb]; exact at_last vs (by omega))
  have ea : mlist lrng1 (acons (m2 addD (mix (bvar 5) (m1 negD (mc (.int 1)))) (mc (.int 3))) anil) (eJ scr n c3 k3 (some (.sh (RI row))) (some (.sh (.int s))) (some (.sh (L vs))) (some (.sh (RI row))) o7) = some ((List.range (b + 3)).map dN) := by
   unfold mlist
   rw [acons_ev (d := .int ((b + 3 : Nat) : Int)) ((m2_at2 k9 (b := .int 3) rfl).trans rfl) anil_ev, Option.bind_some, lrng1_ok (by omega), map_map]
   rfl
  have ep : m2 powD (mc (.int 10)) (mc (.int 29)) (eJ scr n c3 k3 (some (.sh (RI row))) (some (.sh (.int s))) (some (.sh (L vs))) (some (.sh (RI row))) o7) = some (.int 100000000000000000000000000000) := by simp_arith [p29, o29, if_true]
  rw [aslst_ev (mlst_ev (mcat_ev ea (sized_ev (acons_ev ep anil_ev) i1) (le_size (by simp; omega)))), map_append]
  rfl
 ·rintro m ms ρ ⟨p7, rfl⟩
  refine ⟨eJ scr n c3 k3 (some (.sh (RI row))) (some (.sh (.int s))) (some (.sh (L vs))) (some (.sh (RI row))) (some (.sh (dN m))), rfl, ?_⟩
  unfold b_Z18_f0
  have et : cor (cnot (mtru (mcall m_Z14 (acons (mvar 6) (acons (mvar 4) (acons (mvar 5) (acons (mvar 7) anil))))))) (mtest (meqB true (bvar 6) (bvar 3))) (eJ scr n c3 k3 (some (.sh (RI row))) (some (.sh (.int s))) (some (.sh (L vs))) (some (.sh (RI row))) (some (.sh (dN m)))) = some false := by
   refine cor_ev (a := false) (b := false) (cnot_ev (mtru_bl (mcall_sh (acons_ev (d := RI row) rfl (acons_ev (d := .int s) rfl (acons_ev (d := L vs) rfl (acons_ev (d := dN m) rfl anil_ev)))) (rt m)))) (mtest_bl ?_)
   have e6 : bvar 6 (eJ scr n c3 k3 (some (.sh (RI row))) (some (.sh (.int s))) (some (.sh (L vs))) (some (.sh (RI row))) (some (.sh (dN m)))) = some (row.map .int) := rfl
   have e3' : bvar 3 (eJ scr n c3 k3 (some (.sh (RI row))) (some (.sh (.int s))) (some (.sh (L vs))) (some (.sh (RI row))) (some (.sh (dN m)))) = some (row.map .int) := rfl
   unfold meqB eqFD
   rw [e6, e3', Option.bind_some, Option.bind_some, eqF_li 6]
   rfl
  exact run_if et (run_next ⟨_, rfl⟩)
 ·rintro ρ ⟨p7, rfl⟩
  exact ⟨_, rfl⟩
theorem forPE_all {scr : D} : ∀ (cs : List Int) (n : Nat) (ρ : Ro), (∃ o1 o2 o3 o4 o5 o6 o7, ρ = [some (.sh scr), o1, o2, o3, o4, o5, o6, o7]) -> ∃ ρ', forPE 1 2 b_Z18_f1 n (cs.map fun c => RL c 0) ρ = some (.nx ρ')
 | [], n, ρ, _ => ⟨ρ, rfl⟩
 | c :: cs, n, ρ, h => by
  obtain ⟨o1, o2, o3, o4, o5, o6, o7, rfl⟩ := h
  obtain ⟨c', k', p3, p4, p5, p6, p7, e⟩ := pot_ok scr n c o3 o4 o5 o6 o7
  obtain ⟨ρ', e2⟩ := forPE_all cs (n + 1) (eJ scr n c' k' p3 p4 p5 p6 p7) ⟨_, _, _, _, _, _, _, rfl⟩
  refine ⟨ρ', ?_⟩
  rw [map_cons, forPE]
  show (match b_Z18_f1 (eJ scr n c 0 o3 o4 o5 o6 o7) with | some (.nx ρ2) => forPE 1 2 b_Z18_f1 (n + 1) (cs.map fun c => RL c 0) ρ2 | some (.ct ρ2) => forPE 1 2 b_Z18_f1 (n + 1) (cs.map fun c => RL c 0) ρ2 | some (.bk ρ2) => some (Out.nx ρ2) | o => o) = _
  rw [e]
  exact e2
theorem law_true (ns : List Int) (hn : ns.length <= 63) : m_Z18 [.lst (ns.map .int)] = some (.sh (.bl true)) := by
 unfold m_Z18 b_Z18
 refine runB_rt ?_
 have c1 : mlst (mcut (bvar 0) onone (osome (mc (.int 3)))) (startS 8 [.lst (ns.map .int)]) = some (.lst ((cutI ns none (some 3)).map .int)) := by
  refine mlst_ev ?_
  unfold mcut
  exact congrArg some (cutL_map D.int ns none (some 3))
 have hc := cutI_len ns none (some 3)
 obtain ⟨cs, e⟩ := pots_eq (cutI ns none (some 3)) (by omega)
 obtain ⟨ρ', e2⟩ := forPE_all cs 0 (startS 8 [.lst (ns.map .int)]) ⟨_, _, _, _, _, _, _, rfl⟩
 refine seqI (ρ' := ρ') ?_ rfl
 unfold mforPE mcallP
 rw [acons_ev c1 anil_ev, Option.bind_some, e, Option.bind_some]
 exact e2
end
end
end Lw
namespace Lw
open List
open PySem L2
open PyProof.Rows
section
noncomputable def top (i : Nat) : Stmt := PySem.Challenge.pw_wavyrow_k28_fewest_turns.main.body.getD i (.Pass ⟨0, 0, 0, 0⟩)
section
variable (P : Program) (w : World) (K : W.Frag) (mg : Str -> Option Value) (base : Heap)
abbrev T_Z13 : Prop := QHd P w K mg base 1 "refuse_step" ["step"] (spR K 1 m_Z13)
abbrev T_Z12 : Prop := QHd P w K mg base 1 "later_steps" ["row", "step"] (spR K 2 m_Z12)
abbrev T_Z9 : Prop := QHd P w K mg base 1 "longer_first" ["places"] (spR K 1 m_Z9)
abbrev T_Z2 : Prop := QHd P w K mg base 1 "longest_behind" ["tails", "laters"] (spR K 2 m_Z2)
abbrev T_Z5 : Prop := QHd P w K mg base 3 "one_turn_more" ["steps", "fewer"] (spR K 2 m_Z5)
abbrev T_Z17 : Prop := QHd P w K mg base 1 "no_tails" ["row"] (spR K 1 m_Z17)
abbrev T_Z11 : Prop := QHd P w K mg base 3 "longest_tail" ["tails"] (spR K 1 m_Z11)
abbrev T_Z10 : Prop := QHd P w K mg base 1 "most_stepped" ["steps"] (spR K 1 m_Z10)
abbrev T_Z3 : Prop := QHd P w K mg base 4 "kept_by_turns" ["row", "step"] (spR K 2 m_Z3)
abbrev T_Z6 : Prop := QHd P w K mg base 5 "fewest_turns" ["row", "step", "many"] (spR K 3 m_Z6)
abbrev T_Z15 : Prop := QHd P w K mg base 1 "_law_next" ["pot", "many"] (spG K 2 m_Z15)
abbrev T_law_pots : Prop := QHd P w K mg base 1 "_law_pots" ["script"] (spP K 1 m_law_pots)
abbrev T_Z0 : Prop := QHd P w K mg base 2 "_law_some_number" ["pot", "kind"] (spG K 2 m_Z0)
abbrev T_Z8 : Prop := QHd P w K mg base 3 "_law_some_row" ["pot", "most"] (spG K 2 m_Z8)
abbrev T_Z4 : Prop := QHd P w K mg base 2 "_law_some_step" ["pot"] (spG K 1 m_Z4)
abbrev T_law_tables : Prop := QHd P w K mg base 1 "_law_tables" ["row", "step", "turns"] (spR K 3 m_law_tables)
abbrev T_Z16 : Prop := QHd P w K mg base 1 "_law_most" ["table"] (spR K 1 m_Z16)
abbrev T_Z14 : Prop := QHd P w K mg base 6 "_law_right" ["handed", "step", "kept", "many"] (spR K 4 m_Z14)
abbrev T_Z7 : Prop := QHd P w K mg base 2 "_law_wide_row" ["pot", "step"] (spG K 2 m_Z7)
abbrev T_Z1 : Prop := QHd P w K mg base 7 "_law_wide_right" ["pot"] (spG K 1 m_Z1)
end
abbrev Zs (mg : Str -> Option Value) : Prop := mg "abs" = none /\ mg "bool" = none /\ mg "enumerate" = none /\ mg "int" = none /\ mg "isinstance" = none /\ mg "len" = none /\ mg "list" = none /\ mg "max" = none /\ mg "min" = none /\ mg "range" = none /\ mg "reversed" = none /\ mg "sorted" = none /\ True
theorem z_abs {mg : Str -> Option Value} (Z : Zs mg) : mg "abs" = none := Z.1
theorem z_bool {mg : Str -> Option Value} (Z : Zs mg) : mg "bool" = none := Z.2.1
theorem z_enumerate {mg : Str -> Option Value} (Z : Zs mg) : mg "enumerate" = none := Z.2.2.1
theorem z_int {mg : Str -> Option Value} (Z : Zs mg) : mg "int" = none := Z.2.2.2.1
theorem z_isinstance {mg : Str -> Option Value} (Z : Zs mg) : mg "isinstance" = none := Z.2.2.2.2.1
theorem z_len {mg : Str -> Option Value} (Z : Zs mg) : mg "len" = none := Z.2.2.2.2.2.1
theorem z_list {mg : Str -> Option Value} (Z : Zs mg) : mg "list" = none := Z.2.2.2.2.2.2.1
theorem z_max {mg : Str -> Option Value} (Z : Zs mg) : mg "max" = none := Z.2.2.2.2.2.2.2.1
theorem z_min {mg : Str -> Option Value} (Z : Zs mg) : mg "min" = none := Z.2.2.2.2.2.2.2.2.1
theorem z_range {mg : Str -> Option Value} (Z : Zs mg) : mg "range" = none := Z.2.2.2.2.2.2.2.2.2.1
theorem z_reversed {mg : Str -> Option Value} (Z : Zs mg) : mg "reversed" = none := Z.2.2.2.2.2.2.2.2.2.2.1
theorem z_sorted {mg : Str -> Option Value} (Z : Zs mg) : mg "sorted" = none := Z.2.2.2.2.2.2.2.2.2.2.2.1
variable {P : Program} {w : World} {K : W.Frag} {mg : Str -> Option Value} {base : Heap}
noncomputable abbrev s_Z13 : Stmt := top 5
noncomputable abbrev N_Z13 : List Str := ["step"]
theorem sc_Z13 : FnScope N_Z13 ["step"] (defScope s_Z13) := qsc
theorem ok_Z13 (D : QDf K mg "refuse_step" s_Z13 ["step"]) : T_Z13 P w K mg base :=
 D.mk fun f fd Fn => Fn.okD (k := 0) (m := b_Z13) sc_Z13 fun cdv A outer s H E hr => (pssd_one (psd_if (pc_cmp op_lt opd_lt (pd_var 0 (pv 0)) pd_int (nomark _)) (pssd_one psd_never) pssd_nil))
noncomputable abbrev s_Z12 : Stmt := top 6
noncomputable abbrev N_Z12 : List Str := ["row", "step", "above", "below", "place", "number"]
theorem sc_Z12 : FnScope N_Z12 ["row", "step"] (defScope s_Z12) := qsc
theorem nd_later_steps_0 : List.Nodup (["later", "step", "number", "row"] : List Str) := by decide +kernel
theorem nd_later_steps_1 : List.Nodup (["later", "step", "number", "row"] : List Str) := by decide +kernel
theorem ok_Z12 (D : QDf K mg "later_steps" s_Z12 ["row", "step"]) (Z : Zs mg) : T_Z12 P w K mg base :=
 D.mk fun f fd Fn => Fn.okD (k := 0) (m := b_Z12) sc_Z12 fun cdv A outer s H E hr => (pssd_cons (psd_setF (i := 2) sc_Z12.nd rfl (Or.inl rfl) (pf_lst pas_nil)) (pssd_cons (psd_setF (i := 3) sc_Z12.nd rfl (Or.inl rfl) (pf_lst pas_nil)) (pssd_cons (psd_for PassesOwn.never rfl (pid_enum rfl (z_enumerate Z) (pas_cons (pd_var 0 (pv 0)) pas_nil)) (pgd_tup (is := [4, 5]) (pg_tup rfl (pgs_cons (pg_name (i := 4) sc_Z12.nd rfl (Or.inl rfl)) (pgs_cons (pg_name (i := 5) sc_Z12.nd rfl (Or.inr rfl)) pgs_nil)))) (pssd_cons (psd_append (i := 2) (pv 2) (pf_pd (pf_comp (blk_of (N := ["later", "step", "number", "row"]) (src := [none, some 1, some 5, some 0]) (defScope s_Z12) N_Z12 rfl rfl (by decide +kernel)) rfl (pid_range2 rfl (z_range Z) (pas_cons (pd_add (pd_var 4 (pv 4)) pd_int) (pas_cons (pd_lenB rfl (z_len Z) (pb_var 0 (pv 0))) pas_nil))) (fun C fp s0 H0 => (pgd_name (i := 0) (pg_name nd_later_steps_0 rfl (Or.inl rfl)))) (fun C fp s0 H0 => (ptsd_one (pc_cmp op_ge opd_ge (pd_sub (pd_ix (pb_var 3 (pv 3)) (pd_var 0 (pv 0))) (pd_var 2 (pv 2))) (pd_var 1 (pv 1)) (nomark _)))) (fun C fp s0 H0 => (pd_var 0 (pv 0))))) (fun t ha => qap (pv 2) ha) (pas_cons (pf_pd (pf_comp (blk_of (N := ["later", "step", "number", "row"]) (src := [none, some 1, some 5, some 0]) (defScope s_Z12) N_Z12 rfl rfl (by decide +kernel)) rfl (pid_range2 rfl (z_range Z) (pas_cons (pd_add (pd_var 4 (pv 4)) pd_int) (pas_cons (pd_lenB rfl (z_len Z) (pb_var 0 (pv 0))) pas_nil))) (fun C fp s0 H0 => (pgd_name (i := 0) (pg_name nd_later_steps_0 rfl (Or.inl rfl)))) (fun C fp s0 H0 => (ptsd_one (pc_cmp op_ge opd_ge (pd_sub (pd_ix (pb_var 3 (pv 3)) (pd_var 0 (pv 0))) (pd_var 2 (pv 2))) (pd_var 1 (pv 1)) (nomark _)))) (fun C fp s0 H0 => (pd_var 0 (pv 0))))) pas_nil)) (pssd_one (psd_append (i := 3) (pv 3) (pf_pd (pf_comp (blk_of (N := ["later", "step", "number", "row"]) (src := [none, some 1, some 5, some 0]) (defScope s_Z12) N_Z12 rfl rfl (by decide +kernel)) rfl (pid_range2 rfl (z_range Z) (pas_cons (pd_add (pd_var 4 (pv 4)) pd_int) (pas_cons (pd_lenB rfl (z_len Z) (pb_var 0 (pv 0))) pas_nil))) (fun C fp s0 H0 => (pgd_name (i := 0) (pg_name nd_later_steps_1 rfl (Or.inl rfl)))) (fun C fp s0 H0 => (ptsd_one (pc_cmp op_ge opd_ge (pd_sub (pd_var 2 (pv 2)) (pd_ix (pb_var 3 (pv 3)) (pd_var 0 (pv 0)))) (pd_var 1 (pv 1)) (nomark _)))) (fun C fp s0 H0 => (pd_var 0 (pv 0))))) (fun t ha => qap (pv 3) ha) (pas_cons (pf_pd (pf_comp (blk_of (N := ["later", "step", "number", "row"]) (src := [none, some 1, some 5, some 0]) (defScope s_Z12) N_Z12 rfl rfl (by decide +kernel)) rfl (pid_range2 rfl (z_range Z) (pas_cons (pd_add (pd_var 4 (pv 4)) pd_int) (pas_cons (pd_lenB rfl (z_len Z) (pb_var 0 (pv 0))) pas_nil))) (fun C fp s0 H0 => (pgd_name (i := 0) (pg_name nd_later_steps_1 rfl (Or.inl rfl)))) (fun C fp s0 H0 => (ptsd_one (pc_cmp op_ge opd_ge (pd_sub (pd_var 2 (pv 2)) (pd_ix (pb_var 3 (pv 3)) (pd_var 0 (pv 0)))) (pd_var 1 (pv 1)) (nomark _)))) (fun C fp s0 H0 => (pd_var 0 (pv 0))))) pas_nil))))) (pssd_freeze 3 (pssd_freeze 2 (pssd_one (psd_ret (pd_tup (pas_cons (pd_var 2 (pv 2)) (pas_cons (pd_var 3 (pv 3)) pas_nil))))))))))
noncomputable abbrev s_Z9 : Stmt := top 8
noncomputable abbrev N_Z9 : List Str := ["places"]
theorem sc_Z9 : FnScope N_Z9 ["places"] (defScope s_Z9) := qsc
theorem ok_Z9 (D : QDf K mg "longer_first" s_Z9 ["places"]) (Z : Zs mg) : T_Z9 P w K mg base :=
 D.mk fun f fd Fn => Fn.okD (k := 0) (m := b_Z9) sc_Z9 fun cdv A outer s H E hr => (pssd_one (psd_ret (pd_tup (pas_cons (pd_neg (pd_lenB rfl (z_len Z) (pb_var 0 (pv 0)))) (pas_cons (pd_var 0 (pv 0)) pas_nil)))))
noncomputable abbrev s_Z2 : Stmt := top 10
noncomputable abbrev N_Z2 : List Str := ["tails", "laters"]
theorem sc_Z2 : FnScope N_Z2 ["tails", "laters"] (defScope s_Z2) := qsc
theorem nd_longest_behind_0 : List.Nodup (["later", "tails"] : List Str) := by decide +kernel
theorem ok_Z2 (D : QDf K mg "longest_behind" s_Z2 ["tails", "laters"]) (Z : Zs mg) : T_Z2 P w K mg base :=
 D.mk fun f fd Fn => Fn.okD (k := 0) (m := b_Z2) sc_Z2 fun cdv A outer s H E hr => (pssd_one (psd_ret (pd_maxLen rfl hr.units rfl (z_max Z) rfl (z_len Z) (pf_pb (pf_comp (blk_of (N := ["later", "tails"]) (src := [none, some 0]) (defScope s_Z2) N_Z2 rfl rfl (by decide +kernel)) rfl (pid_seq (pd_var 1 (pv 1))) (fun C fp s0 H0 => (pgd_name (i := 0) (pg_name nd_longest_behind_0 rfl (Or.inl rfl)))) (fun C fp s0 H0 => ptsd_nil) (fun C fp s0 H0 => (pd_ix (pb_var 1 (pv 1)) (pd_var 0 (pv 0)))))) (pf_pd (pf_lst pas_nil)))))
noncomputable abbrev s_Z5 : Stmt := top 11
noncomputable abbrev N_Z5 : List Str := ["steps", "fewer", "above", "below", "fewer_ups", "fewer_downs", "ups", "downs", "risen", "fallen", "place"]
theorem sc_Z5 : FnScope N_Z5 ["steps", "fewer"] (defScope s_Z5) := qsc
theorem ok_Z5 (D : QDf K mg "one_turn_more" s_Z5 ["steps", "fewer"]) (H_Z9 : T_Z9 P w K mg base) (H_Z2 : T_Z2 P w K mg base) (Z : Zs mg) : T_Z5 P w K mg base := by
 obtain ⟨x_Z9, d_Z9, G_Z9, b_Z9, k_Z9, a_Z9⟩ := H_Z9
 exact D.mk fun f fd Fn => Fn.okD (k := 2) (m := b_Z5) sc_Z5 fun cdv A outer s H E hr => (pssd_cons (psd_asg (ps_asg (pd_var 0 (pv 0)) (pgd_tup (is := [2, 3]) (pg_tup rfl (pgs_cons (pg_name (i := 2) sc_Z5.nd rfl (Or.inl rfl)) (pgs_cons (pg_name (i := 3) sc_Z5.nd rfl (Or.inl rfl)) pgs_nil)))))) (pssd_cons (psd_asg (ps_asg (pd_var 1 (pv 1)) (pgd_tup (is := [4, 5]) (pg_tup rfl (pgs_cons (pg_name (i := 4) sc_Z5.nd rfl (Or.inl rfl)) (pgs_cons (pg_name (i := 5) sc_Z5.nd rfl (Or.inl rfl)) pgs_nil)))))) (pssd_cons (psd_setF (i := 6) sc_Z5.nd rfl (Or.inl rfl) (pf_rep (pf_lst (pas_cons (pf_pd (pf_lst pas_nil)) pas_nil)) (pd_lenB rfl (z_len Z) (pb_var 2 (pv 2))))) (pssd_cons (psd_setF (i := 7) sc_Z5.nd rfl (Or.inl rfl) (pf_rep (pf_lst (pas_cons (pf_pd (pf_lst pas_nil)) pas_nil)) (pd_lenB rfl (z_len Z) (pb_var 2 (pv 2))))) (pssd_cons (psd_setF (i := 8) sc_Z5.nd rfl (Or.inl rfl) (pf_rep (pf_lst (pas_cons (pf_pd (pf_lst pas_nil)) pas_nil)) (pd_lenB rfl (z_len Z) (pb_var 2 (pv 2))))) (pssd_cons (psd_setF (i := 9) sc_Z5.nd rfl (Or.inl rfl) (pf_rep (pf_lst (pas_cons (pf_pd (pf_lst pas_nil)) pas_nil)) (pd_lenB rfl (z_len Z) (pb_var 2 (pv 2))))) (pssd_cons (psd_for PassesOwn.never rfl (pid_revR1 rfl (z_reversed Z) rfl (z_range Z) (pas_cons (pd_lenB rfl (z_len Z) (pb_var 2 (pv 2))) pas_nil)) (pgd_name (i := 10) (pg_name sc_Z5.nd rfl (Or.inl rfl))) (pssd_cons (psd_setix (i := 6) (ps_asg (pf_pd (pf_cat (pf_pb (pf_lst (pas_cons (pd_var 10 (pv 10)) pas_nil))) (pd_pb (pd_borL 8 (pd_call (fun t ha => qcl H_Z2 hr ha) rfl (pas_cons (pd_var 8 (pv 8)) (pas_cons (pd_ix (pb_var 2 (pv 2)) (pd_var 10 (pv 10))) pas_nil)) qal2))))) (pg_sub (pv 6) (pd_var 10 (pv 10)) set_list))) (pssd_cons (psd_setix (i := 7) (ps_asg (pf_pd (pf_cat (pf_pb (pf_lst (pas_cons (pd_var 10 (pv 10)) pas_nil))) (pd_pb (pd_borL 9 (pd_call (fun t ha => qcl H_Z2 hr ha) rfl (pas_cons (pd_var 9 (pv 9)) (pas_cons (pd_ix (pb_var 3 (pv 3)) (pd_var 10 (pv 10))) pas_nil)) qal2))))) (pg_sub (pv 7) (pd_var 10 (pv 10)) set_list))) (pssd_cons (psd_setix (i := 8) (ps_asg (pd_min2K (keyAt_fn (G_Z9.mono (by decide)) hr.in1 b_Z9) rfl hr.units rfl (z_min Z) rfl a_Z9 (pas_cons (pd_ix (pb_var 6 (pv 6)) (pd_var 10 (pv 10))) (pas_cons (pd_ix (pb_var 5 (pv 5)) (pd_var 10 (pv 10))) pas_nil)) qal2) (pg_sub (pv 8) (pd_var 10 (pv 10)) set_list))) (pssd_one (psd_setix (i := 9) (ps_asg (pd_min2K (keyAt_fn (G_Z9.mono (by decide)) hr.in1 b_Z9) rfl hr.units rfl (z_min Z) rfl a_Z9 (pas_cons (pd_ix (pb_var 7 (pv 7)) (pd_var 10 (pv 10))) (pas_cons (pd_ix (pb_var 4 (pv 4)) (pd_var 10 (pv 10))) pas_nil)) qal2) (pg_sub (pv 9) (pd_var 10 (pv 10)) set_list)))))))) (pssd_freeze 6 (pssd_freeze 7 (pssd_one (psd_ret (pd_tup (pas_cons (pd_var 6 (pv 6)) (pas_cons (pd_var 7 (pv 7)) pas_nil))))))))))))))
noncomputable abbrev s_Z17 : Stmt := top 12
noncomputable abbrev N_Z17 : List Str := ["row"]
theorem sc_Z17 : FnScope N_Z17 ["row"] (defScope s_Z17) := qsc
theorem ok_Z17 (D : QDf K mg "no_tails" s_Z17 ["row"]) (Z : Zs mg) : T_Z17 P w K mg base :=
 D.mk fun f fd Fn => Fn.okD (k := 0) (m := b_Z17) sc_Z17 fun cdv A outer s H E hr => (pssd_one (psd_ret (pd_tup (pas_cons (pf_pd (pf_rep (pf_lst (pas_cons (pf_pd (pf_lst pas_nil)) pas_nil)) (pd_lenB rfl (z_len Z) (pb_var 0 (pv 0))))) (pas_cons (pf_pd (pf_rep (pf_lst (pas_cons (pf_pd (pf_lst pas_nil)) pas_nil)) (pd_lenB rfl (z_len Z) (pb_var 0 (pv 0))))) pas_nil)))))
noncomputable abbrev s_Z11 : Stmt := top 13
noncomputable abbrev N_Z11 : List Str := ["tails", "ups", "downs"]
theorem sc_Z11 : FnScope N_Z11 ["tails"] (defScope s_Z11) := qsc
theorem ok_Z11 (D : QDf K mg "longest_tail" s_Z11 ["tails"]) (H_Z9 : T_Z9 P w K mg base) (Z : Zs mg) : T_Z11 P w K mg base := by
 obtain ⟨x_Z9, d_Z9, G_Z9, b_Z9, k_Z9, a_Z9⟩ := H_Z9
 exact D.mk fun f fd Fn => Fn.okD (k := 2) (m := b_Z11) sc_Z11 fun cdv A outer s H E hr => (pssd_cons (psd_asg (ps_asg (pd_var 0 (pv 0)) (pgd_tup (is := [1, 2]) (pg_tup rfl (pgs_cons (pg_name (i := 1) sc_Z11.nd rfl (Or.inl rfl)) (pgs_cons (pg_name (i := 2) sc_Z11.nd rfl (Or.inl rfl)) pgs_nil)))))) (pssd_one (psd_ret (pd_minK (keyAt_fn (G_Z9.mono (by decide)) hr.in1 b_Z9) rfl hr.units rfl (z_min Z) rfl a_Z9 (pd_pb (pd_add (pd_var 1 (pv 1)) (pd_var 2 (pv 2)))) (pf_pd (pf_lst pas_nil))))))
noncomputable abbrev s_Z10 : Stmt := top 14
noncomputable abbrev N_Z10 : List Str := ["steps", "above", "below", "most", "place"]
theorem sc_Z10 : FnScope N_Z10 ["steps"] (defScope s_Z10) := qsc
theorem nd_most_stepped_0 : List.Nodup (["later", "most"] : List Str) := by decide +kernel
theorem ok_Z10 (D : QDf K mg "most_stepped" s_Z10 ["steps"]) (Z : Zs mg) : T_Z10 P w K mg base :=
 D.mk fun f fd Fn => Fn.okD (k := 0) (m := b_Z10) sc_Z10 fun cdv A outer s H E hr => (pssd_cons (psd_asg (ps_asg (pd_var 0 (pv 0)) (pgd_tup (is := [1, 2]) (pg_tup rfl (pgs_cons (pg_name (i := 1) sc_Z10.nd rfl (Or.inl rfl)) (pgs_cons (pg_name (i := 2) sc_Z10.nd rfl (Or.inl rfl)) pgs_nil)))))) (pssd_cons (psd_setF (i := 3) sc_Z10.nd rfl (Or.inr rfl) (pf_rep (pf_lst (pas_cons pd_int pas_nil)) (pd_lenB rfl (z_len Z) (pb_var 1 (pv 1))))) (pssd_cons (psd_for PassesOwn.never rfl (pid_revR1 rfl (z_reversed Z) rfl (z_range Z) (pas_cons (pd_lenB rfl (z_len Z) (pb_var 1 (pv 1))) pas_nil)) (pgd_name (i := 4) (pg_name sc_Z10.nd rfl (Or.inl rfl))) (pssd_one (psd_setix (i := 3) (ps_asg (pd_add pd_int (pd_maxE rfl hr.units rfl (z_max Z) (pf_pb (pf_compO (srcOk_of (by decide)) (blk_of (N := ["later", "most"]) (src := [none, some 3]) (defScope s_Z10) N_Z10 rfl rfl (by decide +kernel)) rfl (pid_seq (pd_add (pd_ix (pb_var 1 (pv 1)) (pd_var 4 (pv 4))) (pd_ix (pb_var 2 (pv 2)) (pd_var 4 (pv 4))))) (fun C fp s0 H0 => (pgd_name (i := 0) (pg_name nd_most_stepped_0 rfl (Or.inl rfl)))) (fun C fp s0 H0 => ptsd_nil) (fun C fp s0 H0 => (pd_ix (pb_var 1 (pv 1)) (pd_var 0 (pv 0)))))) pd_int)) (pg_sub (pv 3) (pd_var 4 (pv 4)) set_list))))) (pssd_freeze 3 (pssd_one (psd_ret (pd_maxE rfl hr.units rfl (z_max Z) (pb_var 3 (pv 3)) pd_int)))))))
noncomputable abbrev s_Z3 : Stmt := top 15
noncomputable abbrev N_Z3 : List Str := ["row", "step", "steps", "most", "tails", "kept"]
theorem sc_Z3 : FnScope N_Z3 ["row", "step"] (defScope s_Z3) := qsc
theorem ok_Z3 (D : QDf K mg "kept_by_turns" s_Z3 ["row", "step"]) (H_Z12 : T_Z12 P w K mg base) (H_Z11 : T_Z11 P w K mg base) (H_Z10 : T_Z10 P w K mg base) (H_Z17 : T_Z17 P w K mg base) (H_Z5 : T_Z5 P w K mg base) (H_Z13 : T_Z13 P w K mg base) (Z : Zs mg) : T_Z3 P w K mg base :=
 D.mk fun f fd Fn => Fn.okD (k := 3) (m := b_Z3) sc_Z3 fun cdv A outer s H E hr => (pssd_cons (psd_expr (pd_call (fun t ha => qcl H_Z13 hr ha) rfl (pas_cons (pd_var 1 (pv 1)) pas_nil) qal1)) (pssd_cons (psd_set (i := 2) sc_Z3.nd rfl (Or.inl rfl) (pd_call (fun t ha => qcl H_Z12 hr ha) rfl (pas_cons (pd_var 0 (pv 0)) (pas_cons (pd_var 1 (pv 1)) pas_nil)) qal2)) (pssd_cons (psd_set (i := 3) sc_Z3.nd rfl (Or.inl rfl) (pd_call (fun t ha => qcl H_Z10 hr ha) rfl (pas_cons (pd_var 2 (pv 2)) pas_nil) qal1)) (pssd_cons (psd_set (i := 4) sc_Z3.nd rfl (Or.inl rfl) (pd_call (fun t ha => qcl H_Z5 hr ha) rfl (pas_cons (pd_var 2 (pv 2)) (pas_cons (pd_call (fun t ha => qcl H_Z17 hr ha) rfl (pas_cons (pd_var 0 (pv 0)) pas_nil) qal1) pas_nil)) qal2)) (pssd_cons (psd_setF (i := 5) sc_Z3.nd rfl (Or.inl rfl) (pf_lst (pas_cons (pd_lenB rfl (z_len Z) (pd_pb (pd_call (fun t ha => qcl H_Z11 hr ha) rfl (pas_cons (pd_var 4 (pv 4)) pas_nil) qal1))) pas_nil))) (pssd_cons (psd_while 1000 PassesOwn.never (pc_cmp op_lt opd_lt (pd_ix (pb_var 5 (pv 5)) (pd_neg pd_int)) (pd_var 3 (pv 3)) (nomark _)) (pssd_cons (psd_set (i := 4) sc_Z3.nd rfl (Or.inl rfl) (pd_call (fun t ha => qcl H_Z5 hr ha) rfl (pas_cons (pd_var 2 (pv 2)) (pas_cons (pd_var 4 (pv 4)) pas_nil)) qal2)) (pssd_one (psd_append (i := 5) (pv 5) (pd_lenB rfl (z_len Z) (pd_pb (pd_call (fun t ha => qcl H_Z11 hr ha) rfl (pas_cons (pd_var 4 (pv 4)) pas_nil) qal1))) (fun t ha => qap (pv 5) ha) (pas_cons (pd_lenB rfl (z_len Z) (pd_pb (pd_call (fun t ha => qcl H_Z11 hr ha) rfl (pas_cons (pd_var 4 (pv 4)) pas_nil) qal1))) pas_nil))))) (pssd_one (psd_retO 5 (pv 5)))))))))
noncomputable abbrev s_Z6 : Stmt := top 16
noncomputable abbrev N_Z6 : List Str := ["row", "step", "many", "turns", "kept"]
theorem sc_Z6 : FnScope N_Z6 ["row", "step", "many"] (defScope s_Z6) := qsc
theorem ok_Z6 (D : QDf K mg "fewest_turns" s_Z6 ["row", "step", "many"]) (H_Z3 : T_Z3 P w K mg base) (H_Z13 : T_Z13 P w K mg base) (Z : Zs mg) : T_Z6 P w K mg base :=
 D.mk fun f fd Fn => Fn.okD (k := 4) (m := b_Z6) sc_Z6 fun cdv A outer s H E hr => (pssd_cons (psd_expr (pd_call (fun t ha => qcl H_Z13 hr ha) rfl (pas_cons (pd_var 1 (pv 1)) pas_nil) qal1)) (pssd_cons (psd_if (pc_cmp op_lt opd_lt (pd_var 2 (pv 2)) pd_int (nomark _)) (pssd_one psd_never) pssd_nil) (pssd_cons (psd_for PassesOwn.never rfl (pid_enum rfl (z_enumerate Z) (pas_cons (pd_call (fun t ha => qcl H_Z3 hr ha) rfl (pas_cons (pd_var 0 (pv 0)) (pas_cons (pd_var 1 (pv 1)) pas_nil)) qal2) pas_nil)) (pgd_tup (is := [3, 4]) (pg_tup rfl (pgs_cons (pg_name (i := 3) sc_Z6.nd rfl (Or.inl rfl)) (pgs_cons (pg_name (i := 4) sc_Z6.nd rfl (Or.inl rfl)) pgs_nil)))) (pssd_one (psd_if (pc_cmp op_ge opd_ge (pd_var 4 (pv 4)) (pd_var 2 (pv 2)) (nomark _)) (pssd_one (psd_retO 3 (pv 3))) pssd_nil))) (pssd_one (psd_ret pd_non)))))
noncomputable abbrev s_Z15 : Stmt := top 18
noncomputable abbrev N_Z15 : List Str := ["pot", "many", "cell", "stir"]
theorem sc_Z15 : FnScope N_Z15 ["pot", "many"] (defScope s_Z15) := qsc
theorem ok_Z15 (D : QDf K mg "_law_next" s_Z15 ["pot", "many"]) : T_Z15 P w K mg base :=
 D.mk fun f fd Fn => Fn.okGl (k := 0) (m := b_Z15) sc_Z15 (by decide) fun cdv A outer s H E hr => (pssd_cons (psd_setix (i := 0) (ps_asg (pd_add (pd_ix (pb_var 0 (pv 0)) pd_int) pd_int) (pg_sub (pv 0) pd_int set_list))) (pssd_cons (psd_set (i := 2) sc_Z15.nd rfl (Or.inl rfl) (pd_ix (pb_var 0 (pv 0)) pd_int)) (pssd_cons (psd_if (pc_cmp op_ge opd_ge (pd_var 2 (pv 2)) (pd_pow pd_int pd_int) (nomark _)) (pssd_cons (psd_setix (i := 0) (ps_asg (pd_fdiv (pd_var 2 (pv 2)) (pd_var 1 (pv 1))) (pg_sub (pv 0) pd_int set_list))) (pssd_one (psd_retG 0 (pdm_pure (pd_mod (pd_var 2 (pv 2)) (pd_var 1 (pv 1))))))) pssd_nil) (pssd_cons (psd_set (i := 3) sc_Z15.nd rfl (Or.inl rfl) (pd_mod (pd_add (pd_add (pd_mul (pd_var 2 (pv 2)) pd_int) (pd_mul (pd_ix (pb_var 0 (pv 0)) pd_int) pd_int)) pd_int) pd_int)) (pssd_cons (psd_set (i := 3) sc_Z15.nd rfl (Or.inl rfl) (pd_mod (pd_mul (pd_var 3 (pv 3)) (pd_var 3 (pv 3))) pd_int)) (pssd_one (psd_retG 0 (pdm_pure (pd_mod (pd_fdiv (pd_mod (pd_add (pd_mul (pd_var 3 (pv 3)) pd_int) (pd_mul (pd_ix (pb_var 0 (pv 0)) pd_int) pd_int)) pd_int) pd_int) (pd_var 1 (pv 1)))))))))))
noncomputable abbrev s_law_pots : Stmt := top 19
noncomputable abbrev N_law_pots : List Str := ["script"]
theorem sc_law_pots : FnScope N_law_pots ["script"] (defScope s_law_pots) := qsc
theorem nd_law_pots_0 : List.Nodup (["cell"] : List Str) := by decide +kernel
theorem ok_law_pots (D : QDf K mg "_law_pots" s_law_pots ["script"]) (Z : Zs mg) : T_law_pots P w K mg base :=
 D.mk fun f fd Fn => Fn.okP (k := 0) sc_law_pots rfl (fun cdv A outer s H E hr => (pc_cmp op_eq opd_eqS (pd_lenB rfl (z_len Z) (pb_var 0 (pv 0))) pd_int (nomark _))) (fun cdv A outer s H E hr => (pp_lst1 (pf_lst (pas_cons pd_int (pas_cons pd_int pas_nil))))) (fun cdv A outer s H E hr => (pp_comp (blk_of (N := ["cell"]) (src := [none]) (defScope s_law_pots) N_law_pots rfl rfl (by decide +kernel)) rfl (pid_seq (pf_pd (pf_sl (pb_var 0 (pv 0)) pos_none (pos_some pd_int)))) (fun C fp s0 H0 => (pgd_name (i := 0) (pg_name nd_law_pots_0 rfl (Or.inl rfl)))) (fun C fp s0 H0 => (pf_lst (pas_cons (pd_var 0 (pv 0)) (pas_cons pd_int pas_nil))))))
noncomputable abbrev s_Z0 : Stmt := top 20
noncomputable abbrev N_Z0 : List Str := ["pot", "kind"]
theorem sc_Z0 : FnScope N_Z0 ["pot", "kind"] (defScope s_Z0) := qsc
theorem ok_Z0 (D : QDf K mg "_law_some_number" s_Z0 ["pot", "kind"]) (H_Z15 : T_Z15 P w K mg base) : T_Z0 P w K mg base :=
 D.mk fun f fd Fn => Fn.okGl (k := 1) (m := b_Z0) sc_Z0 (by decide) fun cdv A outer s H E hr => (pssd_cons (psd_if (pc_cmp op_eq opd_eqS (pd_var 1 (pv 1)) pd_int (nomark _)) (pssd_one (psd_retG 0 (pdm_callG (i := 0) (fun t ha => qcl H_Z15 hr ha) rfl (pv 0) (pam_pure (pas_cons pd_int pas_nil)) (apu_len qal1)))) pssd_nil) (pssd_cons (psd_if (pc_cmp op_eq opd_eqS (pd_var 1 (pv 1)) pd_int (nomark _)) (pssd_one (psd_retG 0 (pdm_op op_sub opd_sub (pdm_callG (i := 0) (fun t ha => qcl H_Z15 hr ha) rfl (pv 0) (pam_pure (pas_cons pd_int pas_nil)) (apu_len qal1)) (pdm_pure pd_int)))) pssd_nil) (pssd_cons (psd_if (pc_cmp op_eq opd_eqS (pd_var 1 (pv 1)) pd_int (nomark _)) (pssd_one (psd_retG 0 (pdm_op op_sub opd_sub (pdm_callG (i := 0) (fun t ha => qcl H_Z15 hr ha) rfl (pv 0) (pam_pure (pas_cons pd_int pas_nil)) (apu_len qal1)) (pdm_pure pd_int)))) pssd_nil) (pssd_one (psd_retG 0 (pdm_op op_mul opd_mul (pdm_ix (pdm_pure (pf_pd (pf_lst (pas_cons (pd_neg pd_int) (pas_cons pd_int pas_nil))))) (pdm_callG (i := 0) (fun t ha => qcl H_Z15 hr ha) rfl (pv 0) (pam_pure (pas_cons pd_int pas_nil)) (apu_len qal1))) (pdm_op (OpR.or op_add op_catS) opd_add (pdm_pure (pd_pow pd_int pd_int)) (pdm_callG (i := 0) (fun t ha => qcl H_Z15 hr ha) rfl (pv 0) (pam_pure (pas_cons pd_int pas_nil)) (apu_len qal1)))))))))
noncomputable abbrev s_Z8 : Stmt := top 21
noncomputable abbrev N_Z8 : List Str := ["pot", "most", "kind", "many", "found", "shape"]
theorem sc_Z8 : FnScope N_Z8 ["pot", "most"] (defScope s_Z8) := qsc
theorem nd_law_some_row_0 : List.Nodup (["k", "pot", "kind"] : List Str) := by decide +kernel
theorem nd_law_some_row_1 : List.Nodup (["k", "number"] : List Str) := by decide +kernel
theorem ok_Z8 (D : QDf K mg "_law_some_row" s_Z8 ["pot", "most"]) (H_Z15 : T_Z15 P w K mg base) (H_Z0 : T_Z0 P w K mg base) (Z : Zs mg) : T_Z8 P w K mg base :=
 D.mk fun f fd Fn => Fn.okGl (k := 2) (m := b_Z8) sc_Z8 (by decide) fun cdv A outer s H E hr => (pssd_cons (psd_setm (i := 2) sc_Z8.nd rfl (Or.inr rfl) (pdm_callG (i := 0) (fun t ha => qcl H_Z15 hr ha) rfl (pv 0) (pam_pure (pas_cons pd_int pas_nil)) (apu_len qal1))) (pssd_cons (psd_setm (i := 3) sc_Z8.nd rfl (Or.inl rfl) (pdm_callG (i := 0) (fun t ha => qcl H_Z15 hr ha) rfl (pv 0) (pam_cons (pdm_ix (pdm_pure (pf_pd (pf_lst (pas_cons (pd_min2 rfl rfl (z_min Z) (pas_cons pd_int (pas_cons (pd_add (pd_var 1 (pv 1)) pd_int) pas_nil))) (pas_cons (pd_min2 rfl rfl (z_min Z) (pas_cons pd_int (pas_cons (pd_add (pd_var 1 (pv 1)) pd_int) pas_nil))) (pas_cons (pd_add (pd_var 1 (pv 1)) pd_int) pas_nil)))))) (pdm_callG (i := 0) (fun t ha => qcl H_Z15 hr ha) rfl (pv 0) (pam_pure (pas_cons pd_int pas_nil)) (apu_len qal1))) (pam_pure pas_nil)) (aconsm_len (apu_len anil_len)))) (pssd_cons (psd_setCmB (i := 0) (j := 1) rfl (by decide) (ps_setC (i := 4) sc_Z8.nd rfl (Or.inl rfl) (blk_of (N := ["k", "pot", "kind"]) (src := [none, some 0, some 2]) (defScope s_Z8) N_Z8 rfl rfl (by decide +kernel)) rfl (pid_range1 rfl (z_range Z) (pas_cons (pd_var 3 (pv 3)) pas_nil)) (fun C fp s0 H0 => (pg_name (i := 0) nd_law_some_row_0 rfl (Or.inl rfl))) (fun C fp s0 H0 => pts_nil) (fun C fp s0 H0 => (pdm_callG (i := 1) (fun t ha => qcl H_Z0 hr ha) rfl (pv 1) (pam_pure (pas_cons (pd_var 2 (pv 2)) pas_nil)) (apu_len qal1))))) (pssd_cons (psd_setm (i := 5) sc_Z8.nd rfl (Or.inl rfl) (pdm_callG (i := 0) (fun t ha => qcl H_Z15 hr ha) rfl (pv 0) (pam_pure (pas_cons pd_int pas_nil)) (apu_len qal1))) (pssd_cons (psd_if (pc_cmp op_eq opd_eqS (pd_var 5 (pv 5)) pd_int (nomark _)) (pssd_one (psd_set (i := 4) sc_Z8.nd rfl (Or.inl rfl) (pf_pd (pf_sorted rfl (z_sorted Z) (pb_var 4 (pv 4)) PyProof.Rows.boot_sorted)))) pssd_nil) (pssd_cons (psd_if (pc_cmp op_eq opd_eqS (pd_var 5 (pv 5)) pd_int (nomark _)) (pssd_one (psd_setCs (ps_setC (i := 4) sc_Z8.nd rfl (Or.inl rfl) (blk_of (N := ["k", "number"]) (src := [none, none]) (defScope s_Z8) N_Z8 rfl rfl (by decide +kernel)) rfl (pid_enum rfl (z_enumerate Z) (pas_cons (pd_var 4 (pv 4)) pas_nil)) (fun C fp s0 H0 => (pgd_tup (is := [0, 1]) (pg_tup rfl (pgs_cons (pg_name (i := 0) nd_law_some_row_1 rfl (Or.inl rfl)) (pgs_cons (pg_name (i := 1) nd_law_some_row_1 rfl (Or.inl rfl)) pgs_nil))))) (fun C fp s0 H0 => ptsd_nil) (fun C fp s0 H0 => (pd_add (pd_var 1 (pv 1)) (pd_ix (pf_pb (pf_lst (pas_cons pd_int (pas_cons (pd_neg pd_int) pas_nil)))) (pd_mod (pd_var 0 (pv 0)) pd_int))))))) pssd_nil) (pssd_cons (psd_if (pc_cmp op_eq opd_eqS (pd_var 5 (pv 5)) pd_int (nomark _)) (pssd_one (psd_set (i := 4) sc_Z8.nd rfl (Or.inl rfl) (pf_pd (pf_rep (pf_sl (pb_var 4 (pv 4)) pos_none (pos_some pd_int)) (pd_var 3 (pv 3)))))) pssd_nil) (pssd_one (psd_retG 0 (pdm_pure (pd_var 4 (pv 4))))))))))))
noncomputable abbrev s_Z4 : Stmt := top 22
noncomputable abbrev N_Z4 : List Str := ["pot"]
theorem sc_Z4 : FnScope N_Z4 ["pot"] (defScope s_Z4) := qsc
theorem ok_Z4 (D : QDf K mg "_law_some_step" s_Z4 ["pot"]) (H_Z15 : T_Z15 P w K mg base) : T_Z4 P w K mg base :=
 D.mk fun f fd Fn => Fn.okGl (k := 1) (m := b_Z4) sc_Z4 (by decide) fun cdv A outer s H E hr => (pssd_one (psd_retG 0 (pdm_ix (pdm_lst (pam_cons (pdm_pure pd_int) (pam_cons (pdm_pure pd_int) (pam_cons (pdm_op (OpR.or op_add op_catS) opd_add (pdm_pure pd_int) (pdm_callG (i := 0) (fun t ha => qcl H_Z15 hr ha) rfl (pv 0) (pam_pure (pas_cons pd_int pas_nil)) (apu_len qal1))) (pam_cons (pdm_op (OpR.or op_add op_catS) opd_add (pdm_pure pd_int) (pdm_callG (i := 0) (fun t ha => qcl H_Z15 hr ha) rfl (pv 0) (pam_pure (pas_cons pd_int pas_nil)) (apu_len qal1))) (pam_pure (pas_cons (pd_pow pd_int pd_int) pas_nil))))))) (pdm_callG (i := 0) (fun t ha => qcl H_Z15 hr ha) rfl (pv 0) (pam_pure (pas_cons pd_int pas_nil)) (apu_len qal1)))))
noncomputable abbrev s_law_tables : Stmt := top 23
noncomputable abbrev N_law_tables : List Str := ["row", "step", "turns", "tables", "turn", "table", "one", "other", "side", "most"]
theorem sc_law_tables : FnScope N_law_tables ["row", "step", "turns"] (defScope s_law_tables) := qsc
theorem nd_law_tables_0 : List.Nodup (["number"] : List Str) := by decide +kernel
theorem ok_law_tables (D : QDf K mg "_law_tables" s_law_tables ["row", "step", "turns"]) (Z : Zs mg) : T_law_tables P w K mg base :=
 D.mk fun f fd Fn => (Fn.okW (k := 0) (m := b_law_tables) sc_law_tables fun cdv A outer s H E hr => (pssw_cons (psw (psd_setF (i := 3) sc_law_tables.nd rfl (Or.inl rfl) (pf_lst pas_nil))) (pssw_cons (psw_for PassesOwn.never rfl (pid_range1 rfl (z_range Z) (pas_cons (pd_add (pd_var 2 (pv 2)) pd_int) pas_nil)) (pgd_name (i := 4) (pg_name sc_law_tables.nd rfl (Or.inl rfl))) (pssw_newR (ps_setC (i := 5) sc_law_tables.nd rfl (Or.inl rfl) (blk_of (N := ["number"]) (src := [none]) (defScope s_law_tables) N_law_tables rfl rfl (by decide +kernel)) rfl (pid_seq (pd_var 0 (pv 0))) (fun C fp s0 H0 => (pgd_name (i := 0) (pg_name nd_law_tables_0 rfl (Or.inl rfl)))) (fun C fp s0 H0 => ptsd_nil) (fun C fp s0 H0 => (pf_lst (pas_cons pd_int (pas_cons pd_int pas_nil))))) (pssw_cons (psw_for PassesOwn.never rfl (pid_range3 rfl (z_range Z) (pas_cons (pd_sub (pd_lenB rfl (z_len Z) (pb_var 0 (pv 0))) pd_int) (pas_cons (pd_neg pd_int) (pas_cons (pd_neg pd_int) pas_nil)))) (pgd_name (i := 6) (pg_name sc_law_tables.nd rfl (Or.inl rfl))) (pssw_one (psw_for PassesOwn.never rfl (pid_range2 rfl (z_range Z) (pas_cons (pd_add (pd_var 6 (pv 6)) pd_int) (pas_cons (pd_lenB rfl (z_len Z) (pb_var 0 (pv 0))) pas_nil))) (pgd_name (i := 7) (pg_name sc_law_tables.nd rfl (Or.inl rfl))) (pssw_cons (psw (psd_set (i := 8) sc_law_tables.nd rfl (Or.inl rfl) (pd_intc rfl (z_int Z) (pas_cons (pd_cmp op_lt opd_lt (pd_ix (pb_var 0 (pv 0)) (pd_var 7 (pv 7))) (pd_ix (pb_var 0 (pv 0)) (pd_var 6 (pv 6))) (nomark _)) pas_nil) PyProof.Rows.boot_int))) (pssw_one (psw_if (pcw (pc_cmp op_ge opd_ge (pd_abs rfl (z_abs Z) (pas_cons (pd_sub (pd_ix (pb_var 0 (pv 0)) (pd_var 7 (pv 7))) (pd_ix (pb_var 0 (pv 0)) (pd_var 6 (pv 6)))) pas_nil)) (pd_var 1 (pv 1)) (nomark _))) (pssw_cons (psw_set (i := 9) sc_law_tables.nd rfl (Or.inl rfl) (pdw_look (pd_ix (pd_pb (pd_ix (pb_var 5 (pv 5)) (pd_var 7 (pv 7)))) (pd_var 8 (pv 8))))) (pssw_cons (psw_if (pcw (pc_cmp op_gt opd_gt (pd_var 4 (pv 4)) pd_int (nomark _))) (pssw_one (psw (psd_set (i := 9) sc_law_tables.nd rfl (Or.inl rfl) (pd_max2 rfl rfl (z_max Z) (pas_cons (pd_var 9 (pv 9)) (pas_cons (pd_ix (pd_pb (pd_ix (pd_pb (pd_ix (pb_var 3 (pv 3)) (pd_neg pd_int))) (pd_var 7 (pv 7)))) (pd_sub pd_int (pd_var 8 (pv 8)))) pas_nil)))))) pssw_nil) (pssw_one (psw_setR (ps_asg (pdw_look (pd_max2 rfl rfl (z_max Z) (pas_cons (pd_ix (pd_pb (pd_ix (pb_var 5 (pv 5)) (pd_var 6 (pv 6)))) (pd_var 8 (pv 8))) (pas_cons (pd_add pd_int (pd_var 9 (pv 9))) pas_nil)))) (pg_sub (pe_ix ix_list (pv 5) (pd_var 6 (pv 6)) (fun _ _ => rfl)) (pd_var 8 (pv 8)) set_list)))))) pssw_nil)))))) (pssw_freezeR 5 (pssw_one (psw (psd_append (i := 3) (pv 3) (pd_var 5 (pv 5)) (fun t ha => qap (pv 3) ha) (pas_cons (pd_var 5 (pv 5)) pas_nil)))))))) (pssw_one (psw_retO 3 (pv 3)))))).plainW
noncomputable abbrev s_Z16 : Stmt := top 24
noncomputable abbrev N_Z16 : List Str := ["table"]
theorem sc_Z16 : FnScope N_Z16 ["table"] (defScope s_Z16) := qsc
theorem nd_law_most_0 : List.Nodup (["kept"] : List Str) := by decide +kernel
theorem ok_Z16 (D : QDf K mg "_law_most" s_Z16 ["table"]) (Z : Zs mg) : T_Z16 P w K mg base :=
 D.mk fun f fd Fn => Fn.okD (k := 0) (m := b_Z16) sc_Z16 fun cdv A outer s H E hr => (pssd_one (psd_ret (pd_maxL rfl rfl (z_max Z) (pf_pb (pf_cat (pf_pb (pf_lst (pas_cons pd_int pas_nil))) (pf_pb (pf_comp (blk_of (N := ["kept"]) (src := [none]) (defScope s_Z16) N_Z16 rfl rfl (by decide +kernel)) rfl (pid_seq (pd_var 0 (pv 0))) (fun C fp s0 H0 => (pgd_name (i := 0) (pg_name nd_law_most_0 rfl (Or.inl rfl)))) (fun C fp s0 H0 => ptsd_nil) (fun C fp s0 H0 => (pd_maxL rfl rfl (z_max Z) (pb_var 0 (pv 0)))))))))))
noncomputable abbrev s_Z14 : Stmt := top 25
noncomputable abbrev N_Z14 : List Str := ["handed", "step", "kept", "many", "some", "told"]
theorem sc_Z14 : FnScope N_Z14 ["handed", "step", "kept", "many"] (defScope s_Z14) := qsc
theorem nd_law_right_0 : List.Nodup (["turns", "most", "many"] : List Str) := by decide +kernel
theorem ok_Z14 (D : QDf K mg "_law_right" s_Z14 ["handed", "step", "kept", "many"]) (H_Z6 : T_Z6 P w K mg base) (Z : Zs mg) : T_Z14 P w K mg base :=
 D.mk fun f fd Fn => Fn.okD (k := 5) (m := b_Z14) sc_Z14 fun cdv A outer s H E hr => (pssd_cons (psd_setCs (ps_setC (i := 4) sc_Z14.nd rfl (Or.inl rfl) (blk_of (N := ["turns", "most", "many"]) (src := [none, none, some 3]) (defScope s_Z14) N_Z14 rfl rfl (by decide +kernel)) rfl (pid_enum rfl (z_enumerate Z) (pas_cons (pd_var 2 (pv 2)) pas_nil)) (fun C fp s0 H0 => (pgd_tup (is := [0, 1]) (pg_tup rfl (pgs_cons (pg_name (i := 0) nd_law_right_0 rfl (Or.inl rfl)) (pgs_cons (pg_name (i := 1) nd_law_right_0 rfl (Or.inl rfl)) pgs_nil))))) (fun C fp s0 H0 => (ptsd_one (pc_cmp op_ge opd_ge (pd_var 1 (pv 1)) (pd_var 2 (pv 2)) (nomark _)))) (fun C fp s0 H0 => (pd_var 0 (pv 0))))) (pssd_cons (psd_set (i := 5) sc_Z14.nd rfl (Or.inl rfl) (pd_call (fun t ha => qcl H_Z6 hr ha) rfl (pas_cons (pd_var 0 (pv 0)) (pas_cons (pd_var 1 (pv 1)) (pas_cons (pd_var 3 (pv 3)) pas_nil))) qal3)) (pssd_cons (psd_if (pc_eqB (op_eqF hr.units) (pb_var 4 (pv 4)) (pf_pb (pf_lst pas_nil)) (nomark _)) (pssd_one (psd_ret (pd_cmp op_isN opd_isN (pd_var 5 (pv 5)) pd_non (nomark _)))) pssd_nil) (pssd_one (psd_ret (pd_and (pd_isi (C := "int") rfl (z_isinstance Z) rfl (z_int Z) PyProof.Rows.boot_int (pd_var 5 (pv 5))) (pd_and (pd_not (pd_isi (C := "bool") rfl (z_isinstance Z) rfl (z_bool Z) PyProof.Rows.boot_bool (pd_var 5 (pv 5)))) (pd_one (pd_cmp op_eq opd_eqS (pd_var 5 (pv 5)) (pd_ix (pb_var 4 (pv 4)) pd_int) (nomark _))))))))))
noncomputable abbrev s_Z7 : Stmt := top 26
noncomputable abbrev N_Z7 : List Str := ["pot", "step", "many", "bends", "here", "sign", "found", "place"]
theorem sc_Z7 : FnScope N_Z7 ["pot", "step"] (defScope s_Z7) := qsc
theorem nd_law_wide_row_0 : List.Nodup (["k", "pot", "many"] : List Str) := by decide +kernel
theorem ok_Z7 (D : QDf K mg "_law_wide_row" s_Z7 ["pot", "step"]) (H_Z15 : T_Z15 P w K mg base) (Z : Zs mg) : T_Z7 P w K mg base :=
 D.mk fun f fd Fn => Fn.okGl (k := 1) (m := b_Z7) sc_Z7 (by decide) fun cdv A outer s H E hr => (pssd_cons (psd_setm (i := 2) sc_Z7.nd rfl (Or.inr rfl) (pdm_op (OpR.or op_add op_catS) opd_add (pdm_pure pd_int) (pdm_callG (i := 0) (fun t ha => qcl H_Z15 hr ha) rfl (pv 0) (pam_pure (pas_cons pd_int pas_nil)) (apu_len qal1)))) (pssd_cons (psd_setCmRB (i := 0) (j := 1) rfl (by decide) (ps_setC (i := 3) sc_Z7.nd rfl (Or.inl rfl) (blk_of (N := ["k", "pot", "many"]) (src := [none, some 0, some 2]) (defScope s_Z7) N_Z7 rfl rfl (by decide +kernel)) rfl (pim_range1 rfl (z_range Z) (pam_cons (pdm_callG (i := 0) (fun t ha => qcl H_Z15 hr ha) rfl (pv 0) (pam_pure (pas_cons pd_int pas_nil)) (apu_len qal1)) (pam_pure pas_nil))) (fun C fp s0 H0 => (pg_name (i := 0) nd_law_wide_row_0 rfl (Or.inl rfl))) (fun C fp s0 H0 => pts_nil) (fun C fp s0 H0 => (pdm_callG (i := 1) (fun t ha => qcl H_Z15 hr ha) rfl (pv 1) (pam_pure (pas_cons (pd_var 2 (pv 2)) pas_nil)) (apu_len qal1))))) (pssd_cons (psd_set (i := 4) sc_Z7.nd rfl (Or.inl rfl) pd_int) (pssd_cons (psd_set (i := 5) sc_Z7.nd rfl (Or.inl rfl) pd_int) (pssd_cons (psd_setF (i := 6) sc_Z7.nd rfl (Or.inl rfl) (pf_lst pas_nil)) (pssd_cons (psd_for PassesOwn.never rfl (pid_range1 rfl (z_range Z) (pas_cons (pd_var 2 (pv 2)) pas_nil)) (pgd_name (i := 7) (pg_name sc_Z7.nd rfl (Or.inl rfl))) (pssd_cons (psd_if (pc_cmp op_in_seq opd_in (pd_var 7 (pv 7)) (pd_var 3 (pv 3)) rfl) (pssd_one (psd_set (i := 5) sc_Z7.nd rfl (Or.inl rfl) (pd_sub pd_int (pd_var 5 (pv 5))))) pssd_nil) (pssd_cons (psd_setm (i := 4) sc_Z7.nd rfl (Or.inl rfl) (pdm_op (OpR.or op_add op_catS) opd_add (pdm_pure (pd_var 4 (pv 4))) (pdm_op op_mul opd_mul (pdm_pure (pd_var 5 (pv 5))) (pdm_callG (i := 0) (fun t ha => qcl H_Z15 hr ha) rfl (pv 0) (pam_pure (pas_cons pd_int pas_nil)) (apu_len qal1))))) (pssd_one (psd_appm (i := 6) (fun t ha => qap (pv 6) ha) (pam_cons (pdm_op (OpR.or op_add op_catS) opd_add (pdm_pure (pd_var 4 (pv 4))) (pdm_callG (i := 0) (fun t ha => qcl H_Z15 hr ha) rfl (pv 0) (pam_pure (pas_cons (pd_add (pd_fdiv (pd_var 1 (pv 1)) pd_int) pd_int) pas_nil)) (apu_len qal1))) (pam_pure pas_nil))))))) (pssd_one (psd_retGO 0 6 (pv 6)))))))))
noncomputable abbrev s_Z1 : Stmt := top 27
noncomputable abbrev N_Z1 : List Str := ["pot", "step", "row", "kept", "some"]
theorem sc_Z1 : FnScope N_Z1 ["pot"] (defScope s_Z1) := qsc
theorem nd_law_wide_right_0 : List.Nodup (["table"] : List Str) := by decide +kernel
theorem nd_law_wide_right_1 : List.Nodup (["many", "row", "step", "kept"] : List Str) := by decide +kernel
theorem ok_Z1 (D : QDf K mg "_law_wide_right" s_Z1 ["pot"]) (H_Z16 : T_Z16 P w K mg base) (H_Z15 : T_Z15 P w K mg base) (H_Z14 : T_Z14 P w K mg base) (H_law_tables : T_law_tables P w K mg base) (H_Z7 : T_Z7 P w K mg base) (Z : Zs mg) : T_Z1 P w K mg base :=
 D.mk fun f fd Fn => Fn.okGl (k := 6) (m := b_Z1) sc_Z1 (by decide) fun cdv A outer s H E hr => (pssd_cons (psd_setm (i := 1) sc_Z1.nd rfl (Or.inr rfl) (pdm_op (OpR.or op_add op_catS) opd_add (pdm_pure pd_int) (pdm_callG (i := 0) (fun t ha => qcl H_Z15 hr ha) rfl (pv 0) (pam_pure (pas_cons pd_int pas_nil)) (apu_len qal1)))) (pssd_cons (psd_setm (i := 2) sc_Z1.nd rfl (Or.inr rfl) (pdm_callG (i := 0) (fun t ha => qcl H_Z7 hr ha) rfl (pv 0) (pam_pure (pas_cons (pd_var 1 (pv 1)) pas_nil)) (apu_len qal1))) (pssd_cons (psd_set (i := 3) sc_Z1.nd rfl (Or.inr rfl) (pf_pd (pf_comp (blk_of (N := ["table"]) (src := [none]) (defScope s_Z1) N_Z1 rfl rfl (by decide +kernel)) rfl (pid_seq (pd_call (fun t ha => qcl H_law_tables hr ha) rfl (pas_cons (pd_var 2 (pv 2)) (pas_cons (pd_var 1 (pv 1)) (pas_cons pd_int pas_nil))) qal3)) (fun C fp s0 H0 => (pgd_name (i := 0) (pg_name nd_law_wide_right_0 rfl (Or.inl rfl)))) (fun C fp s0 H0 => ptsd_nil) (fun C fp s0 H0 => (pd_call (fun t ha => qcl H_Z16 hr ha) rfl (pas_cons (pd_var 0 (pv 0)) pas_nil) qal1))))) (pssd_cons (psd_setm (i := 4) sc_Z1.nd rfl (Or.inl rfl) (pdm_lst (pam_cons (pdm_pure (pd_ix (pb_var 3 (pv 3)) pd_int)) (pam_cons (pdm_pure (pd_add (pd_ix (pb_var 3 (pv 3)) pd_int) pd_int)) (pam_cons (pdm_pure (pd_ix (pb_var 3 (pv 3)) (pd_neg pd_int))) (pam_cons (pdm_pure (pd_add (pd_ix (pb_var 3 (pv 3)) (pd_neg pd_int)) pd_int)) (pam_cons (pdm_callG (i := 0) (fun t ha => qcl H_Z15 hr ha) rfl (pv 0) (pam_pure (pas_cons (pd_lenB rfl (z_len Z) (pb_var 2 (pv 2))) pas_nil)) (apu_len qal1)) (pam_pure pas_nil)))))))) (pssd_one (psd_retG 0 (pdm_pure (pd_eqB (op_eqF hr.units) (pf_pb (pf_comp (blk_of (N := ["many", "row", "step", "kept"]) (src := [none, some 2, some 1, some 3]) (defScope s_Z1) N_Z1 rfl rfl (by decide +kernel)) rfl (pid_seq (pd_var 4 (pv 4))) (fun C fp s0 H0 => (pgd_name (i := 0) (pg_name nd_law_wide_right_1 rfl (Or.inl rfl)))) (fun C fp s0 H0 => (ptsd_one (pc_not (pc_tru (pd_call (fun t ha => qcl H_Z14 hr ha) rfl (pas_cons (pd_var 1 (pv 1)) (pas_cons (pd_var 2 (pv 2)) (pas_cons (pd_var 3 (pv 3)) (pas_cons (pd_var 0 (pv 0)) pas_nil se_n) se_n) se_n) se_n) qal4))))) (fun C fp s0 H0 => (pd_var 0 (pv 0))))) (pf_pb (pf_lst pas_nil)) (nomark _)))))))))
noncomputable abbrev s_Z18 : Stmt := top 28
noncomputable abbrev N_Z18 : List Str := ["script", "k", "pot", "row", "step", "kept", "handed", "many"]
theorem sc_Z18 : FnScope N_Z18 ["script"] (defScope s_Z18) := qsc
theorem nd_law_0 : List.Nodup (["table"] : List Str) := by decide +kernel
theorem ok_Z18 {f : Addr} {fd : FuncData} (Fn : Fun K "law" "law" s_Z18 f fd) (H_Z16 : T_Z16 P w K mg base) (H_Z15 : T_Z15 P w K mg base) (H_law_pots : T_law_pots P w K mg base) (H_Z14 : T_Z14 P w K mg base) (H_Z8 : T_Z8 P w K mg base) (H_Z4 : T_Z4 P w K mg base) (H_law_tables : T_law_tables P w K mg base) (H_Z1 : T_Z1 P w K mg base) (Z : Zs mg) : FnOk P w K mg base CX0 8 f fd ["script"] (spR K 1 m_Z18) :=
 Fn.okD (k := 7) (m := b_Z18) sc_Z18 fun cdv A outer s H E hr => (pssd_cons (psd_forPE PassesOwn.never rfl rfl (z_enumerate Z) (pp_call (fun t ha => qcl H_law_pots hr ha) rfl (pas_cons (pf_pd (pf_sl (pb_var 0 (pv 0)) pos_none (pos_some pd_int))) pas_nil) qal1) (pg_tup rfl (pgs_cons (pg_name (i := 1) sc_Z18.nd rfl (Or.inl rfl)) (pgs_cons (pg_name (i := 2) sc_Z18.nd rfl (Or.inl rfl)) pgs_nil))) (pssd_cons (psd_ifm (pcm_w (pwm_and (pcm_pure (pc_cmp op_eq opd_eqS (pd_var 1 (pv 1)) pd_int (nomark _))) (pwm_and (pcm_cmp op_eq opd_eqS (pdm_callG (i := 2) (fun t ha => qcl H_Z15 hr ha) rfl (pv 2) (pam_pure (pas_cons pd_int pas_nil)) (apu_len qal1)) (pdm_pure pd_int) (nomark _)) (pwm1_and (pcm_not (pcm_bool (pdm_callG (i := 2) (fun t ha => qcl H_Z1 hr ha) rfl (pv 2) (pam_pure pas_nil) (apu_len anil_len)))))))) (pssd_one (psd_ret pd_bl)) pssd_nil) (pssd_cons (psd_setm (i := 3) sc_Z18.nd rfl (Or.inl rfl) (pdm_callG (i := 2) (fun t ha => qcl H_Z8 hr ha) rfl (pv 2) (pam_pure (pas_cons pd_int pas_nil)) (apu_len qal1))) (pssd_cons (psd_setm (i := 4) sc_Z18.nd rfl (Or.inl rfl) (pdm_callG (i := 2) (fun t ha => qcl H_Z4 hr ha) rfl (pv 2) (pam_pure pas_nil) (apu_len anil_len))) (pssd_cons (psd_setCs (ps_setC (i := 5) sc_Z18.nd rfl (Or.inl rfl) (blk_of (N := ["table"]) (src := [none]) (defScope s_Z18) N_Z18 rfl rfl (by decide +kernel)) rfl (pid_seq (pd_call (fun t ha => qcl H_law_tables hr ha) rfl (pas_cons (pd_var 3 (pv 3)) (pas_cons (pd_var 4 (pv 4)) (pas_cons (pd_lenB rfl (z_len Z) (pb_var 3 (pv 3))) pas_nil))) qal3)) (fun C fp s0 H0 => (pgd_name (i := 0) (pg_name nd_law_0 rfl (Or.inl rfl)))) (fun C fp s0 H0 => ptsd_nil) (fun C fp s0 H0 => (pd_call (fun t ha => qcl H_Z16 hr ha) rfl (pas_cons (pd_var 0 (pv 0)) pas_nil) qal1)))) (pssd_cons (psd_set (i := 6) sc_Z18.nd rfl (Or.inl rfl) (pf_pd (pf_list rfl (z_list Z) (pb_var 3 (pv 3)) PyProof.Rows.boot_list))) (pssd_one (psd_for PassesOwn.never rfl (pid_seq (pf_pd (pf_cat (pf_pb (pf_listR1 rfl rfl (z_list Z) rfl (z_range Z) (pas_cons (pd_add (pd_ix (pb_var 5 (pv 5)) (pd_neg pd_int)) pd_int) pas_nil))) (pf_pb (pf_lst (pas_cons (pd_pow pd_int pd_int) pas_nil)))))) (pgd_name (i := 7) (pg_name sc_Z18.nd rfl (Or.inl rfl))) (pssd_one (psd_if (pc_w (pcw_or (pc_not (pc_tru (pd_call (fun t ha => qcl H_Z14 hr ha) rfl (pas_cons (pd_var 6 (pv 6)) (pas_cons (pd_var 4 (pv 4)) (pas_cons (pd_var 5 (pv 5)) (pas_cons (pd_var 7 (pv 7)) pas_nil se_n) se_n) se_n) se_n) qal4))) (pw1_or (pc_eqB (op_neF hr.units) (pb_var 6 (pv 6)) (pb_var 3 (pv 3)) (nomark _))))) (pssd_one (psd_ret pd_bl)) pssd_nil)))))))))) (pssd_one (psd_ret pd_bl)))
theorem all_mk {l : W.OpenLaw} {h : Heap} {fa : Addr} (X : K.In h) (G : h.Ns mainGlobals mg) (hfa : mg "law" = some (.ref fa)) (d_Z13 : QDn K "refuse_step" s_Z13) (d_Z12 : QDn K "later_steps" s_Z12) (d_Z9 : QDn K "longer_first" s_Z9) (d_Z2 : QDn K "longest_behind" s_Z2) (d_Z5 : QDn K "one_turn_more" s_Z5) (d_Z17 : QDn K "no_tails" s_Z17) (d_Z11 : QDn K "longest_tail" s_Z11) (d_Z10 : QDn K "most_stepped" s_Z10) (d_Z3 : QDn K "kept_by_turns" s_Z3) (d_Z6 : QDn K "fewest_turns" s_Z6) (d_Z15 : QDn K "_law_next" s_Z15) (d_law_pots : QDn K "_law_pots" s_law_pots) (d_Z0 : QDn K "_law_some_number" s_Z0) (d_Z8 : QDn K "_law_some_row" s_Z8) (d_Z4 : QDn K "_law_some_step" s_Z4) (d_law_tables : QDn K "_law_tables" s_law_tables) (d_Z16 : QDn K "_law_most" s_Z16) (d_Z14 : QDn K "_law_right" s_Z14) (d_Z7 : QDn K "_law_wide_row" s_Z7) (d_Z1 : QDn K "_law_wide_right" s_Z1) (d_Z18 : QDn K "law" s_Z18) (y_abs : W.nsIn K mainGlobals "abs" = some none) (y_bool : W.nsIn K mainGlobals "bool" = some none) (y_enumerate : W.nsIn K mainGlobals "enumerate" = some none) (y_int : W.nsIn K mainGlobals "int" = some none) (y_isinstance : W.nsIn K mainGlobals "isinstance" = some none) (y_len : W.nsIn K mainGlobals "len" = some none) (y_list : W.nsIn K mainGlobals "list" = some none) (y_max : W.nsIn K mainGlobals "max" = some none) (y_min : W.nsIn K mainGlobals "min" = some none) (y_range : W.nsIn K mainGlobals "range" = some none) (y_reversed : W.nsIn K mainGlobals "reversed" = some none) (y_sorted : W.nsIn K mainGlobals "sorted" = some none) :
  ∃ fd : FuncData, (∀ (s : Shared) (v : Value), BindsTo s fd ⟨[v], []⟩ [("script", v)]) /\ ∀ base : Heap, K.In base -> base.Ns mainGlobals mg -> FnOk l.prog w K mg base CX0 8 fa fd ["script"] (spR K 1 m_Z18) := by
 obtain ⟨x, e, oc, o1, kV, dc, pm, o2, cd, ct, sl, l', c, k⟩ := d_Z18
 have e := hfa.symm.trans (W.mg_of X G e)
 cases e
 have Z : Zs mg := ⟨W.mg_none_of X G y_abs, W.mg_none_of X G y_bool, W.mg_none_of X G y_enumerate, W.mg_none_of X G y_int, W.mg_none_of X G y_isinstance, W.mg_none_of X G y_len, W.mg_none_of X G y_list, W.mg_none_of X G y_max, W.mg_none_of X G y_min, W.mg_none_of X G y_range, W.mg_none_of X G y_reversed, W.mg_none_of X G y_sorted, True.intro⟩
 refine ⟨W.fnOf "law" "law" (defArgs s_Z18) (defBody s_Z18) (defScope s_Z18) .none kV dc pm o2 cd ct, fun s v => .of_eq rfl, fun base _ _ => ?_⟩
 have H_Z13 := ok_Z13 (P := l.prog) (w := w) (mg := mg) (base := base) (d_Z13.df X G (qbd1 fun _ _ _ _ _ _ _ => rfl))
 have H_Z12 := ok_Z12 (P := l.prog) (w := w) (mg := mg) (base := base) (d_Z12.df X G (qbd2 fun _ _ _ _ _ _ _ _ => rfl)) Z
 have H_Z9 := ok_Z9 (P := l.prog) (w := w) (mg := mg) (base := base) (d_Z9.df X G (qbd1 fun _ _ _ _ _ _ _ => rfl)) Z
 have H_Z2 := ok_Z2 (P := l.prog) (w := w) (mg := mg) (base := base) (d_Z2.df X G (qbd2 fun _ _ _ _ _ _ _ _ => rfl)) Z
 have H_Z5 := ok_Z5 (P := l.prog) (w := w) (mg := mg) (base := base) (d_Z5.df X G (qbd2 fun _ _ _ _ _ _ _ _ => rfl)) H_Z9 H_Z2 Z
 have H_Z17 := ok_Z17 (P := l.prog) (w := w) (mg := mg) (base := base) (d_Z17.df X G (qbd1 fun _ _ _ _ _ _ _ => rfl)) Z
 have H_Z11 := ok_Z11 (P := l.prog) (w := w) (mg := mg) (base := base) (d_Z11.df X G (qbd1 fun _ _ _ _ _ _ _ => rfl)) H_Z9 Z
 have H_Z10 := ok_Z10 (P := l.prog) (w := w) (mg := mg) (base := base) (d_Z10.df X G (qbd1 fun _ _ _ _ _ _ _ => rfl)) Z
 have H_Z3 := ok_Z3 (P := l.prog) (w := w) (mg := mg) (base := base) (d_Z3.df X G (qbd2 fun _ _ _ _ _ _ _ _ => rfl)) H_Z12 H_Z11 H_Z10 H_Z17 H_Z5 H_Z13 Z
 have H_Z6 := ok_Z6 (P := l.prog) (w := w) (mg := mg) (base := base) (d_Z6.df X G (qbd3 fun _ _ _ _ _ _ _ _ _ => rfl)) H_Z3 H_Z13 Z
 have H_Z15 := ok_Z15 (P := l.prog) (w := w) (mg := mg) (base := base) (d_Z15.df X G (qbd2 fun _ _ _ _ _ _ _ _ => rfl))
 have H_law_pots := ok_law_pots (P := l.prog) (w := w) (mg := mg) (base := base) (d_law_pots.df X G (qbd1 fun _ _ _ _ _ _ _ => rfl)) Z
 have H_Z0 := ok_Z0 (P := l.prog) (w := w) (mg := mg) (base := base) (d_Z0.df X G (qbd2 fun _ _ _ _ _ _ _ _ => rfl)) H_Z15
 have H_Z8 := ok_Z8 (P := l.prog) (w := w) (mg := mg) (base := base) (d_Z8.df X G (qbd2 fun _ _ _ _ _ _ _ _ => rfl)) H_Z15 H_Z0 Z
 have H_Z4 := ok_Z4 (P := l.prog) (w := w) (mg := mg) (base := base) (d_Z4.df X G (qbd1 fun _ _ _ _ _ _ _ => rfl)) H_Z15
 have H_law_tables := ok_law_tables (P := l.prog) (w := w) (mg := mg) (base := base) (d_law_tables.df X G (qbd3 fun _ _ _ _ _ _ _ _ _ => rfl)) Z
 have H_Z16 := ok_Z16 (P := l.prog) (w := w) (mg := mg) (base := base) (d_Z16.df X G (qbd1 fun _ _ _ _ _ _ _ => rfl)) Z
 have H_Z14 := ok_Z14 (P := l.prog) (w := w) (mg := mg) (base := base) (d_Z14.df X G (qbd4 fun _ _ _ _ _ _ _ _ _ _ => rfl)) H_Z6 Z
 have H_Z7 := ok_Z7 (P := l.prog) (w := w) (mg := mg) (base := base) (d_Z7.df X G (qbd2 fun _ _ _ _ _ _ _ _ => rfl)) H_Z15 Z
 have H_Z1 := ok_Z1 (P := l.prog) (w := w) (mg := mg) (base := base) (d_Z1.df X G (qbd1 fun _ _ _ _ _ _ _ => rfl)) H_Z16 H_Z15 H_Z14 H_law_tables H_Z7 Z
 exact ok_Z18 (fun_mk l' c k) H_Z16 H_Z15 H_law_pots H_Z14 H_Z8 H_Z4 H_law_tables H_Z1 Z
theorem walk {l : W.OpenLaw} {q : Program} {loose : List Str} {XP : (Str -> Option Value) -> Heap -> Prop} {YP : World -> Heap -> Prop} {d : DefRec} {K : Params -> W.Frag} (hn : l.most = some 63) (hdf : d.params.defaults = [])
  (law : ∀ ns : List Int, ns.length <= 63 -> m_Z18 [.lst (ns.map .int)] = some (.sh (.bl true)))
  (hY : ∀ (w : World) (h : Heap), YP w h -> (K w.params).In h)
  (F : ∀ (w : World) (mg : Str -> Option Value) (fa : Addr) (h : Heap), (K w.params).In h -> h.Ns mainGlobals mg -> mg d.name = some (.ref fa) ->
   ∃ fd : FuncData, (∀ (s : Shared) (u : Value), BindsTo s fd ⟨[u], []⟩ [("script", u)]) /\ ∀ base : Heap, (K w.params).In base -> base.Ns mainGlobals mg -> FnOk l.prog w (K w.params) mg base CX0 8 fa fd ["script"] (spR (K w.params) 1 m_Z18)) :
  W.WalkO q loose XP YP l.row.toRowW d [] (fun f vs => PySem.call f vs) :=
 L2.walk_of (n := 63) (k := 8) (x := "script") (CX := fun _ => CX0) (sp := fun w => spR (K w.params) 1 m_Z18) hn (by decide) hdf ⟨rfl, by decide, by decide⟩ hY F (fun w H a ns hl _ hS => sp_Z18 law H a ns hl hS _) fun _ _ _ _ _ z => z
end
end Lw
open PySem PySem.W PyProof.Rows L2
set_option maxRecDepth 100000 in
set_option maxHeartbeats 0 in
theorem PySem.Challenge.cw_wavyrow_k28_fewest_turns_holds : PySem.Challenge.rw_wavyrow_k28_fewest_turns.Holds := by
 w_on; o_law; k_head; (case hw => w_witness2)
 k_fill
 refine Lw.walk (l := PySem.Challenge.rw_wavyrow_k28_fewest_turns) rfl rfl Lw.law_true (fun w h Y => PySem.W.kIn_of Y) ?F
 case F =>
  intro w mg fa h KX G hmg
  refine' Lw.all_mk KX G hmg  ?d_Z13 ?d_Z12 ?d_Z9 ?d_Z2 ?d_Z5 ?d_Z17 ?d_Z11 ?d_Z10 ?d_Z3 ?d_Z6 ?d_Z15 ?d_law_pots ?d_Z0 ?d_Z8 ?d_Z4 ?d_law_tables ?d_Z16 ?d_Z14 ?d_Z7 ?d_Z1 ?d_Z18    ?y_abs ?y_bool ?y_enumerate ?y_int ?y_isinstance ?y_len ?y_list ?y_max ?y_min ?y_range ?y_reversed ?y_sorted
  all_goals first | (refine' QDn.of ?e ?l ?c ?k; (case e => k_is); (case l => k_is); (case c => k_is); (case k => k_is)) | (refine' QMn.of ?e ?i ?l ?c ?k; (case e => k_is); (case i => k_is); (case l => k_is); (case c => k_is); (case k => k_is)) | k_is | skip
