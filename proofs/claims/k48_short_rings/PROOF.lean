import PyProof.Rows.All
import Wide.All
import OpenK.AllK
import Wide.FinOn
import Lean
import PyProof.EqAt
import PyProof.EqKinds
import PyProof.TupleCall
import PyProof.NeKinds
import KE.IntBitsLaws
import PyProof.FitsBits
import PySem.Challenge.RW_wavyrow_k48_short_rings
set_option Elab.async false
set_option linter.all false
set_option maxRecDepth 100000
namespace L2
open List
open PySem PySem.Spec PyProof.Rows
section
abbrev Key := Sum Int Str
def keyIs : Key -> Value -> Bool
 | .inl k, v => Value.isInt k v
 | .inr x, v => Value.isStrOf x v
def keyH (w : World) : Key -> Int
 | .inl k => hashInt k
 | .inr x => hashStr w x
theorem m3 : ∀ {k : Key} {v : Value}, keyIs k v = true -> (∃ i t, k = Sum.inl i /\ v = Value.int i t) \/ (∃ x t, k = Sum.inr x /\ v = Value.str x t)
 | .inl i, v, h => by
  obtain ⟨t, e⟩ := Value.isInt_shape (k := i) (v := v) h
  exact .inl ⟨i, t, rfl, e⟩
 | .inr x, v, h => by
  obtain ⟨t, e⟩ := Value.isStrOf_shape (x := x) (v := v) h
  exact .inr ⟨x, t, rfl, e⟩
theorem key_ll (a b : Int) : decide ((Sum.inl a : Key) = Sum.inl b) = (a == b) := by
 by_cases e : a = b
 ·subst e; simp
 ·have h : ¬ (Sum.inl a : Key) = Sum.inl b := fun q => e (Sum.inl.inj q)
  rw [decide_eq_false h]
  exact (beq_eq_false_iff_ne.mpr e).symm
theorem key_rr (a b : Str) : decide ((Sum.inr a : Key) = Sum.inr b) = decide (a = b) := by
 by_cases e : a = b
 ·subst e; simp
 ·have h : ¬ (Sum.inr a : Key) = Sum.inr b := fun q => e (Sum.inr.inj q)
  rw [decide_eq_false h, decide_eq_false e]
theorem key_lr (a : Int) (b : Str) : decide ((Sum.inl a : Key) = Sum.inr b) = false := decide_eq_false (fun q => nomatch q)
theorem key_rl (a : Str) (b : Int) : decide ((Sum.inr a : Key) = Sum.inl b) = false := decide_eq_false (fun q => nomatch q)
def mixKind (prog : Program) (w : World) : PySem.KeyKind prog w Key where
 is := keyIs
 hash := keyH w
 inj := fun v a b ha hb => by
  rcases m3 ha with ⟨i, t, rfl, rfl⟩ | ⟨x, t, rfl, rfl⟩
  ·rcases m3 hb with ⟨j, u, rfl, e⟩ | ⟨y, u, rfl, e⟩
   ·injection e with e1 _; rw [e1]
   ·exact nomatch e
  ·rcases m3 hb with ⟨j, u, rfl, e⟩ | ⟨y, u, rfl, e⟩
   ·exact nomatch e
   ·injection e with e1 _; rw [e1]
 byValue := fun k v h => by
  rcases m3 h with ⟨i, t, rfl, rfl⟩ | ⟨x, t, rfl, rfl⟩ <;> rfl
 pyHash := fun hv h => by
  rcases m3 hv with ⟨i, t, rfl, rfl⟩ | ⟨x, t, rfl, rfl⟩
  ·exact wpAny_pyHash_int h
  ·exact wpAny_pyHash_str h
 eqBool := fun hu hv h => by
  rcases m3 hu with ⟨i, t, rfl, rfl⟩ | ⟨x, t, rfl, rfl⟩
  ·rcases m3 hv with ⟨j, u, rfl, rfl⟩ | ⟨y, u, rfl, rfl⟩
   ·rw [key_ll] at h; exact wpAny_eqBool_int h
   ·rw [key_lr] at h; exact SeqAt.EqAt.int_str i t y u _ _ _ _ h
  ·rcases m3 hv with ⟨j, u, rfl, rfl⟩ | ⟨y, u, rfl, rfl⟩
   ·rw [key_rl] at h; exact SeqAt.EqAt.str_int x t j u _ _ _ _ h
   ·rw [key_rr] at h; exact wpAny_eqBool_str h
 «strs» := fun k x t v h => by
  rcases m3 h with ⟨i, u, rfl, e⟩ | ⟨y, u, rfl, e⟩
  ·exact nomatch e
  ·injection e with e1 _
   subst e1
   cases v <;> rfl
end
section
inductive V where
 | non | bl (b : Bool) | int (i : Int) | str (x : Str) | byt (b : Array UInt8) | flt (b : UInt64) | ref (a : Addr) | ty (n : String)
 deriving DecidableEq
def RelV : V -> Value -> Prop
 | .non, u => u = Value.none
 | .bl b, u => u = Value.bool b
 | .int i, u => ∃ t, u = Value.int i t
 | .str x, u => ∃ t, u = Value.str x t
 | .byt b, u => ∃ t, u = Value.bytes b t
 | .flt b, u => ∃ t, u = Value.float b t
 | .ref a, u => u = Value.ref a
 | .ty n, u => u = Value.type n
abbrev Vals : List V -> List Value -> Prop := Paired RelV
theorem Vals.length {xs : List V} {us : List Value} (r : Vals xs us) : xs.length = us.length := Paired.length r
theorem Vals.get : ∀ {xs : List V} {us : List Value} {i : Nat} {x : V}, Vals xs us -> xs[i]? = some x -> ∃ u, us[i]? = some u /\ RelV x u
 | _, _, _, _, .nil, e => by simp at e
 | _, _, 0, _, .cons r _, e => by simp at e; subst e; exact ⟨_, rfl, r⟩
 | _, _, i + 1, x, .cons _ t, e => by
  obtain ⟨u, h1, h2⟩ := Vals.get (i := i) (x := x) t (by simpa using e)
  exact ⟨u, by simpa using h1, h2⟩
theorem Vals.set {x : V} {u : Value} (r : RelV x u) : ∀ {xs : List V} {us : List Value} (i : Nat), Vals xs us -> Vals (xs.set i x) (us.set i u)
 | _, _, _, .nil => .nil
 | _, _, 0, .cons _ t => .cons r t
 | _, _, i + 1, .cons q t => .cons q (Vals.set r i t)
theorem Vals.append : ∀ {xs ys : List V} {us ws : List Value}, Vals xs us -> Vals ys ws -> Vals (xs ++ ys) (us ++ ws)
 | _, _, _, _, .nil, s => s
 | _, _, _, _, .cons r t, s => .cons r (Vals.append t s)
theorem Vals.take : ∀ {xs : List V} {us : List Value} (n : Nat), Vals xs us -> Vals (xs.take n) (us.take n)
 | _, _, 0, _ => .nil
 | _, _, _ + 1, .nil => .nil
 | _, _, n + 1, .cons r t => .cons r (Vals.take n t)
theorem Vals.drop : ∀ {xs : List V} {us : List Value} (n : Nat), Vals xs us -> Vals (xs.drop n) (us.drop n)
 | _, _, 0, r => r
 | _, _, _ + 1, .nil => .nil
 | _, _, n + 1, .cons _ t => Vals.drop n t
def RelO : Option V -> Option Value -> Prop
 | some v, some u => RelV v u
 | none, none => True
 | _, _ => False
def KV {κ : Type} : List (κ × V) -> List (κ × Value) -> Prop := Paired fun (p : κ × V) (q : κ × Value) => p.1 = q.1 /\ RelV p.2 q.2
def kV : Key -> V
 | .inl i => .int i
 | .inr x => .str x
inductive HO where
 | lst (xs : List V)
 | tup (xs : List V)
 | dK (kvs : List (Key × V)) | dT (kvs : List (List Key × V))
 | set (S : Int -> Bool) (n : Nat)
 | ins (C dx : Addr) (fs : List (Str × V))
 | own (x : Addr)
 | xd (fs : List (Str × V))
 | met (f x : Addr)
 | rng (lo hi : Int)
 | frz (o : Obj) (u : HO)
 | tbl (ps : Array Value)
 | ext (φ : Heap -> Prop)
abbrev Hp := Addr -> Option HO
def upd (H : Hp) (a : Addr) (o : HO) : Hp := fun b => if b = a then some o else H b
theorem y3 {H : Hp} {a : Addr} {o : HO} : upd H a o a = some o := by unfold upd; rw [if_pos rfl]
theorem y0 {H : Hp} {a b : Addr} {o : HO} (h : b ≠ a) : upd H a o b = H b := by unfold upd; rw [if_neg h]
theorem t6 {H : Hp} {a b : Addr} {o : HO} (h : H a = some o) (h' : H b = none) : a ≠ b := by
 intro e; subst e; rw [h] at h'; cases h'
section
variable (P : Program) (w : World)
def ObjOk (H : Hp) (h : Heap) (a : Addr) : HO -> Prop
 | .lst xs => xs.length <= sizeLine /\ ∃ (its : List Value) (n : Nat), Vals xs its /\ h.get? a = some { cls := .type "list", data := .seq its.toArray n }
 | .tup xs => xs.length <= sizeLine /\ ∃ its : List Value, Vals xs its /\ IsTup h a its.toArray
 | .dK kvs => kvs.length <= sizeLine /\ (a == sysModules) = false /\ ∃ vs, KV kvs vs /\ h.DictOf (mixKind P w) a vs
 | .dT kvs => kvs.length <= sizeLine /\ (a == sysModules) = false /\ ∃ xs : List (List Key × Addr × Value),
   Paired (fun (p : List Key × V) (q : List Key × Addr × Value) => p.1 = q.1 /\ H q.2.1 = some (.tup (p.1.map kV)) /\ RelV p.2 q.2.2) kvs xs /\
   ∃ o es ep, h.get? a = some o /\ o.ExactDict /\ o.data = .dict es ep /\ es.toList = xs.map (entryOfKey (tupleKind (mixKind P w))) /\ (xs.map (·.1)).Nodup
 | .set S n => h.SetOf (intKind P w) a S n
 | .ins C dx fs => H dx = some (.own a) /\ fs.length <= 1000 /\ dx ≠ a /\ h.get? a = some (W.instObj C dx) /\
   ∃ mA, h.Ns1 dx mA /\ (∀ f, RelO (fs.lookup f) (mA f)) /\ PySem.Within mA (fs.map (·.1))
 | .own _ => ∃ o, h.get? a = some o
 | .xd fs => ∃ mA, h.Ns1 a mA /\ ∀ f, RelO (fs.lookup f) (mA f)
 | .rng lo hi => ∃ t u v, h.get? a = some { cls := .type "range", data := .fields #[.int lo t, .int hi u, .int 1 v] }
 | .frz o u => h.get? a = some o /\ ObjOk H h a u
 | .tbl ps => h.get? a = some { cls := .none, data := .fields ps }
 | .met f x => h.get? a = some (W.methodObj (.ref f) (.ref x))
 | .ext φ => φ h /\ (∃ o, h.get? a = some o) /\ ∀ h1 h2 : Heap, φ h1 -> (∀ o, h1.get? a = some o -> h2.get? a = some o) -> φ h2
def HOk (H : Hp) (h : Heap) : Prop := ∀ a o, H a = some o -> ObjOk P w H h a o
end
section
variable {P : Program} {w : World} {H H' : Hp} {h h' : Heap} {a : Addr} {o : HO}
theorem ObjOk.lt (x : ObjOk P w H h a o) : a < h.objs.size := by
 cases o with
 | lst xs => obtain ⟨_, _, _, _, e⟩ := x; exact Heap.lt_size e
 | tup xs => obtain ⟨_, _, _, p⟩ := x; exact p.lt
 | dK kvs => obtain ⟨_, _, _, _, o, _, _, e, _⟩ := x; exact Heap.lt_size e
 | dT kvs => obtain ⟨_, _, _, _, o, _, _, e, _⟩ := x; exact Heap.lt_size e
 | set S n => obtain ⟨o, _, _, _, e, _⟩ := x; exact Heap.lt_size e
 | ins C dx fs => obtain ⟨_, _, _, e, _⟩ := x; exact Heap.lt_size e
 | own y => obtain ⟨_, e⟩ := x; exact Heap.lt_size e
 | xd fs => obtain ⟨_, ⟨_, _, _, e, _⟩, _⟩ := x; exact Heap.lt_size e
 | rng lo hi => obtain ⟨_, _, _, e⟩ := x; exact Heap.lt_size e
 | frz ob u => obtain ⟨e, _⟩ := x; exact Heap.lt_size e
 | tbl ps => exact Heap.lt_size (show h.get? a = some _ from x)
 | met f y => exact Heap.lt_size (show h.get? a = some _ from x)
 | ext φ => obtain ⟨_, ⟨_, e⟩, _⟩ := x; exact Heap.lt_size e
theorem Paired.mapP {α β : Type} {F G : α -> β -> Prop} : ∀ {l₁ : List α} {l₂ : List β}, Paired F l₁ l₂ -> (∀ a b, F a b -> G a b) -> Paired G l₁ l₂
 | _, _, .nil, _ => .nil
 | _, _, .cons r t, f => .cons (f _ _ r) (Paired.mapP t f)
theorem ObjOk.stay (x : ObjOk P w H h a o) (k : ∀ b u, (b = a \/ H b = some (.own a)) -> h.get? b = some u -> h'.get? b = some u)
  (ho : ∀ b, H b = some (.own a) -> H' b = some (.own a)) (ht : ∀ b xs, H b = some (.tup xs) -> H' b = some (.tup xs)) : ObjOk P w H' h' a o := by
 induction o with
 | lst xs => obtain ⟨z, its, n, r, e⟩ := x; exact ⟨z, its, n, r, k _ _ (.inl rfl) e⟩
 | tup xs => obtain ⟨z, its, r, ob, e, c⟩ := x; exact ⟨z, its, r, ob, k _ _ (.inl rfl) e, c⟩
 | dK kvs => obtain ⟨z, y, vs, r, ob, es, ep, e, c⟩ := x; exact ⟨z, y, vs, r, ob, es, ep, k _ _ (.inl rfl) e, c⟩
 | dT kvs =>
  obtain ⟨z, y, xs, r, ob, es, ep, e, c⟩ := x
  exact ⟨z, y, xs, Paired.mapP r fun p q z => ⟨z.1, ht _ _ z.2.1, z.2.2⟩, ob, es, ep, k _ _ (.inl rfl) e, c⟩
 | set S n => obtain ⟨ob, es, ep, t, e, c⟩ := x; exact ⟨ob, es, ep, t, k _ _ (.inl rfl) e, c⟩
 | ins C dx fs =>
  obtain ⟨d, z, ne, e, mA, ⟨od, es, ep, e2, c⟩, r⟩ := x
  exact ⟨ho _ d, z, ne, k _ _ (.inl rfl) e, mA, ⟨od, es, ep, k _ _ (.inr d) e2, c⟩, r⟩
 | own y => obtain ⟨ob, e⟩ := x; exact ⟨ob, k _ _ (.inl rfl) e⟩
 | xd fs => obtain ⟨mA, ⟨od, es, ep, e, c⟩, r⟩ := x; exact ⟨mA, ⟨od, es, ep, k _ _ (.inl rfl) e, c⟩, r⟩
 | rng lo hi => obtain ⟨t, u, v, e⟩ := x; exact ⟨t, u, v, k _ _ (.inl rfl) e⟩
 | frz ob u ih => obtain ⟨e, q⟩ := x; exact ⟨k _ _ (.inl rfl) e, ih q⟩
 | tbl ps =>
  have e : h.get? a = some { cls := .none, data := .fields ps } := x
  show h'.get? a = some { cls := .none, data := .fields ps }
  exact k a _ (.inl rfl) e
 | met f y =>
  have e : h.get? a = some (W.methodObj (.ref f) (.ref y)) := x
  show h'.get? a = some (W.methodObj (.ref f) (.ref y))
  exact k a _ (.inl rfl) e
 | ext φ => obtain ⟨p, ⟨o, e⟩, st⟩ := x; exact ⟨st _ _ p fun o q => k _ _ (.inl rfl) q, ⟨o, k _ _ (.inl rfl) e⟩, st⟩
theorem HOk.lt (x : HOk P w H h) (e : H a = some o) : a < h.objs.size := (x a o e).lt
theorem HOk.fresh (x : HOk P w H h) (e : h.objs.size <= a) : H a = none := by
 cases q : H a with
 | none => rfl
 | some u => exact absurd (Nat.lt_of_lt_of_le (x.lt q) e) (Nat.lt_irrefl _)
theorem HOk.kept (x : HOk P w H h) (k : ∀ b u, h.get? b = some u -> h'.get? b = some u) : HOk P w H h' := fun a o e =>
 (x a o e).stay (fun b u _ q => k b u q) (fun _ q => q) fun _ _ q => q
theorem HOk.laid (x : HOk P w H h) (k : ∀ b u, h.get? b = some u -> h'.get? b = some u) (hp : h.objs.size <= a) (new : ObjOk P w (upd H a o) h' a o) : HOk P w (upd H a o) h' := fun b u e => by
 have hn := x.fresh hp
 by_cases hb : b = a
 ·subst hb; rw [y3] at e; cases e; exact new
 ·rw [y0 hb] at e
  exact (x b u e).stay (fun c v _ q => k c v q) (fun c q => by rw [y0 (t6 q hn)]; exact q) fun c xs q => by rw [y0 (t6 q hn)]; exact q
end
def Rd (H : Hp) (a : Addr) (u : HO) : Prop := H a = some u \/ ∃ o, H a = some (.frz o u)
theorem Rd.ok {P : Program} {w : World} {H : Hp} {h : Heap} {a : Addr} {u : HO} (r : Rd H a u) (x : HOk P w H h) : ObjOk P w H h a u := by
 rcases r with r | ⟨o, r⟩
 ·exact x a u r
 ·obtain ⟨_, q⟩ := x a _ r
  exact q
def Mut : Option HO -> Prop
 | some (.lst _) => True
 | some (.dK _) => True
 | some (.dT _) => True
 | some (.set _ _) => True
 | some (.ins _ _ _) => True
 | some (.ext _) => True
 | _ => False
section
variable {P : Program} {w : World} {H : Hp} {h h' : Heap} {x e : Addr} {o' : HO}
theorem HOk.write (ok : HOk P w H h) (mu : Mut (H x)) (he : e = x \/ H e = some (.own x)) (k : ∀ b u, b ≠ e -> h.get? b = some u -> h'.get? b = some u) (heo : ∃ u, h'.get? e = some u)
  (new : ObjOk P w (upd H x o') h' x o') : HOk P w (upd H x o') h' := fun b u q => by
 have nown : ∀ c y, H c = some (.own y) -> c ≠ x := fun c y r z => by subst z; rw [r] at mu; exact mu
 have ntup : ∀ c xs, H c = some (.tup xs) -> c ≠ x := fun c xs r z => by subst z; rw [r] at mu; exact mu
 by_cases hb : b = x
 ·subst hb; rw [y3] at q; cases q; exact new
 ·rw [y0 hb] at q
  by_cases hbe : b = e
  ·have q' : H b = some (.own x) := by
    rcases he with z | z
    ·exact absurd (hbe.trans z) hb
    ·rw [hbe]; exact z
   rw [q] at q'; cases q'
   obtain ⟨v, hv⟩ := heo
   exact ⟨v, by rw [hbe]; exact hv⟩
  ·refine (ok b u q).stay (fun c v hc r => k c v ?_ r) (fun c r => by rw [y0 (nown c b r)]; exact r) fun c xs r => by rw [y0 (ntup c xs r)]; exact r
   rcases hc with rfl | hc
   ·exact hbe
   ·rintro rfl
    rcases he with z | z
    ·exact nown c b hc z
    ·rw [hc] at z; cases z; exact hb rfl
end
structure Un (fs ex : List Addr) (H H' : Hp) (h h' : Heap) : Prop where
 keep : ∀ b o, h.get? b = some o -> H b = none -> b ∉ fs -> b ∉ ex -> h'.get? b = some o
 slot : ∀ b o, h.get? b = some o -> H b = none -> b ∈ fs -> b ∉ ex -> ∃ sl, h'.get? b = some { o with slots := sl }
 free : ∀ b o, h.get? b = some o -> H b = none -> b ∉ ex -> H' b = none
 there : ∀ b o, h.get? b = some o -> b ∉ ex -> ∃ o', h'.get? b = some o'
 tups : ∀ b xs, H b = some (.tup xs) -> H' b = some (.tup xs)
 frzs : ∀ b o u, H b = some (.frz o u) -> H' b = some (.frz o u)
 tbls : ∀ b ps, H b = some (.tbl ps) -> ∃ more, H' b = some (.tbl (ps ++ more))
section
variable {fs fs' ex ex' : List Addr} {H H1 H2 : Hp} {h h1 h2 h' : Heap} {a x e : Addr} {o : HO}
theorem Un.any (u : Un fs ex H H1 h h1) {b : Addr} {ob : Obj} (q : h.get? b = some ob) (n : H b = none) (hx : b ∉ ex) : ∃ sl, h1.get? b = some { ob with slots := sl } := by
 by_cases hb : b ∈ fs
 ·exact u.slot b ob q n hb hx
 ·exact ⟨ob.slots, u.keep b ob q n hb hx⟩
theorem Un.kept (k : ∀ b u, h.get? b = some u -> h'.get? b = some u) : Un fs ex H H h h' :=
 ⟨fun b ob q _ _ _ => k b ob q, fun b ob q _ _ _ => ⟨ob.slots, k b ob q⟩, fun _ _ _ n _ => n, fun b ob q _ => ⟨ob, k b ob q⟩, fun _ _ q => q, fun _ _ _ q => q, fun _ ps q => ⟨#[], by rw [q]; simp⟩⟩
theorem Un.refl : Un fs ex H H h h := Un.kept fun _ _ q => q
theorem Un.laid (k : ∀ b u, h.get? b = some u -> h'.get? b = some u) (hp : h.objs.size <= a) (hn : H a = none) : Un fs ex H (upd H a o) h h' where
 keep := fun b u q _ _ _ => k b u q
 slot := fun b u q _ _ _ => ⟨u.slots, k b u q⟩
 free := fun b u q n _ => by rw [y0 (Nat.ne_of_lt (Nat.lt_of_lt_of_le (Heap.lt_size q) hp))]; exact n
 there := fun b u q _ => ⟨u, k b u q⟩
 tups := fun b xs q => by rw [y0 (t6 q hn)]; exact q
 frzs := fun b u xs q => by rw [y0 (t6 q hn)]; exact q
 tbls := fun b ps q => ⟨#[], by rw [y0 (t6 q hn), q]; simp⟩
theorem Un.write (mu : Mut (H x)) (he : e = x \/ H e = some (.own x)) (k : ∀ b u, b ≠ e -> h.get? b = some u -> h'.get? b = some u) (heo : ∃ u, h'.get? e = some u) : Un fs ex H (upd H x o) h h' := by
 have hx : ∀ b, H b = none -> b ≠ x := fun b n z => by subst z; rw [n] at mu; exact mu
 have hb : ∀ b, H b = none -> b ≠ e := fun b n z => by
  subst z
  rcases he with r | r
  ·exact hx b n r
  ·rw [n] at r; cases r
 have hm : ∀ b u, H b = some u -> ¬ Mut (some u) -> b ≠ x := fun b u q nm z => by subst z; rw [q] at mu; exact nm mu
 refine ⟨fun b u q n _ _ => k b u (hb b n) q, fun b u q n _ _ => ⟨u.slots, k b u (hb b n) q⟩, fun b u q n _ => by rw [y0 (hx b n)]; exact n, fun b u q _ => ?_,
  fun b xs q => by rw [y0 (hm b _ q fun z => z)]; exact q, fun b u xs q => by rw [y0 (hm b _ q fun z => z)]; exact q, fun b ps q => ⟨#[], by rw [y0 (hm b _ q fun z => z), q]; simp⟩⟩
 by_cases hbe : b = e
 ·subst hbe; exact heo
 ·exact ⟨u, k b u hbe q⟩
end
def trk (h : Heap) (H : Hp) : List Addr := (List.range h.objs.size).filter fun a => (H a).isSome
def hidT (h : Heap) (H : Hp) : Heap := W.hideAll h (trk h H)
theorem hidT_size (h : Heap) (H : Hp) : (hidT h H).objs.size = h.objs.size := W.hideAll_size _ _
theorem hidT_get {h : Heap} {H : Hp} {b : Addr} {o : Obj} (e : h.get? b = some o) (n : H b = none) : (hidT h H).get? b = some o :=
 W.hideAll_get _ e fun hm => by
  have q : (H b).isSome = true := (List.mem_filter.mp hm).2
  rw [n] at q; simp at q
theorem of_hidT {h : Heap} {H : Hp} {b : Addr} {o : Obj} (e : (hidT h H).get? b = some o) : h.get? b = some o /\ H b = none := by
 have e' : h.get? b = some o := W.of_hideAll (trk h H) e
 refine ⟨e', ?_⟩
 cases q : H b with
 | none => rfl
 | some x =>
  have hm : b ∈ trk h H := List.mem_filter.mpr ⟨List.mem_range.mpr (Heap.lt_size e'), by simp [q]⟩
  have z : (hidT h H).get? b = none := W.hideAll_none (trk h H) hm
  rw [z] at e; cases e
def allNews (g h : Heap) (L : Addr) : List (Addr × Obj) := (List.range h.objs.size).filterMap fun a => if a = L \/ (g.get? a).isSome = true then none else (h.get? a).map fun o => (a, o)
def rest (g h : Heap) (L d : Addr) : List (Addr × Obj) := (allNews g h L).filter fun p => decide (p.1 ≠ d)
end
section
structure Mod (K : W.Frag) (mg : Str -> Option Value) (base : Heap) : Prop where
 kin : K.In base
 glob : base.Ns mainGlobals mg
 blt : ∃ mb, base.Ns builtinsNs mb /\ ∀ x : Str, x ≠ "__name__" -> mb x = bootBuiltins x
 nolimit : base.NoLimit
structure Cx where
 prog : Program
 w : World
 K : W.Frag
 mg : Str -> Option Value
 base : Heap
 A : Around
 N : List Str
 s₀ : Shared
 H₀ : Hp
 env : Env
 outer : List Env
 stack : List Env
 ex : List Addr
 fn : Str -> Bool
 calm : Bool
 pn : List (Addr × Obj)
 xe : Value -> Shared -> Prop
def frs (l : List Env) : List Addr := l.filterMap (·.frame)
abbrev Cx.fs (X : Cx) : List Addr := frs X.outer
def Vis (sc : Scope) (x : Str) : Prop := sc.names.lookup x = some .local \/ sc.names.lookup x = some .cell \/ sc.names.lookup x = some .free
def Loc (sc : Scope) (x : Str) : Prop := sc.names.lookup x = some .local \/ sc.names.lookup x = some .cell
def Look (env : Env) (h : Heap) (m : Str -> Option Value) (x : Str) (u : Value) : Prop :=
 (env.kindOf x = some .local /\ m x = some u) \/ ((env.kindOf x = some .cell \/ env.kindOf x = some .free) /\ ∃ c, env.cells.lookup x = some c /\ h.IsCell c (some u))
structure Cx.Ok (X : Cx) : Prop where
 mod : Mod X.K X.mg X.base
 kind : X.env.scope.kind = .function
 glob : X.env.globals = mainGlobals
 blt : X.env.builtins = builtinsNs
 above : X.s₀.heap.objs.size <= X.env.locals
 inj : ∀ x y c, X.env.cells.lookup x = some c -> X.env.cells.lookup y = some c -> x = y
 has : ∀ x, (X.env.kindOf x = some .cell \/ X.env.kindOf x = some .free) -> ∃ c, X.env.cells.lookup x = some c
 cab : ∀ x c, X.fn x = true -> X.env.cells.lookup x = some c -> X.s₀.heap.objs.size <= c
 hd : X.calm = true -> X.A.handled = none
 frames : X.A.frames = some X.stack
 stk : X.stack = X.outer \/ (X.stack = X.env :: X.outer /\ X.env.frame = some X.env.locals)
 exf : ∀ b ∈ X.ex, b ≠ X.env.locals /\ ∀ x c, X.env.cells.lookup x = some c -> c ≠ b
 bs : ∀ b o, X.base.get? b = some o -> X.s₀.heap.get? b = some o /\ X.H₀ b = none
 bsz : X.base.objs.size <= X.s₀.heap.objs.size
 noex : ∀ b o, X.base.get? b = some o -> b ∉ X.ex
 exfs : ∀ b ∈ X.ex, b ∉ X.fs
 funs : X.s₀.heap.FunFrames X.base X.outer
 frf : ∀ b ∈ X.fs, X.H₀ b = none
structure Inv (X : Cx) (pins : List (Addr × Obj)) (σ : List (Option V)) (H : Hp) (s : Shared) : Prop where
 ok : X.Ok
 os : s.os = X.s₀.os
 bare : AllBare s.gens
 base : Un X.fs X.ex X.H₀ H X.s₀.heap s.heap
 loc : ∃ m, s.heap.Ns X.env.locals m /\ ∀ (i : Nat) (x : Str) (v : V), X.N[i]? = some x -> σ[i]? = some (some v) -> Vis X.env.scope x -> ∃ u, RelV v u /\ Look X.env s.heap m x u
 cell : ∀ x c, X.env.cells.lookup x = some c -> ∃ v, s.heap.IsCell c v
 free : H X.env.locals = none
 freeC : ∀ x c, X.env.cells.lookup x = some c -> H c = none
 pin : ∀ p ∈ X.pn ++ pins, s.heap.get? p.1 = some p.2 /\ H p.1 = none /\ p.1 ≠ X.env.locals /\ p.1 ∉ X.fs /\ ∀ v, p.2.data ≠ .cell v
 hok : HOk X.prog X.w H s.heap
 len : σ.length = X.N.length
section
variable {X : Cx} {pins : List (Addr × Obj)} {σ : List (Option V)} {H H' : Hp} {s : Shared} {h' : Heap}
theorem Cx.Ok.nofr (ok : X.Ok) {b : Addr} {o : Obj} (e : X.base.get? b = some o) : b ∉ X.fs := fun hb => by
 have := (ok.funs.mem hb).1
 rw [e] at this; cases this
theorem Inv.bs (I : Inv X pins σ H s) : ∀ b o, X.base.get? b = some o -> s.heap.get? b = some o /\ H b = none := fun b o e =>
 ⟨I.base.keep b o (I.ok.bs b o e).1 (I.ok.bs b o e).2 (I.ok.nofr e) (I.ok.noex b o e), I.base.free b o (I.ok.bs b o e).1 (I.ok.bs b o e).2 (I.ok.noex b o e)⟩
theorem Inv.bk (I : Inv X pins σ H s) : ∀ b o, X.base.get? b = some o -> s.heap.get? b = some o := fun b o e => (I.bs b o e).1
theorem Inv.mod (I : Inv X pins σ H s) : Mod X.K X.mg X.base := I.ok.mod
theorem Inv.kIn (I : Inv X pins σ H s) : X.K.In s.heap := I.ok.mod.kin.keeps I.bk
theorem Inv.lt (I : Inv X pins σ H s) : X.env.locals < s.heap.objs.size := let ⟨_, hn, _⟩ := I.loc; hn.lt
theorem Inv.sz (I : Inv X pins σ H s) : X.s₀.heap.objs.size <= s.heap.objs.size := Nat.le_trans I.ok.above (Nat.le_of_lt I.lt)
theorem Inv.nofs (I : Inv X pins σ H s) {a : Addr} (h : s.heap.objs.size <= a) : a ∉ X.fs := fun hb => by
 obtain ⟨_, o, ho, _⟩ := I.ok.funs.mem hb
 exact absurd (Nat.lt_of_lt_of_le (Heap.lt_size ho) (Nat.le_trans I.sz h)) (Nat.lt_irrefl _)
theorem Inv.cne (I : Inv X pins σ H s) : ∀ x c, X.env.cells.lookup x = some c -> c ≠ X.env.locals := fun x c e z => by
 obtain ⟨v, o, ho, hd⟩ := I.cell x c e
 obtain ⟨m, ⟨o', es, ep, ho', hd', _⟩, _⟩ := I.loc
 rw [z, ho'] at ho; cases ho; rw [hd'] at hd; cases hd
theorem Inv.funs (I : Inv X pins σ H s) : s.heap.FunFrames X.base X.outer := by
 have all : ∀ (l : List Env), (∀ b ∈ frs l, b ∈ X.fs) -> X.s₀.heap.FunFrames X.base l -> s.heap.FunFrames X.base l := by
  intro l
  induction l with
  | nil => intro _ _; trivial
  | cons env r ih =>
   intro hs hl
   obtain ⟨hk, ⟨L, o, hf, hn, ho, hd⟩, hr⟩ := hl
   have hL : L ∈ X.fs := hs L (by unfold frs; rw [filterMap_cons, hf]; exact mem_cons_self)
   obtain ⟨sl, e⟩ := I.base.slot L o ho (I.ok.frf L hL) hL fun z => I.ok.exfs L z hL
   exact ⟨hk, ⟨L, _, hf, hn, e, hd⟩, ih (fun b hb => hs b (by unfold frs; rw [filterMap_cons, hf]; exact mem_cons_of_mem _ hb)) hr⟩
 exact all X.outer (fun _ hb => hb) I.ok.funs
theorem Inv.stack (I : Inv X pins σ H s) : s.heap.FunFrames X.base X.stack := by
 rcases I.ok.stk with e | ⟨e, hf⟩
 ·rw [e]; exact I.funs
 ·rw [e]
  obtain ⟨m, hn, _⟩ := I.loc
  refine .cons (by rw [I.ok.kind]; decide) hf hn ?_ I.funs
  exact Heap.get?_none_of_le (Nat.le_trans I.ok.bsz I.ok.above)
theorem Inv.stkSub (I : Inv X pins σ H s) : ∀ b ∈ frs X.stack, b ∈ X.env.locals :: X.fs := fun b hb => by
 rcases I.ok.stk with e | ⟨e, hf⟩
 ·rw [e] at hb; exact mem_cons_of_mem _ hb
 ·rw [e] at hb
  unfold frs at hb
  rw [filterMap_cons, hf] at hb
  exact hb
theorem Inv.stkFree (I : Inv X pins σ H s) : ∀ b ∈ frs X.stack, H b = none := fun b hb => by
 rcases List.mem_cons.mp (I.stkSub b hb) with e | hb
 ·rw [e]; exact I.free
 ·obtain ⟨_, o, ho, _⟩ := I.ok.funs.mem hb
  exact I.base.free b o ho (I.ok.frf b hb) fun z => I.ok.exfs b z hb
theorem Inv.step {g' : Array GenState} {t' : Nat} {d' : Drawn} {ch : List Addr} (I : Inv X pins σ H s)
  (hch : ∀ b ∈ ch, (b ∈ X.ex \/ X.s₀.heap.objs.size <= b) /\ b ≠ X.env.locals /\ (∀ x c, X.env.cells.lookup x = some c -> c ≠ b) /\ ∀ p ∈ X.pn ++ pins, p.1 ≠ b)
  (keep : ∀ b o, b ≠ X.env.locals -> b ∉ X.fs -> b ∉ ch -> s.heap.get? b = some o -> H b = none -> h'.get? b = some o)
  (slot : ∀ b o, b ≠ X.env.locals -> b ∈ X.fs -> b ∉ ch -> s.heap.get? b = some o -> H b = none -> ∃ sl, h'.get? b = some { o with slots := sl }) (free : ∀ b o, b ∉ ch -> s.heap.get? b = some o -> H b = none -> H' b = none)
  (there : ∀ b o, b ∉ ch -> s.heap.get? b = some o -> ∃ o', h'.get? b = some o')
  (tups : ∀ b xs, H b = some (.tup xs) -> H' b = some (.tup xs)) (frzs : ∀ b o u, H b = some (.frz o u) -> H' b = some (.frz o u)) (tbls : ∀ b ps, H b = some (.tbl ps) -> ∃ more, H' b = some (.tbl (ps ++ more)))
  (ns : ∀ m, s.heap.Ns X.env.locals m -> h'.Ns X.env.locals m) (hok : HOk X.prog X.w H' h') (hg : AllBare g') :
  Inv X pins σ H' { s with heap := h', gens := g', drawn := d', toks := t' } := by
 have neL : ∀ b o, X.s₀.heap.get? b = some o -> b ≠ X.env.locals := fun b o e => Nat.ne_of_lt (Nat.lt_of_lt_of_le (Heap.lt_size e) I.ok.above)
 have neC : ∀ b o, X.s₀.heap.get? b = some o -> b ∉ X.ex -> b ∉ ch := fun b o e hx hb => by
  rcases (hch b hb).1 with z | z
  ·exact hx z
  ·exact absurd (Nat.lt_of_lt_of_le (Heap.lt_size e) z) (Nat.lt_irrefl _)
 have cellK : ∀ x c, X.env.cells.lookup x = some c -> ∀ v, s.heap.IsCell c v -> h'.IsCell c v := fun x c e v hpat => by
  obtain ⟨o, ho, hd⟩ := hpat
  have nch : c ∉ ch := fun z => (hch c z).2.2.1 x c e rfl
  by_cases hc : c ∈ X.fs
  ·obtain ⟨sl, q⟩ := slot c o (I.cne x c e) hc nch ho (I.freeC x c e)
   exact ⟨_, q, hd⟩
  ·exact ⟨o, keep c o (I.cne x c e) hc nch ho (I.freeC x c e), hd⟩
 refine ⟨I.ok, I.os, hg, ⟨fun b o e n hb hx => ?_, fun b o e n hb hx => ?_, fun b o e n hx => ?_, fun b o e hx => ?_, fun b xs e => tups b xs (I.base.tups b xs e), fun b o xs e => frzs b o xs (I.base.frzs b o xs e), fun b ps e => ?_⟩, ?_, fun x c e => ?_, ?_, fun x c e => ?_, fun p hp => ?_, hok, I.len⟩
 ·exact keep b o (neL b o e) hb (neC b o e hx) (I.base.keep b o e n hb hx) (I.base.free b o e n hx)
 ·obtain ⟨sl, e1⟩ := I.base.slot b o e n hb hx
  obtain ⟨sl', e2⟩ := slot b _ (neL b o e) hb (neC b o e hx) e1 (I.base.free b o e n hx)
  exact ⟨sl', e2⟩
 ·obtain ⟨o', e1⟩ := I.base.there b o e hx
  exact free b o' (neC b o e hx) e1 (I.base.free b o e n hx)
 ·obtain ⟨o', e1⟩ := I.base.there b o e hx
  exact there b o' (neC b o e hx) e1
 ·obtain ⟨m1, e1⟩ := I.base.tbls b ps e
  obtain ⟨m2, e2⟩ := tbls b _ e1
  exact ⟨m1 ++ m2, by rw [e2, Array.append_assoc]⟩
 ·obtain ⟨m, hn, hl⟩ := I.loc
  refine ⟨m, ns m hn, fun i x v e1 e2 e3 => ?_⟩
  obtain ⟨u, r, l⟩ := hl i x v e1 e2 e3
  refine ⟨u, r, ?_⟩
  rcases l with l | ⟨k, c, e, z⟩
  ·exact .inl l
  ·exact .inr ⟨k, c, e, cellK x c e _ z⟩
 ·obtain ⟨v, z⟩ := I.cell x c e
  exact ⟨v, cellK x c e v z⟩
 ·obtain ⟨m, ⟨o, _, _, ho, _⟩, _⟩ := I.loc
  exact free _ o (fun z => (hch _ z).2.1 rfl) ho I.free
 ·obtain ⟨v, o, ho, hd⟩ := I.cell x c e
  exact free c o (fun z => (hch c z).2.2.1 x c e rfl) ho (I.freeC x c e)
 ·obtain ⟨e, n, ne, nf, d⟩ := I.pin p hp
  have nch : p.1 ∉ ch := fun z => (hch p.1 z).2.2.2 p hp rfl
  exact ⟨keep p.1 p.2 ne nf nch e n, free p.1 p.2 nch e n, ne, nf, d⟩
theorem Inv.un {t' : Nat} (I : Inv X pins σ H s) (u : Un X.fs [] H H' s.heap h') (hok : HOk X.prog X.w H' h') : Inv X pins σ H' { s with heap := h', toks := t' } := by
 obtain ⟨m, ⟨o, es, ep, ho, r⟩, _⟩ := id I.loc
 obtain ⟨sl, hL⟩ := u.any ho I.free (by simp)
 exact I.step (g' := s.gens) (d' := s.drawn) (ch := []) (fun _ z => nomatch z) (fun b o _ hb _ e n => u.keep b o e n hb (by simp)) (fun b o _ hb _ e n => u.slot b o e n hb (by simp)) (fun b o _ e n => u.free b o e n (by simp)) (fun b o _ e => u.there b o e (by simp)) u.tups u.frzs u.tbls (fun m' hm => by
  obtain ⟨o', es', ep', ho', r'⟩ := hm
  rw [ho] at ho'; cases ho'
  exact ⟨_, es', ep', hL, r'⟩) hok I.bare
theorem Inv.call {g' : Array GenState} {t' : Nat} {d' : Drawn} {ch : List Addr} (I : Inv X pins σ H s) (u : Un (frs X.stack) ch H H' s.heap h') (hok : HOk X.prog X.w H' h') (hg : AllBare g')
  (hch : ∀ b ∈ ch, (b ∈ X.ex \/ X.s₀.heap.objs.size <= b) /\ b ≠ X.env.locals /\ (∀ x c, X.env.cells.lookup x = some c -> c ≠ b) /\ ∀ p ∈ X.pn ++ pins, p.1 ≠ b) :
  Inv X pins σ H' { s with heap := h', gens := g', drawn := d', toks := t' } := by
 obtain ⟨m, ⟨o, es, ep, ho, r⟩, _⟩ := id I.loc
 obtain ⟨sl, hL⟩ := u.any ho I.free fun z => (hch _ z).2.1 rfl
 exact I.step (ch := ch) hch (fun b o hL hb hc e n => u.keep b o e n (fun z => (List.mem_cons.mp (I.stkSub b z)).elim hL hb) hc) (fun b o _ _ hc e n => u.any e n hc) (fun b o hc e n => u.free b o e n hc) (fun b o hc e => u.there b o e hc) u.tups u.frzs u.tbls (fun m' hm => by
  obtain ⟨o', es', ep', ho', r'⟩ := hm
  rw [ho] at ho'; cases ho'
  exact ⟨_, es', ep', hL, r'⟩) hok hg
theorem Inv.turned {t' : Nat} {it : Addr} (I : Inv X pins σ H s) (k : ∀ b o, b ≠ it -> s.heap.get? b = some o -> h'.get? b = some o) (hn : H it = none) (hL : it ≠ X.env.locals)
  (h1 : it ∈ X.ex \/ X.s₀.heap.objs.size <= it) (h2 : ∀ x c, X.env.cells.lookup x = some c -> c ≠ it) (h3 : ∀ p ∈ X.pn ++ pins, p.1 ≠ it) : Inv X pins σ H { s with heap := h', toks := t' } := by
 have nit : ∀ b u, H b = some u -> b ≠ it := fun b u e z => by rw [z, hn] at e; cases e
 refine I.step (g' := s.gens) (d' := s.drawn) (ch := [it]) (fun b hb => ?_) (fun b o _ _ hc e _ => k b o (fun z => hc (by simp [z])) e) (fun b o _ _ hc e _ => ⟨o.slots, k b o (fun z => hc (by simp [z])) e⟩) (fun _ _ _ _ n => n)
  (fun b o hc e => ⟨o, k b o (fun z => hc (by simp [z])) e⟩) (fun _ _ e => e) (fun _ _ _ e => e) (fun b ps e => ⟨#[], by rw [e]; simp⟩) (fun m hm => ?_) (fun b u e => ?_) I.bare
 ·have e : b = it := by simpa using hb
  subst e
  exact ⟨h1, hL, h2, h3⟩
 ·obtain ⟨o, es, ep, ho, r⟩ := hm
  exact ⟨o, es, ep, k _ o (Ne.symm hL) ho, r⟩
 ·refine (I.hok b u e).stay (fun c v hc q => k c v ?_ q) (fun _ q => q) fun _ _ q => q
  rcases hc with z | z
  ·rw [z]; exact nit b u e
  ·exact nit c _ z
theorem Inv.tok (I : Inv X pins σ H s) (t : Nat) : Inv X pins σ H { s with toks := t } := I.un (h' := s.heap) (t' := t) Un.refl I.hok
theorem Inv.kept {t' : Nat} (I : Inv X pins σ H s) (k : ∀ b u, s.heap.get? b = some u -> h'.get? b = some u) : Inv X pins σ H { s with heap := h', toks := t' } := I.un (Un.kept k) (I.hok.kept k)
theorem Inv.laid {a : Addr} {o : HO} {t' : Nat} (I : Inv X pins σ H s) (k : ∀ b u, s.heap.get? b = some u -> h'.get? b = some u) (hp : s.heap.objs.size <= a) (new : ObjOk X.prog X.w (upd H a o) h' a o) :
  Inv X pins σ (upd H a o) { s with heap := h', toks := t' } := I.un (Un.laid k hp (I.hok.fresh hp)) (I.hok.laid k hp new)
theorem Inv.write {x e : Addr} {o : HO} {t' : Nat} (I : Inv X pins σ H s) (mu : Mut (H x)) (he : e = x \/ H e = some (.own x)) (k : ∀ b u, b ≠ e -> s.heap.get? b = some u -> h'.get? b = some u) (heo : ∃ u, h'.get? e = some u)
  (new : ObjOk X.prog X.w (upd H x o) h' x o) : Inv X pins σ (upd H x o) { s with heap := h', toks := t' } := I.un (Un.write mu he k heo) (I.hok.write mu he k heo new)
theorem Inv.pins_of {pins' : List (Addr × Obj)} (I : Inv X pins σ H s) (h : ∀ p ∈ pins', s.heap.get? p.1 = some p.2 /\ H p.1 = none /\ p.1 ≠ X.env.locals /\ p.1 ∉ X.fs /\ ∀ v, p.2.data ≠ .cell v) : Inv X pins' σ H s :=
 ⟨I.ok, I.os, I.bare, I.base, I.loc, I.cell, I.free, I.freeC, fun p hp => (List.mem_append.mp hp).elim (fun z => I.pin p (mem_append_left _ z)) (h p), I.hok, I.len⟩
theorem nodup_ix {N : List Str} (hN : N.Nodup) {i j : Nat} {x : Str} (a : N[i]? = some x) (b : N[j]? = some x) : i = j := by
 obtain ⟨h1, e1⟩ := List.getElem?_eq_some_iff.mp a
 obtain ⟨h2, e2⟩ := List.getElem?_eq_some_iff.mp b
 exact (getElem_inj hN).mp (e1.trans e2.symm)
theorem T8 {M : Model} {A : Around} {E : Value -> Shared -> Prop} {i : Nat} {x : Str} {v : V} {u : Value} {Q : Unit -> Shared -> Prop} (I : Inv X pins σ H s) (hN : X.N.Nodup) (hi : X.N[i]? = some x) (hx : Loc X.env.scope x) (r : RelV v u)
  (h : ∀ s', Inv X pins (σ.set i (some v)) H s' -> (∃ a, Heap.SameBut a s.heap s'.heap /\ (a = X.env.locals \/ X.env.cells.lookup x = some a)) -> Q () s') (hf : X.fn x = true \/ X.env.scope.names.lookup x = some .local := by first | exact .inl rfl | exact .inr rfl | assumption) : wpAny M A (storeName X.env x u) Q E s := by
 obtain ⟨m, hn, hl⟩ := id I.loc
 have hcls : (X.env.scope.kind == .class || (X.env.scope.kind == .module && X.env.locals != X.env.globals)) = false := by rw [I.ok.kind]; rfl
 have hiσ : i < σ.length := by rw [I.len]; exact (List.getElem?_eq_some_iff.mp hi).1
 have cne := I.cne
 have tracked : ∀ {a : Addr} {h' : Heap}, (∃ o, s.heap.get? a = some o /\ H a = none) -> Heap.SameBut a s.heap h' -> HOk X.prog X.w H h' := fun {a h'} ha hs b ob e => by
  obtain ⟨_, _, hfree⟩ := ha
  refine (I.hok b ob e).stay (fun c w' hc q => (hs.2 c ?_).trans q) (fun _ q => q) fun _ _ q => q
  rintro rfl
  rcases hc with rfl | hc
  ·rw [hfree] at e; cases e
  ·rw [hfree] at hc; cases hc
 rcases hx with hk | hk
 ·refine wpAny_storeName_local hk hn (fun h' hn' hs => ?_) hcls
  obtain ⟨oL, _, _, hoL, _⟩ := id hn
  refine h _ ⟨I.ok, I.os, I.bare, ⟨fun b o e n hb hx => ?_, fun b o e n hb hx => ?_, I.base.free, fun b o e hx => ?_, I.base.tups, I.base.frzs, I.base.tbls⟩, ⟨_, hn', fun j y v' e1 e2 e3 => ?_⟩, fun y c e => ?_, I.free, I.freeC, fun p hp => ?_, tracked ⟨oL, hoL, I.free⟩ hs, by simpa using I.len⟩ ⟨_, hs, .inl rfl⟩
  ·exact (hs.2 b (Nat.ne_of_lt (Nat.lt_of_lt_of_le (Heap.lt_size e) I.ok.above))).trans (I.base.keep b o e n hb hx)
  ·obtain ⟨sl, e1⟩ := I.base.slot b o e n hb hx
   exact ⟨sl, (hs.2 b (Nat.ne_of_lt (Nat.lt_of_lt_of_le (Heap.lt_size e) I.ok.above))).trans e1⟩
  ·obtain ⟨o', e1⟩ := I.base.there b o e hx
   exact ⟨o', (hs.2 b (Nat.ne_of_lt (Nat.lt_of_lt_of_le (Heap.lt_size e) I.ok.above))).trans e1⟩
  ·by_cases hj : j = i
   ·subst hj
    rw [hi] at e1; cases e1
    rw [getElem?_set_self hiσ] at e2
    cases e2
    exact ⟨u, r, .inl ⟨hk, by simp⟩⟩
   ·rw [getElem?_set_ne (Ne.symm hj)] at e2
    obtain ⟨u', r', q⟩ := hl j y v' e1 e2 e3
    refine ⟨u', r', ?_⟩
    rcases q with ⟨k, e⟩ | ⟨k, c, e, z⟩
    ·refine .inl ⟨k, ?_⟩
     have : y ≠ x := fun e => hj (nodup_ix hN e1 (e ▸ hi))
     simp [this, e]
    ·exact .inr ⟨k, c, e, z.sameBut hs (cne y c e)⟩
  ·obtain ⟨w', z⟩ := I.cell y c e
   exact ⟨w', z.sameBut hs (cne y c e)⟩
  ·obtain ⟨e, n, ne, nf, d⟩ := I.pin p hp
   exact ⟨(hs.2 p.1 ne).trans e, n, ne, nf, d⟩
 ·have hfn : X.fn x = true := by
   rcases hf with z | z
   ·exact z
   ·rw [z] at hk; cases hk
  obtain ⟨c, hc⟩ := I.ok.has x (.inl hk)
  obtain ⟨w', z⟩ := I.cell x c hc
  refine wpAny_storeName_cell I.ok.kind hk hc z (fun h' hc' hs => ?_)
  obtain ⟨oc, hoc, hocd⟩ := id z
  refine h { s with heap := h' } ⟨I.ok, I.os, I.bare, ⟨fun b o e n hb hx => ?_, fun b o e n hb hx => ?_, I.base.free, fun b o e hx => ?_, I.base.tups, I.base.frzs, I.base.tbls⟩, ⟨m, hn.sameBut hs (Ne.symm (cne x c hc)), fun j y v' e1 e2 e3 => ?_⟩, fun y c' e => ?_, I.free, I.freeC, fun p hp => ?_, tracked ⟨oc, hoc, I.freeC x c hc⟩ hs, by simpa using I.len⟩ ⟨c, hs, .inr hc⟩
  ·exact (hs.2 b (Nat.ne_of_lt (Nat.lt_of_lt_of_le (Heap.lt_size e) (I.ok.cab x c hfn hc)))).trans (I.base.keep b o e n hb hx)
  ·obtain ⟨sl, e1⟩ := I.base.slot b o e n hb hx
   exact ⟨sl, (hs.2 b (Nat.ne_of_lt (Nat.lt_of_lt_of_le (Heap.lt_size e) (I.ok.cab x c hfn hc)))).trans e1⟩
  ·obtain ⟨o', e1⟩ := I.base.there b o e hx
   exact ⟨o', (hs.2 b (Nat.ne_of_lt (Nat.lt_of_lt_of_le (Heap.lt_size e) (I.ok.cab x c hfn hc)))).trans e1⟩
  ·by_cases hj : j = i
   ·subst hj
    rw [hi] at e1; cases e1
    rw [getElem?_set_self hiσ] at e2
    cases e2
    exact ⟨u, r, .inr ⟨.inl hk, c, hc, hc'⟩⟩
   ·rw [getElem?_set_ne (Ne.symm hj)] at e2
    obtain ⟨u', r', q⟩ := hl j y v' e1 e2 e3
    refine ⟨u', r', ?_⟩
    rcases q with q | ⟨k, c', e, z'⟩
    ·exact .inl q
    ·refine .inr ⟨k, c', e, z'.sameBut hs ?_⟩
     rintro rfl
     exact hj (nodup_ix hN e1 (I.ok.inj _ _ _ e hc ▸ hi))
  ·by_cases hcc : c' = c
   ·subst hcc; exact ⟨_, hc'⟩
   ·obtain ⟨w2, z2⟩ := I.cell y c' e
    exact ⟨w2, z2.sameBut hs hcc⟩
  ·obtain ⟨e, n, ne, nf, d⟩ := I.pin p hp
   refine ⟨(hs.2 p.1 ?_).trans e, n, ne, nf, d⟩
   intro q
   rw [q, hoc] at e
   have q' : oc = p.2 := Option.some.inj e
   exact d w' (by rw [<- q']; exact hocd)
theorem store_ok {M : Model} {A : Around} {E : Value -> Shared -> Prop} {i : Nat} {x : Str} {v : V} {u : Value} {Q : Unit -> Shared -> Prop} (I : Inv X pins σ H s) (hN : X.N.Nodup) (hi : X.N[i]? = some x) (hx : Loc X.env.scope x) (r : RelV v u)
  (h : ∀ s', Inv X pins (σ.set i (some v)) H s' -> Q () s') (hf : X.fn x = true \/ X.env.scope.names.lookup x = some .local := by first | exact .inl rfl | exact .inr rfl | assumption) : wpAny M A (storeName X.env x u) Q E s :=
 T8 I hN hi hx r (fun s' I' _ => h s' I') hf
theorem Inv.call' {s' : Shared} {ch : List Addr} (I : Inv X pins σ H s) (ho : s'.os = s.os) (u : Un (frs X.stack) ch H H' s.heap s'.heap) (hok : HOk X.prog X.w H' s'.heap) (hg : AllBare s'.gens)
  (hch : ∀ b ∈ ch, (b ∈ X.ex \/ X.s₀.heap.objs.size <= b) /\ b ≠ X.env.locals /\ (∀ x c, X.env.cells.lookup x = some c -> c ≠ b) /\ ∀ p ∈ X.pn ++ pins, p.1 ≠ b) : Inv X pins σ H' s' := by
 obtain ⟨h', g', d', t', o'⟩ := s'
 have e : o' = s.os := ho
 subst e
 exact I.call (g' := g') (t' := t') (d' := d') u hok hg hch
end
abbrev XK := Value -> Option Addr -> Hp -> Prop
abbrev St := List (Option V)
abbrev VK := V -> Hp -> Prop
abbrev TE := St -> Hp -> VK -> Prop
abbrev TT := St -> Hp -> (Bool -> Hp -> Prop) -> Prop
abbrev TA := St -> Hp -> (List V -> Hp -> Prop) -> Prop
structure Ends where
 nx : St -> Hp -> Prop
 rt : VK
 bk : St -> Hp -> Prop := fun _ _ => False
 ct : St -> Hp -> Prop := fun _ _ => False
abbrev TS := Ends -> St -> Hp -> Prop
def EP (X : Cx) (pins : List (Addr × Obj)) (σ : St) (Q : VK) (u : Value) (s' : Shared) : Prop := ∃ v H', Inv X pins σ H' s' /\ RelV v u /\ Q v H'
def TP (X : Cx) (pins : List (Addr × Obj)) (σ : St) (Q : Bool -> Hp -> Prop) (b : Bool) (s' : Shared) : Prop := ∃ H', Inv X pins σ H' s' /\ Q b H'
def AP (X : Cx) (pins : List (Addr × Obj)) (σ : St) (Q : List V -> Hp -> Prop) (us : List Value) (s' : Shared) : Prop := ∃ vs H', Inv X pins σ H' s' /\ Vals vs us /\ Q vs H'
def SP (X : Cx) (pins : List (Addr × Obj)) (D : Ends) (f : Flow) (s' : Shared) : Prop :=
 match f with
 | .next => ∃ σ' H', Inv X pins σ' H' s' /\ D.nx σ' H'
 | .brk => ∃ σ' H', Inv X pins σ' H' s' /\ D.bk σ' H'
 | .cont => ∃ σ' H', Inv X pins σ' H' s' /\ D.ct σ' H'
 | .ret u => ∃ v σ' H', Inv X pins σ' H' s' /\ RelV v u /\ D.rt v H'
def PE (X : Cx) (e : Expr) (t : TE) : Prop :=
 ∀ (pins : List (Addr × Obj)) (s : Shared) (σ : St) (H : Hp) (Q : VK), Inv X pins σ H s -> t σ H Q -> wpAny (model X.prog X.w) X.A (eval e X.env) (EP X pins σ Q) X.xe s
def PT (X : Cx) (e : Expr) (t : TT) : Prop :=
 ∀ (pins : List (Addr × Obj)) (s : Shared) (σ : St) (H : Hp) (Q : Bool -> Hp -> Prop), Inv X pins σ H s -> t σ H Q -> wpAny (model X.prog X.w) X.A (isTrue e X.env (eval e X.env)) (TP X pins σ Q) X.xe s
def PW (X : Cx) (e : Expr) (t : TT) : Prop :=
 ∀ (whole : Sem Value) (pins : List (Addr × Obj)) (s : Shared) (σ : St) (H : Hp) (Q : Bool -> Hp -> Prop), Inv X pins σ H s -> t σ H Q -> wpAny (model X.prog X.w) X.A (isTrue e X.env whole) (TP X pins σ Q) X.xe s
theorem PW.pt {X : Cx} {e : Expr} {t : TT} (h : PW X e t) : PT X e t := h _
def PA (X : Cx) (es : List Expr) (t : TA) : Prop :=
 ∀ (pos : Pos) (pins : List (Addr × Obj)) (s : Shared) (σ : St) (H : Hp) (Q : List V -> Hp -> Prop), Inv X pins σ H s -> t σ H Q -> wpAny (model X.prog X.w) X.A (spliced (backTo pos (starEach es X.env))) (AP X pins σ Q) X.xe s
def PS (X : Cx) (st : Stmt) (t : TS) : Prop :=
 ∀ (pins : List (Addr × Obj)) (s : Shared) (σ : St) (H : Hp) (D : Ends), Inv X pins σ H s -> t D σ H -> wpAny (model X.prog X.w) X.A (exec st X.env) (SP X pins D) X.xe s
def PSs (X : Cx) (st : List Stmt) (t : TS) : Prop :=
 ∀ (pins : List (Addr × Obj)) (s : Shared) (σ : St) (H : Hp) (D : Ends), Inv X pins σ H s -> t D σ H -> wpAny (model X.prog X.w) X.A (execs st X.env) (SP X pins D) X.xe s
theorem thn {α : Type} {t : Sem α} {Q Q' : α -> Shared -> Prop} {M : Model} {A : Around} {E : Value -> Shared -> Prop} {s : Shared} (h : wpAny M A t Q E s) (hQ : ∀ a s, Q a s -> Q' a s) : wpAny M A t Q' E s := wpAny_mono h hQ fun _ _ x => x
end
section
section
variable {X : Cx}
def tVar (i : Nat) : TE := fun σ H Q => ∃ v, σ[i]? = some (some v) /\ Q v H
def tC (v : V) : TE := fun _ H Q => Q v H
theorem pe_var {i : Nat} {x : Str} {pos : Pos} (hN : X.N[i]? = some x) (hv : Vis X.env.scope x) (hd : (x == ("__debug__" : Str)) = false := by decide) (hcd : (x == ("__classdict__" : Str)) = false := by decide) : PE X (.Name x pos) (tVar i) := by
 intro pins s σ H Q I h
 obtain ⟨v, e, h⟩ := h
 obtain ⟨m, hn, hl⟩ := I.loc
 obtain ⟨u, r, l⟩ := hl i x v hN e hv
 have fin : EP X pins σ Q u s := ⟨v, H, I, r, h⟩
 rcases l with ⟨hk, hm⟩ | ⟨hk, c, hc, hcell⟩
 ·exact wpAny_Name (wpAny_loadName_local I.ok.kind hk hn hm fin) hd
 ·rcases hk with hk | hk
  ·exact wpAny_Name (wpAny_loadName_cell I.ok.kind hk hc hcell fin) hd
  ·exact wpAny_Name (wpAny_loadName_free I.ok.kind hk hc hcell fin hcd) hd
theorem pe_int {i j pos} : PE X (.Constant (.int i) j pos) (tC (.int i)) := fun _ _ _ H _ I h => wpAny_Constant_int ⟨.int i, H, I.tok _, ⟨_, rfl⟩, h⟩
theorem pe_bl {b j pos} : PE X (.Constant (.bool b) j pos) (tC (.bl b)) := fun _ _ _ H _ I h => Constant_bool ⟨.bl b, H, I, rfl, h⟩
def Gl (X : Cx) (x : Str) : Prop := X.env.kindOf x = some .globalImplicit
theorem ld_glob {E : Value -> Shared -> Prop} {pins : List (Addr × Obj)} {s : Shared} {σ : St} {H : Hp} {x : Str} {u : Value} {pos : Pos} {Q : Value -> Shared -> Prop} (I : Inv X pins σ H s) (hg : Gl X x) (hm : X.mg x = some u) (h : Q u s)
  (hd : (x == ("__debug__" : Str)) = false := by decide) : wpAny (model X.prog X.w) X.A (eval (.Name x pos) X.env) Q E s :=
 Calls.Name_function_global I.ok.kind hg (Calls.loadGlobal_global (by rw [I.ok.glob]; exact I.mod.glob.keeps I.bk) hm h) hd
theorem X3 {E : Value -> Shared -> Prop} {pins : List (Addr × Obj)} {s : Shared} {σ : St} {H : Hp} {x : Str} {u : Value} {pos : Pos} {Q : Value -> Shared -> Prop} (I : Inv X pins σ H s) (hg : Gl X x) (hm : X.mg x = none) (hv : bootBuiltins x = some u) (h : Q u s)
  (hn : x ≠ "__name__" := by decide) (hd : (x == ("__debug__" : Str)) = false := by decide) : wpAny (model X.prog X.w) X.A (eval (.Name x pos) X.env) Q E s := by
 obtain ⟨mb, h1, h2⟩ := I.mod.blt
 exact Calls.Name_function_global I.ok.kind hg (Calls.loadGlobal_builtin (by rw [I.ok.glob]; exact I.mod.glob.keeps I.bk) hm (by rw [I.ok.blt]; exact h1.keeps I.bk) ((h2 x hn).trans hv) h) hd
theorem pe_glob {x : Str} {v : V} {u : Value} {pos : Pos} (hg : Gl X x) (hm : X.mg x = some u) (r : RelV v u) (hd : (x == ("__debug__" : Str)) = false := by decide) : PE X (.Name x pos) (tC v) :=
 fun _ _ _ H _ I h => ld_glob I hg hm ⟨v, H, I, r, h⟩ hd
theorem pe_bltn {x : Str} {v : V} {u : Value} {pos : Pos} (hg : Gl X x) (hm : X.mg x = none) (hv : bootBuiltins x = some u) (r : RelV v u) (hn : x ≠ "__name__" := by decide) (hd : (x == ("__debug__" : Str)) = false := by decide) : PE X (.Name x pos) (tC v) :=
 fun _ _ _ H _ I h => X3 I hg hm hv ⟨v, H, I, r, h⟩ hn hd
variable {a b : Expr} {ta tb : TE} {pos : Pos}
variable {tA tB' : TT} {rest : List Expr}
def tOr (t u : TT) : TT := fun σ H Q => t σ H fun c H1 => if c = true then Q true H1 else u σ H1 Q
def tNot (t : TT) : TT := fun σ H Q => t σ H fun c H1 => Q (!c) H1
theorem pw_or1 (ha : PT X a tA) : PW X (.BoolOp .Or [a] pos) tA := by
 intro wh pins s σ H Q I h
 refine isTrue_or (thn (ha pins s σ H Q I h) fun c s1 e => ?_)
 cases c with
 | false => exact isTrue_or_nil e
 | true => exact e
theorem pw_or (ha : PT X a tA) (hb : PW X (.BoolOp .Or (b :: rest) pos) tB') : PW X (.BoolOp .Or (a :: b :: rest) pos) (tOr tA tB') := by
 intro wh pins s σ H Q I h
 refine isTrue_or (thn (ha pins s σ H _ I h) fun c s1 hpat => ?_)
 obtain ⟨H1, I1, q1⟩ := hpat
 cases c with
 | true => exact ⟨H1, I1, q1⟩
 | false => exact hb wh pins s1 σ H1 Q I1 q1
theorem pt_not (ha : PT X a tA) : PT X (.UnaryOp .Not a pos) (tNot tA) := by
 intro pins s σ H Q I h
 exact isTrue_not (ha pins s σ H (fun c H1 => Q (!c) H1) I h)
def tAndV (ta tb : TE) : TE := fun σ H Q => ta σ H fun x H1 => ∃ c, x = .bl c /\ if c = true then tb σ H1 Q else Q (.bl false) H1
def tNotV (ta : TE) : TE := fun σ H Q => ta σ H fun x H1 => ∃ c, x = .bl c /\ Q (.bl (!c)) H1
theorem pe_one {op} {t : TE} (h : PE X a t) : PE X (.BoolOp op [a] pos) t := fun pins s σ H Q I hw => BoolOp_one (h pins s σ H Q I hw)
theorem pe_and (ha : PE X a ta) (hb : PE X (.BoolOp .And (b :: rest) pos) tb) : PE X (.BoolOp .And (a :: b :: rest) pos) (tAndV ta tb) := by
 intro pins s σ H Q I h
 refine BoolOp_and (thn (ha pins s σ H _ I h) fun v s1 hpat => ?_)
 obtain ⟨x, H1, I1, r1, q1⟩ := hpat
 obtain ⟨c, rfl, q1⟩ := q1
 cases r1
 refine wpAny_truthy_bool ?_
 cases c with
 | true => exact hb pins s1 σ H1 Q I1 q1
 | false => exact ⟨.bl false, H1, I1, rfl, q1⟩
theorem pe_not (ha : PE X a ta) : PE X (.UnaryOp .Not a pos) (tNotV ta) := by
 intro pins s σ H Q I h
 refine UnaryOp_ (thn (ha pins s σ H _ I h) fun v s1 hpat => ?_)
 obtain ⟨x, H1, I1, r1, q1⟩ := hpat
 obtain ⟨c, rfl, q1⟩ := q1
 cases r1
 exact not_of (wpAny_truthy_bool ⟨.bl (!c), H1, I1, rfl, q1⟩)
def tIf (t : TT) (ta tb : TE) : TE := fun σ H Q => t σ H fun c H1 => if c = true then ta σ H1 Q else tb σ H1 Q
theorem pe_ifExp {c : Expr} (hc : PT X c tA) (ha : PE X a ta) (hb : PE X b tb) : PE X (.IfExp c a b pos) (tIf tA ta tb) := by
 intro pins s σ H Q I h
 refine wpAny_IfExp (thn (hc pins s σ H _ I h) fun d s1 hpat => ?_)
 obtain ⟨H1, I1, q1⟩ := hpat
 cases d with
 | true => exact ha pins s1 σ H1 Q I1 q1
 | false => exact hb pins s1 σ H1 Q I1 q1
end
end
section
def SqL (K : W.Frag) (H : Hp) (a : Addr) (xs : List V) : Prop :=
 Rd H a (.lst xs) \/
  ∃ (o : Obj) (its : Array Value) (n : Nat), K.lookup a = some o /\ o.cls = .type "list" /\ o.dict = none /\ o.data = .seq its n /\ its.size <= sizeLine /\ Vals xs its.toList
def SqT (K : W.Frag) (H : Hp) (a : Addr) (xs : List V) : Prop :=
 Rd H a (.tup xs) \/
  ∃ (o : Obj) (its : Array Value) (n : Nat), K.lookup a = some o /\ o.cls = .type "tuple" /\ o.data = .seq its n /\ its.size <= sizeLine /\ Vals xs its.toList
def absV : Value -> Option V
 | .none => some .non
 | .bool b => some (.bl b)
 | .int i _ => some (.int i)
 | .str x _ => some (.str x)
 | .bytes b _ => some (.byt b)
 | .float b _ => some (.flt b)
 | .ref a => some (.ref a)
 | .type n => some (.ty n)
 | _ => none
theorem RelV.abs {x : V} {u : Value} (r : RelV x u) : absV u = some x := by
 cases x with
 | non => cases r; rfl
 | bl _ => cases r; rfl
 | int _ => obtain ⟨t, rfl⟩ := r; rfl
 | str _ => obtain ⟨t, rfl⟩ := r; rfl
 | byt _ => obtain ⟨t, rfl⟩ := r; rfl
 | flt _ => obtain ⟨t, rfl⟩ := r; rfl
 | ref _ => cases r; rfl
 | ty _ => cases r; rfl
theorem RelV.inj {x y : V} {u : Value} (r : RelV x u) (q : RelV y u) : x = y := Option.some.inj (r.abs.symm.trans q.abs)
theorem Vals.inj : ∀ {xs ys : List V} {us : List Value}, Vals xs us -> Vals ys us -> xs = ys
 | _, _, _, .nil, .nil => rfl
 | _, _, _, .cons r t, .cons r' t' => by rw [r.inj r', Vals.inj t t']
section
variable {X : Cx} {pins : List (Addr × Obj)} {σ : St} {H : Hp} {s : Shared} {a : Addr} {xs ys : List V}
theorem SqL.of {K : W.Frag} (h : H a = some (.lst xs)) : SqL K H a xs := .inl (.inl h)
theorem SqT.of {K : W.Frag} (h : H a = some (.tup xs)) : SqT K H a xs := .inl (.inl h)
theorem Inv.list (I : Inv X pins σ H s) (h : SqL X.K H a xs) : ∃ its : List Value, Vals xs its /\ PlainL s.heap a its.toArray /\ xs.length <= sizeLine := by
 rcases h with h | ⟨o, its, n, hk, hc, hd, hs, hz, r⟩
 ·obtain ⟨z, its, n, r, e⟩ := h.ok I.hok
  exact ⟨its, r, ⟨_, n, e, rfl, rfl, rfl⟩, z⟩
 ·refine ⟨its.toList, r, ⟨o, n, I.kIn a o hk, hc, hd, by simpa using hs⟩, ?_⟩
  have e := r.length
  simp only [Array.length_toList] at e
  omega
theorem Inv.tuple (I : Inv X pins σ H s) (h : SqT X.K H a xs) : ∃ its : List Value, Vals xs its /\ IsTup s.heap a its.toArray /\ xs.length <= sizeLine := by
 rcases h with h | ⟨o, its, n, hk, hc, hs, hz, r⟩
 ·obtain ⟨z, its, r, p⟩ := h.ok I.hok
  exact ⟨its, r, p, z⟩
 ·refine ⟨its.toList, r, ⟨o, I.kIn a o hk, hc, n, by simpa using hs⟩, ?_⟩
  have e := r.length
  simp only [Array.length_toList] at e
  omega
theorem Inv.list_inj (I : Inv X pins σ H s) (h : SqL X.K H a xs) (h' : SqL X.K H a ys) : xs = ys := by
 obtain ⟨its, r, ⟨o, n, e, _, _, d⟩, _⟩ := I.list h
 obtain ⟨its', r', ⟨o', n', e', _, _, d'⟩, _⟩ := I.list h'
 rw [e] at e'; cases e'
 rw [d] at d'
 injection d' with d1 _
 have : its = its' := by simpa using congrArg Array.toList d1
 subst this
 exact r.inj r'
theorem Inv.tuple_inj (I : Inv X pins σ H s) (h : SqT X.K H a xs) (h' : SqT X.K H a ys) : xs = ys := by
 obtain ⟨its, r, ⟨o, e, _, n, d⟩, _⟩ := I.tuple h
 obtain ⟨its', r', ⟨o', e', _, n', d'⟩, _⟩ := I.tuple h'
 rw [e] at e'; cases e'
 rw [d] at d'
 injection d' with d1 _
 have : its = its' := by simpa using congrArg Array.toList d1
 subst this
 exact r.inj r'
end
abbrev Cx.wish (X : Cx) (E : Value -> Shared -> Prop) : Cx := { X with xe := E }
abbrev Cx.nox (X : Cx) : Cx := X.wish fun _ _ => False
theorem Cx.Ok.wish {X : Cx} (ok : X.Ok) (E : Value -> Shared -> Prop) : (X.wish E).Ok :=
 ⟨ok.mod, ok.kind, ok.glob, ok.blt, ok.above, ok.inj, ok.has, ok.cab, ok.hd, ok.frames, ok.stk, ok.exf, ok.bs, ok.bsz, ok.noex, ok.exfs, ok.funs, ok.frf⟩
theorem Cx.Ok.unwish {X : Cx} {E : Value -> Shared -> Prop} (ok : (X.wish E).Ok) : X.Ok :=
 ⟨ok.mod, ok.kind, ok.glob, ok.blt, ok.above, ok.inj, ok.has, ok.cab, ok.hd, ok.frames, ok.stk, ok.exf, ok.bs, ok.bsz, ok.noex, ok.exfs, ok.funs, ok.frf⟩
section
variable {X : Cx} {pins : List (Addr × Obj)} {σ : St} {H : Hp} {s : Shared} {E : Value -> Shared -> Prop}
theorem Inv.wish (I : Inv X pins σ H s) (E : Value -> Shared -> Prop) : Inv (X.wish E) pins σ H s := ⟨I.ok.wish E, I.os, I.bare, I.base, I.loc, I.cell, I.free, I.freeC, I.pin, I.hok, I.len⟩
theorem Inv.unwish (I : Inv (X.wish E) pins σ H s) : Inv X pins σ H s := ⟨I.ok.unwish, I.os, I.bare, I.base, I.loc, I.cell, I.free, I.freeC, I.pin, I.hok, I.len⟩
theorem SP.unwish {D : Ends} {f : Flow} {s' : Shared} (h : SP (X.wish E) pins D f s') : SP X pins D f s' := by
 cases f with
 | next => obtain ⟨σ', H', I, q⟩ := h; exact ⟨σ', H', I.unwish, q⟩
 | brk => obtain ⟨σ', H', I, q⟩ := h; exact ⟨σ', H', I.unwish, q⟩
 | cont => obtain ⟨σ', H', I, q⟩ := h; exact ⟨σ', H', I.unwish, q⟩
 | ret u => obtain ⟨v, σ', H', I, r, q⟩ := h; exact ⟨v, σ', H', I.unwish, r, q⟩
theorem PSs.nox {st : List Stmt} {t : TS} (h : PSs X.nox st t) : PSs X st t := fun pins s σ H D I hw =>
 wpAny_mono (h pins s σ H D (I.wish _) hw) (fun _ _ q => q.unwish) fun _ _ z => False.elim z
end
section
variable {X : Cx} {st : Stmt} {rest : List Stmt} {t u : TS} {e : Expr} {te : TE} {pos : Pos}
def tNext : TS := fun D σ H => D.nx σ H
def tSeq (t u : TS) : TS := fun D σ H => t { D with nx := u D } σ H
theorem pss_nil : PSs X [] tNext := fun _ _ σ H _ I h => wpAny_execs_nil ⟨σ, H, I, h⟩
theorem pss_cons (h1 : PS X st t) (h2 : PSs X rest u) : PSs X (st :: rest) (tSeq t u) := by
 intro pins s σ H D I h
 refine wpAny_execs_cons (thn (h1 pins s σ H { D with nx := u D } I h) fun f s1 q => ?_)
 cases f with
 | next =>
  obtain ⟨σ', H', I', q⟩ := q
  exact h2 pins s1 σ' H' D I' q
 | ret v => exact q
 | brk => exact q
 | cont => exact q
theorem pss_one (h1 : PS X st t) : PSs X [st] t := by
 intro pins s σ H D I h
 refine wpAny_execs_cons (thn (h1 pins s σ H D I h) fun f s1 q => ?_)
 cases f with
 | next => exact wpAny_execs_nil q
 | ret v => exact q
 | brk => exact q
 | cont => exact q
theorem Inv.quiet {pins : List (Addr × Obj)} {σ : St} {H : Hp} {s : Shared} (I : Inv X pins σ H s) : interactive X.env = false := by simp [interactive, I.ok.kind]
def tDrop (te : TE) : TS := fun D σ H => te σ H fun _ H1 => D.nx σ H1
theorem ps_expr (he : PE X e te) (hs : swapsWith e none pos.line X.env = pure false := by rfl) : PS X (.Expr e pos) (tDrop te) := by
 intro pins s σ H D I h
 exact wpAny_Expr_any (thn (he pins s σ H _ I h) fun v s1 ⟨x, H1, I1, r1, q1⟩ => ⟨σ, H1, I1, q1⟩) I.quiet hs
def tRet (te : TE) : TS := fun D σ H => te σ H D.rt
theorem ps_ret (he : PE X e te) : PS X (.Return (some e) pos) (tRet te) := by
 intro pins s σ H D I h
 exact wpAny_Return_some (thn (he pins s σ H _ I h) fun v s1 ⟨x, H1, I1, r1, q1⟩ => ⟨x, σ, H1, I1, r1, q1⟩)
def tIfS (c : TT) (t u : TS) : TS := fun D σ H => c σ H fun b H1 => if b = true then t D σ H1 else u D σ H1
theorem ps_if {c : Expr} {a b : List Stmt} {tc : TT} (hc : PT X c tc) (ha : PSs X a t) (hb : PSs X b u) : PS X (.If c a b pos) (tIfS tc t u) := by
 intro pins s σ H D I h
 refine wpAny_If (thn (hc pins s σ H _ I h) fun d s1 hpat => ?_)
 obtain ⟨H1, I1, q1⟩ := hpat
 cases d with
 | true => exact ha pins s1 σ H1 D I1 q1
 | false => exact hb pins s1 σ H1 D I1 q1
def tNever : TS := fun _ _ _ => False
theorem ps_never : PS X st tNever := fun _ _ _ _ _ _ h => h.elim
end
abbrev TG := V -> St -> Hp -> (St -> Hp -> Prop) -> Prop
abbrev TGs := List V -> St -> Hp -> (St -> Hp -> Prop) -> Prop
def PG (X : Cx) (target : Expr) (t : TG) : Prop :=
 ∀ (pins : List (Addr × Obj)) (s : Shared) (σ : St) (H : Hp) (v : V) (u : Value) (Q : St -> Hp -> Prop), Inv X pins σ H s -> RelV v u -> t v σ H Q ->
  wpAny (model X.prog X.w) X.A (assign target X.env u) (fun _ s' => ∃ σ' H', Inv X pins σ' H' s' /\ Q σ' H') X.xe s
def PGs (X : Cx) (ts : List Expr) (t : TGs) : Prop :=
 ∀ (pins : List (Addr × Obj)) (s : Shared) (σ : St) (H : Hp) (vs : List V) (us : List Value) (Q : St -> Hp -> Prop), Inv X pins σ H s -> Vals vs us -> t vs σ H Q ->
  wpAny (model X.prog X.w) X.A (assignInOrder ((assignEach ts X.env).map (·.2)) us) (fun _ s' => ∃ σ' H', Inv X pins σ' H' s' /\ Q σ' H') X.xe s
abbrev TSet := V -> V -> V -> Hp -> (Hp -> Prop) -> Prop
def PSet (X : Cx) (t : TSet) : Prop :=
 ∀ (pins : List (Addr × Obj)) (s : Shared) (σ : St) (H : Hp) (o i v : V) (ov iv u : Value) (Q : Hp -> Prop), Inv X pins σ H s -> RelV o ov -> RelV i iv -> RelV v u -> t o i v H Q ->
  wpAny (model X.prog X.w) X.A (setItem ov iv u) (fun _ s' => ∃ H', Inv X pins σ H' s' /\ Q H') X.xe s
abbrev TIp := V -> V -> Hp -> VK -> Prop
def PIp (X : Cx) (op : Operator) (t : TIp) : Prop :=
 ∀ (pins : List (Addr × Obj)) (s : Shared) (σ : St) (H : Hp) (x y : V) (v u : Value) (Q : VK), Inv X pins σ H s -> RelV x v -> RelV y u -> t x y H Q ->
  wpAny (model X.prog X.w) X.A (inplaceOp op v u) (EP X pins σ Q) X.xe s
section
variable {X : Cx} {pos : Pos}
def S8 (i : Nat) : TG := fun v σ H Q => Q (σ.set i (some v)) H
theorem y7 {i : Nat} {x : Str} (hN : X.N.Nodup) (hi : X.N[i]? = some x) (hx : Loc X.env.scope x) (hf : X.fn x = true \/ X.env.scope.names.lookup x = some .local := by first | exact .inl rfl | exact .inr rfl | assumption) : PG X (.Name x pos) (S8 i) := by
 intro pins s σ H v u Q I r h
 exact wpAny_assign_Name (store_ok I hN hi hx r (fun s' I' => ⟨_, H, I', h⟩) hf)
def gNil : TGs := fun vs σ H Q => vs = [] /\ Q σ H
def gCons (t : TG) (u : TGs) : TGs := fun vs σ H Q => ∃ v r, vs = v :: r /\ t v σ H fun σ' H' => u r σ' H' Q
theorem T0 : PGs X [] gNil := by
 intro pins s σ H vs us Q I r h
 obtain ⟨e, h⟩ := h
 subst e
 cases r
 exact assignInOrder_nil ⟨σ, H, I, h⟩
theorem m8 {e : Expr} {es : List Expr} {t : TG} {u : TGs} (h1 : PG X e t) (h2 : PGs X es u)
  (hs : (assignEach (e :: es) X.env).map (·.2) = assign e X.env :: (assignEach es X.env).map (·.2) := by rfl) : PGs X (e :: es) (gCons t u) := by
 intro pins s σ H vs us Q I r h
 obtain ⟨v, vr, e1, h⟩ := h
 subst e1
 cases r with
 | cons r rr =>
  rw [hs]
  refine assignInOrder_cons (thn (h1 pins s σ H _ _ _ I r h) fun _ s1 hpat => ?_)
  obtain ⟨σ1, H1, I1, q1⟩ := hpat
  exact h2 pins s1 σ1 H1 _ _ Q I1 rr q1
def gTup (K : W.Frag) (n : Nat) (t : TGs) : TG := fun v σ H Q => ∃ a xs, v = .ref a /\ SqT K H a xs /\ xs.length = n /\ t xs σ H Q
theorem L3 {es : List Expr} {k : Nat} {t : TGs} {n : Nat} (hc : X.calm = true) (h : PGs X es t)
  (hn : (assignEach es X.env).length = n := by rfl) (hst : (assignEach es X.env).findIdx? (·.1) = none := by rfl) : PG X (.Tuple es k pos) (gTup X.K n t) := by
 intro pins s σ H v u Q I r hw
 obtain ⟨a, xs, e1, hq, hl, hw⟩ := hw
 subst e1
 cases r
 obtain ⟨its, rv, ht, hz⟩ := I.tuple hq
 refine assign_Tuple_tuple (I.ok.hd hc) ht (by simp [hn, <- hl, rv.length]) hst fun h' hx => ?_
 have I1 : Inv X pins σ H { s with heap := h' } := I.kept (t' := s.toks) fun b o e => hx b o (Nat.ne_of_lt (Heap.lt_size e)) e
 exact h pins _ σ H xs _ Q I1 (by simpa using rv) hw
def gSub (to ti : TE) (t : TSet) : TG := fun v σ H Q => to σ H fun o H1 => ti σ H1 fun i H2 => t o i v H2 fun H3 => Q σ H3
theorem pg_sub {o i : Expr} {to ti : TE} {t : TSet} (ho : PE X o to) (hi : PE X i ti) (hs : PSet X t)
  (ha : ∀ v, assign (.Subscript o i pos) X.env v = (do
   let ov ← holding [v] (eval o X.env)
   let iv ← holding [v, ov] (eval i X.env)
   standAt pos
   holding [v, ov, iv] (setItem ov iv v)
   release [v, ov, iv] []) := by intro _; rfl) : PG X (.Subscript o i pos) (gSub to ti t) := by
 intro pins s σ H v u Q I r h
 rw [ha]
 refine wpAny_bind (wpAny_holding (thn (ho pins s σ H _ I h) fun ov s1 hpat => ?_))
 obtain ⟨x, H1, I1, r1, q1⟩ := hpat
 refine wpAny_bind (wpAny_holding (thn (hi pins s1 σ H1 _ I1 q1) fun iv s2 hpat => ?_))
 obtain ⟨y, H2, I2, r2, q2⟩ := hpat
 refine wpAny_bind (wpAny_standAt (wpAny_bind (wpAny_holding (thn (hs pins s2 σ H2 x y v ov iv u _ I2 r1 r2 r q2) fun _ s3 hpat => ?_))))
 obtain ⟨H3, I3, q3⟩ := hpat
 exact wpAny_release ⟨σ, H3, I3, q3⟩
def tAsg (te : TE) (g : TG) : TS := fun D σ H => te σ H fun x H1 => g x σ H1 D.nx
theorem ps_asg {tg e : Expr} {te : TE} {g : TG} (he : PE X e te) (hg : PG X tg g) (hs : swapsWithSole [tg] e pos.line X.env = pure false := by rfl) (hw : swappedStores [tg] e X.env = pure none := by rfl)
  (h1 : (assignEach [tg] X.env).map (·.2) = [assign tg X.env] := by rfl) : PS X (.Assign [tg] e pos) (tAsg te g) := by
 intro pins s σ H D I h
 refine wpAny_Assign_stores (thn (he pins s σ H _ I h) fun v s1 hpat => ?_) hs hw
 obtain ⟨x, H1, I1, r1, q1⟩ := hpat
 rw [h1]
 exact thn (hg pins s1 σ H1 x v _ I1 r1 q1) fun _ s2 q => q
theorem ps_set {i : Nat} {x : Str} {e : Expr} {te : TE} {pos' : Pos} (hN : X.N.Nodup) (hi : X.N[i]? = some x) (hx : Loc X.env.scope x) (he : PE X e te) (hs : swapsWith e (some (.Name x pos')) pos.line X.env = pure false := by rfl) (hf : X.fn x = true \/ X.env.scope.names.lookup x = some .local := by first | exact .inl rfl | exact .inr rfl | assumption) :
  PS X (.Assign [.Name x pos'] e pos) (tAsg te (S8 i)) := by
 intro pins s σ H D I h
 refine wpAny_Assign_Name (thn (he pins s σ H _ I h) fun v s1 hpat => ?_) hs
 obtain ⟨y, H1, I1, r1, q1⟩ := hpat
 exact store_ok I1 hN hi hx r1 (fun s2 I2 => ⟨_, H1, I2, q1⟩) hf
def tAugS (to ti te : TE) (tget : V -> V -> Hp -> VK -> Prop) (tip : TIp) (tset : TSet) : TS := fun D σ H => to σ H fun o H1 => ti σ H1 fun i H2 => tget o i H2 fun x H3 => te σ H3 fun y H4 => tip x y H4 fun z H5 => tset o i z H5 fun H6 => D.nx σ H6
def PGet (X : Cx) (t : V -> V -> Hp -> VK -> Prop) : Prop :=
 ∀ (pins : List (Addr × Obj)) (s : Shared) (σ : St) (H : Hp) (o i : V) (ov iv : Value) (Q : VK), Inv X pins σ H s -> RelV o ov -> RelV i iv -> t o i H Q ->
  wpAny (model X.prog X.w) X.A (getItem ov iv) (EP X pins σ Q) X.xe s
theorem ps_augS {o i e : Expr} {to ti te : TE} {tget : V -> V -> Hp -> VK -> Prop} {tip : TIp} {tset : TSet} {op : Operator} {tpos : Pos} (ho : PE X o to) (hi : PE X i ti) (hg : PGet X tget) (he : PE X e te) (hp : PIp X op tip) (hs : PSet X tset)
  (ha : ∀ ov iv new, augStore i ov iv new = (do holding [new, ov, iv] (setItem ov iv new); release [new, ov, iv] []; pure .next) := by intros; rfl) : PS X (.AugAssign (.Subscript o i tpos) op e pos) (tAugS to ti te tget tip tset) := by
 intro pins s σ H D I h
 refine wpAny_AugAssign_SubscriptAny (thn (ho pins s σ H _ I h) fun ov s1 hpat => ?_) ha
 obtain ⟨x1, H1, I1, r1, q1⟩ := hpat
 refine thn (hi pins s1 σ H1 _ I1 q1) fun iv s2 hpat => ?_
 obtain ⟨x2, H2, I2, r2, q2⟩ := hpat
 refine thn (hg pins s2 σ H2 x1 x2 ov iv _ I2 r1 r2 q2) fun old s3 hpat => ?_
 obtain ⟨x3, H3, I3, r3, q3⟩ := hpat
 refine thn (he pins s3 σ H3 _ I3 q3) fun v s4 hpat => ?_
 obtain ⟨x4, H4, I4, r4, q4⟩ := hpat
 refine thn (hp pins s4 σ H4 x3 x4 old v _ I4 r3 r4 q4) fun new s5 hpat => ?_
 obtain ⟨x5, H5, I5, r5, q5⟩ := hpat
 exact thn (hs pins s5 σ H5 x1 x2 x5 ov iv new _ I5 r1 r2 r5 q5) fun _ s6 ⟨H6, I6, q6⟩ => ⟨σ, H6, I6, q6⟩
def ipI (f : Int -> Int -> Int) : TIp := fun x y H Q => ∃ i j, x = .int i /\ y = .int j /\ Q (.int (f i j)) H
theorem ip_add : PIp X .Add (ipI fun i j => i + j) := by
 intro pins s σ H x y v u Q I r1 r2 h
 obtain ⟨i, j, e1, e2, q⟩ := h
 subst e1; subst e2
 obtain ⟨t, rfl⟩ := r1
 obtain ⟨t', rfl⟩ := r2
 exact iadd_int ⟨.int _, H, I.tok _, ⟨_, rfl⟩, q⟩
end
section
variable {X : Cx} {pos : Pos}
def tWhile (c : TT) (tb : TS) : TS := fun D σ H => ∃ W : Nat -> St -> Hp -> Prop, (∃ m, W m σ H) /\ ∀ m σ H, W m σ H ->
 c σ H fun b H1 => if b = true then ∃ N : St -> Hp -> Prop, (∀ σ' H', N σ' H' -> ∃ m', m' < m /\ W m' σ' H') /\ tb { D with nx := N, ct := N, bk := D.nx } σ H1 else D.nx σ H1
theorem ps_while {c : Expr} {body : List Stmt} {tc : TT} {tb : TS} (hp : PassesOwn (model X.prog X.w) X.A X.env X.xe) (hc : PT X c tc) (hb : PSs X body tb) : PS X (.While c body [] pos) (tWhile tc tb) := by
 intro pins s σ H D I h
 obtain ⟨W, ⟨m0, w0⟩, turn⟩ := h
 refine wpAny_While (codeAny_whileLoop (fun n s' => ∃ σ' H', Inv X pins σ' H' s' /\ W n σ' H') ?_ m0 ⟨σ, H, I, w0⟩)
 rintro n s1 ⟨σ1, H1, I1, w1⟩
 refine wpAny_passesOwn hp (thn (hc pins s1 σ1 H1 _ I1 (turn n σ1 H1 w1)) fun b s2 hpat => ?_)
 obtain ⟨H2, I2, q2⟩ := hpat
 cases b with
 | true =>
  obtain ⟨N, hN, q2⟩ := q2
  rw [if_pos rfl]
  refine wpAny_passesOwn hp (thn (hb pins s2 σ1 H2 _ I2 q2) fun f s3 q3 => ?_)
  cases f with
  | next =>
   obtain ⟨σ3, H3, I3, n3⟩ := q3
   obtain ⟨m', hm, w3⟩ := hN σ3 H3 n3
   exact ⟨m', hm, σ3, H3, I3, w3⟩
  | cont =>
   obtain ⟨σ3, H3, I3, n3⟩ := q3
   obtain ⟨m', hm, w3⟩ := hN σ3 H3 n3
   exact ⟨m', hm, σ3, H3, I3, w3⟩
  | brk => exact q3
  | ret v => exact q3
 | false =>
  rw [if_neg Bool.false_ne_true]
  exact wpAny_execs_nil ⟨σ1, H2, I2, q2⟩
end
structure It where
 go : Nat -> Hp -> Prop
 yld : Nat -> Hp -> V -> Hp -> Prop
 stop : Nat -> Hp -> Prop
def FpOk (X : Cx) (pins : List (Addr × Obj)) (H : Hp) (b : Addr) : Prop :=
 H b = none /\ b ≠ X.env.locals /\ b ∉ X.fs /\ (b ∈ X.ex \/ X.s₀.heap.objs.size <= b) /\ (∀ x c, X.env.cells.lookup x = some c -> c ≠ b) /\ ∀ p ∈ X.pn ++ pins, p.1 ≠ b
theorem Inv.fpOk {X : Cx} {pins : List (Addr × Obj)} {σ : St} {H H' : Hp} {s : Shared} {b : Addr} (I : Inv X pins σ H s) (hb : s.heap.objs.size <= b) (hn : H' b = none) : FpOk X pins H' b := by
 refine ⟨hn, Nat.ne_of_gt (Nat.lt_of_lt_of_le I.lt hb), I.nofs hb, .inr (Nat.le_trans I.sz hb), fun x c e z => ?_, fun p hp z => ?_⟩
 ·obtain ⟨v, q⟩ := I.cell x c e
  exact absurd (Nat.lt_of_lt_of_le q.lt (by rw [z]; exact hb)) (Nat.lt_irrefl _)
 ·exact absurd (Nat.lt_of_lt_of_le (Heap.lt_size (I.pin p hp).1) (by rw [z]; exact hb)) (Nat.lt_irrefl _)
structure Turn (P : Program) (w : World) (K : W.Frag) (tg : Expr) (J : It) (fp : List Addr) (it : Addr) (tn : Nat -> Heap -> Prop) : Prop where
 mem : it ∈ fp
 obj : ∀ i h, tn i h -> ∀ b ∈ fp, ∃ o, h.get? b = some o /\ ∀ v, o.data ≠ .cell v
 keep : ∀ i h h', tn i h -> (∀ b ∈ fp, ∀ o, h.get? b = some o -> h'.get? b = some o) -> tn i h'
 item : ∀ (X : Cx), X.prog = P -> X.w = w -> X.K = K -> X.calm = true -> ∀ (i : Nat) (pins : List (Addr × Obj)) (s : Shared) (σ : St) (H : Hp) (E : Value -> Shared -> Prop), Inv X pins σ H s -> (∀ b ∈ fp, FpOk X pins H b) -> tn i s.heap -> J.go i H ->
  wpAny (model P w) X.A (pyNext (.ref it)) (fun r s1 => ∃ u, r = some u /\
   wpAny (model P w) X.A (letOwnedTupleGo tg (.ref it) u) (fun _ s2 => ∃ x H', Inv X pins σ H' s2 /\ RelV x u /\ J.yld i H x H' /\ tn (i + 1) s2.heap /\ ∀ b ∈ fp, H' b = none) E s1) E s
 done : ∀ (X : Cx), X.prog = P -> X.w = w -> X.K = K -> X.calm = true -> ∀ (i : Nat) (pins : List (Addr × Obj)) (s : Shared) (σ : St) (H : Hp) (E : Value -> Shared -> Prop), Inv X pins σ H s -> (∀ b ∈ fp, FpOk X pins H b) -> tn i s.heap -> J.stop i H ->
  wpAny (model P w) X.A (pyNext (.ref it)) (fun r s1 => r = none /\ Inv X pins σ H s1) E s
 self : ∀ (A : Around) (i : Nat) (s : Shared) (Q : Value -> Shared -> Prop) (E : Value -> Shared -> Prop), tn i s.heap -> Q (.ref it) s -> wpAny (model P w) A (pyIter (.ref it)) Q E s
abbrev TI := St -> Hp -> (It -> Hp -> Prop) -> Prop
def PIE (X : Cx) (pins : List (Addr × Obj)) (σ : St) (tg : Expr) (R : It -> Hp -> Prop) (itv : Value) (s2 : Shared) : Prop :=
 ∃ (it : Addr) (fp : List Addr) (tn : Nat -> Heap -> Prop) (J : It) (H' : Hp), itv = .ref it /\ Inv X pins σ H' s2 /\ Turn X.prog X.w X.K tg J fp it tn /\ tn 0 s2.heap /\ (∀ b ∈ fp, FpOk X pins H' b) /\ R J H'
def PI (X : Cx) (tg iter : Expr) (wi : TI) : Prop :=
 ∀ (pins : List (Addr × Obj)) (s : Shared) (σ : St) (H : Hp) (R : It -> Hp -> Prop), Inv X pins σ H s -> wi σ H R ->
  wpAny (model X.prog X.w) X.A (eval iter X.env) (fun v s1 => wpAny (model X.prog X.w) X.A (pyIter v) (PIE X pins σ tg R) X.xe s1) X.xe s
theorem go_of {M : Model} {A : Around} {E : Value -> Shared -> Prop} {s : Shared} {tg : Expr} {it : Addr} {u : Value} {o : Obj} {n : String} {vs : Array Value} {Q : Unit -> Shared -> Prop} (ho : s.heap.get? it = some o) (hc : o.cls = .type n) (hd : o.data = .fields vs)
  (hn : ["enumerate", "zip", "dict_itemiterator", "dict_reverseitemiterator", "odict_iterator", "itertools.zip_longest", "itertools.pairwise"].contains n = false) (hQ : Q () s) : wpAny M A (letOwnedTupleGo tg (.ref it) u) Q E s := by
 unfold letOwnedTupleGo
 cases tg <;> first
  | exact wpAny_pure hQ
  | (cases u <;> first
    | exact wpAny_pure hQ
    | (refine wpAny_bind (wpAny_load ho ?_)
       rw [hc, hd]
       show wpAny M A (if (["enumerate", "zip", "dict_itemiterator", "dict_reverseitemiterator", "odict_iterator", "itertools.zip_longest", "itertools.pairwise"].contains n && vs[0]? == some (rawInt _)) = true then _ else _) Q E s
       rw [if_neg (by intro h; rw [hn, Bool.false_and] at h; cases h)]
       exact wpAny_pure hQ))
def Itl (K : W.Frag) (a : Addr) : It :=
 ⟨fun i H => ∃ xs x, SqL K H a xs /\ xs[i]? = some x, fun i H x H' => H' = H /\ ∀ xs, SqL K H a xs -> xs[i]? = some x, fun i H => ∃ xs, SqL K H a xs /\ xs.length <= i⟩
def Itt (K : W.Frag) (a : Addr) : It :=
 ⟨fun i H => ∃ xs x, SqT K H a xs /\ xs[i]? = some x, fun i H x H' => H' = H /\ ∀ xs, SqT K H a xs -> xs[i]? = some x, fun i H => ∃ xs, SqT K H a xs /\ xs.length <= i⟩
def Itr (lo : Int) (n : Nat) : It := ⟨fun i _ => i < n, fun i H x H' => H' = H /\ x = .int (lo + i), fun i _ => n <= i⟩
theorem turn_list {P : Program} {w : World} {K : W.Frag} {tg : Expr} (a it : Addr) : Turn P w K tg (Itl K a) [it] it (fun i h => h.IsListIter it a i) where
 mem := by simp
 obj := fun i h st b hb => by
  have e : b = it := by simpa using hb
  subst e
  obtain ⟨o, e, c, d⟩ := st
  exact ⟨o, e, fun v z => by rw [d] at z; cases z⟩
 keep := fun i h h' st k => st.at fun o e => k it (by simp) o e
 item := by
  intro X hP hw hK hc i pins s σ H E I hf st hg
  subst hP hw hK
  obtain ⟨xs, x, hq, hx⟩ := hg
  obtain ⟨its, rv, p, hz⟩ := I.list hq
  obtain ⟨u, hu, ru⟩ := rv.get hx
  obtain ⟨f0, f1, f2, f3, f4, f5⟩ := hf it (by simp)
  refine wpAny_pyNext_list_item st p.isList (x := u) (by simpa using hu) fun h' st' sb => ?_
  have I1 : Inv X pins σ H { s with heap := h' } := I.turned (t' := s.toks) (fun b o hb e => (sb.2 b hb).trans e) f0 f1 f3 f4 f5
  obtain ⟨o, e, c, d⟩ := id st'
  exact ⟨u, rfl, go_of (s := { s with heap := h' }) e c d (by decide) ⟨x, H, I1, ru, ⟨rfl, fun ys hy => by rw [I.list_inj hy hq]; exact hx⟩, st', fun b hb => (hf b hb).1⟩⟩
 done := by
  intro X hP hw hK hc i pins s σ H E I hf st hg
  subst hP hw hK
  obtain ⟨xs, hq, hx⟩ := hg
  obtain ⟨its, rv, p, hz⟩ := I.list hq
  obtain ⟨f0, f1, f2, f3, f4, f5⟩ := hf it (by simp)
  have hl := rv.length
  exact wpAny_pyNext_list_end (I.ok.hd hc) st p.isList (by simp; omega) fun h' eb => ⟨rfl, I.turned (t' := s.toks) (fun b o hb e => eb b o hb e) f0 f1 f3 f4 f5⟩
 self := fun _ _ _ _ _ st h => wpAny_pyIter_listiter st h
theorem turn_tuple {P : Program} {w : World} {K : W.Frag} {tg : Expr} (a it : Addr) : Turn P w K tg (Itt K a) [it] it (fun i h => h.IsTupleIter it a i) where
 mem := by simp
 obj := fun i h st b hb => by
  have e : b = it := by simpa using hb
  subst e
  obtain ⟨o, e, c, d⟩ := st
  exact ⟨o, e, fun v z => by rw [d] at z; cases z⟩
 keep := fun i h h' st k => st.at fun o e => k it (by simp) o e
 item := by
  intro X hP hw hK hc i pins s σ H E I hf st hg
  subst hP hw hK
  obtain ⟨xs, x, hq, hx⟩ := hg
  obtain ⟨its, rv, p, hz⟩ := I.tuple hq
  obtain ⟨u, hu, ru⟩ := rv.get hx
  obtain ⟨f0, f1, f2, f3, f4, f5⟩ := hf it (by simp)
  refine wpAny_pyNext_tuple_item st (show s.heap.IsTuple a its.toArray from p) (x := u) (by simpa using hu) fun h' st' sb => ?_
  have I1 : Inv X pins σ H { s with heap := h' } := I.turned (t' := s.toks) (fun b o hb e => (sb.2 b hb).trans e) f0 f1 f3 f4 f5
  obtain ⟨o, e, c, d⟩ := id st'
  exact ⟨u, rfl, go_of (s := { s with heap := h' }) e c d (by decide) ⟨x, H, I1, ru, ⟨rfl, fun ys hy => by rw [I.tuple_inj hy hq]; exact hx⟩, st', fun b hb => (hf b hb).1⟩⟩
 done := by
  intro X hP hw hK hc i pins s σ H E I hf st hg
  subst hP hw hK
  obtain ⟨xs, hq, hx⟩ := hg
  obtain ⟨its, rv, p, hz⟩ := I.tuple hq
  obtain ⟨f0, f1, f2, f3, f4, f5⟩ := hf it (by simp)
  have hl := rv.length
  exact wpAny_pyNext_tuple_end (I.ok.hd hc) st (show s.heap.IsTuple a its.toArray from p) (by simp; omega) fun h' eb => ⟨rfl, I.turned (t' := s.toks) (fun b o hb e => eb b o hb e) f0 f1 f3 f4 f5⟩
 self := fun _ _ _ _ _ st h => wpAny_pyIter_tupleiter st h
theorem turn_range {P : Program} {w : World} {K : PySem.W.Frag} {tg : Expr} (it : Addr) (lo : Int) (n : Nat) : Turn P w K tg (Itr lo n) [it] it (fun i h => IsRangeIter h it (lo + (i : Nat) * 1) ((n : Int) - (i : Nat)) 1) where
 mem := by simp
 obj := fun i h st b hb => by
  have e : b = it := by simpa using hb
  subst e
  exact ⟨_, st, fun v z => by
   have z' : Data.fields _ = Data.cell v := z
   cases z'⟩
 keep := fun i h h' st k => k it (by simp) _ st
 item := by
  intro X hP hw hK hc i pins s σ H E I hf st hg
  subst hP hw hK
  obtain ⟨f0, f1, f2, f3, f4, f5⟩ := hf it (by simp)
  have W := Walks.range (prog := X.prog) (w := X.w) (I.ok.hd hc) it lo 1 n
  refine W.item i s _ _ hg st fun v h' tk hv st' kk => ?_
  obtain ⟨t, rfl⟩ := hv
  have I1 : Inv X pins σ H { s with heap := h', toks := tk } := I.turned (fun b o hb e => kk b o (by simpa using hb) e) f0 f1 f3 f4 f5
  refine ⟨_, rfl, go_of (s := { s with heap := h', toks := tk }) (n := "range_iterator") st' rfl rfl (by decide) ⟨.int (lo + i), H, I1, ⟨t, ?_⟩, ⟨rfl, rfl⟩, st', fun b hb => (hf b hb).1⟩⟩
  rw [Int.mul_one]
 done := by
  intro X hP hw hK hc i pins s σ H E I hf st hg
  subst hP hw hK
  obtain ⟨f0, f1, f2, f3, f4, f5⟩ := hf it (by simp)
  exact wpAny_pyNext_range_end (I.ok.hd hc) st (by have : n <= i := hg; omega) fun h' eb => ⟨rfl, I.turned (t' := s.toks) (fun b o hb e => eb b o hb e) f0 f1 f3 f4 f5⟩
 self := fun _ _ _ _ _ st h => wpAny_pyIter_rangeiter st h
end
section
section
variable {X : Cx} {tg : Expr}
def iList (K : W.Frag) (tl : TE) : TI := fun σ H R => tl σ H fun x H1 => ∃ a, x = .ref a /\ (∃ xs, SqL K H1 a xs) /\ R (Itl K a) H1
def iTup (K : W.Frag) (tl : TE) : TI := fun σ H R => tl σ H fun x H1 => ∃ a, x = .ref a /\ (∃ xs, SqT K H1 a xs) /\ R (Itt K a) H1
theorem pi_list {l : Expr} {tl : TE} (hl : PE X l tl) : PI X tg l (iList X.K tl) := by
 intro pins s σ H R I h
 refine thn (hl pins s σ H _ I h) fun v s1 hpat => ?_
 obtain ⟨x, H1, I1, r1, q1⟩ := hpat
 obtain ⟨a, e, ⟨xs, hq⟩, q⟩ := q1
 subst e
 cases r1
 obtain ⟨its, rv, p, hz⟩ := I1.list hq
 refine wpAny_pyIter_list p.isList ?_
 refine ⟨s1.heap.objs.size, [s1.heap.objs.size], _, _, H1, rfl, I1.kept (t' := s1.toks) fun b o e => Heap.get?_push_of_some _ e, turn_list a _, ⟨_, Heap.get?_push_size _ rfl, rfl, rfl⟩, fun b hb => ?_, q⟩
 have e : b = s1.heap.objs.size := by simpa using hb
 subst e
 exact I1.fpOk (Nat.le_refl _) (I1.hok.fresh (Nat.le_refl _))
theorem pi_tup {l : Expr} {tl : TE} (hl : PE X l tl) : PI X tg l (iTup X.K tl) := by
 intro pins s σ H R I h
 refine thn (hl pins s σ H _ I h) fun v s1 hpat => ?_
 obtain ⟨x, H1, I1, r1, q1⟩ := hpat
 obtain ⟨a, e, ⟨xs, hq⟩, q⟩ := q1
 subst e
 cases r1
 obtain ⟨its, rv, p, hz⟩ := I1.tuple hq
 refine wpAny_pyIter_tuple (show s1.heap.IsTuple a its.toArray from p) ?_
 refine ⟨s1.heap.objs.size, [s1.heap.objs.size], _, _, H1, rfl, I1.kept (t' := s1.toks) fun b o e => Heap.get?_push_of_some _ e, turn_tuple a _, ⟨_, Heap.get?_push_size _ rfl, rfl, rfl⟩, fun b hb => ?_, q⟩
 have e : b = s1.heap.objs.size := by simpa using hb
 subst e
 exact I1.fpOk (Nat.le_refl _) (I1.hok.fresh (Nat.le_refl _))
theorem range_it {pins : List (Addr × Obj)} {σ : St} {H : Hp} {s : Shared} {R : It -> Hp -> Prop} {E : Value -> Shared -> Prop} {lo hi : Int} {t u v : Tok} {tk : Nat} (I : Inv X pins σ H s) (h1 : -(2 ^ 62) <= lo) (h2 : lo < 2 ^ 62) (h3 : -(2 ^ 62) <= hi) (h4 : hi < 2 ^ 62)
  (q : R (Itr lo (hi - lo).toNat) H) : wpAny (model X.prog X.w) X.A (pyIter (.ref s.heap.objs.size)) (PIE X pins σ tg R) E { s with heap := s.heap.push { cls := .type "range", data := .fields #[.int lo t, .int hi u, .int 1 v] }, toks := tk } := by
 refine wpAny_pyIter_range (IsRange.new ..) (small_one h1 h2 h3 h4) ?_
 have I1 : Inv X pins σ H { s with heap := s.heap.push { cls := .type "range", data := .fields #[.int lo t, .int hi u, .int 1 v] }, toks := tk } := I.kept fun b o e => Heap.get?_push_of_some _ e
 refine ⟨(s.heap.push { cls := .type "range", data := .fields #[.int lo t, .int hi u, .int 1 v] }).objs.size, [(s.heap.push { cls := .type "range", data := .fields #[.int lo t, .int hi u, .int 1 v] }).objs.size], _, _, H, rfl,
  I1.kept (t' := tk) fun b o e => Heap.get?_push_of_some _ e, turn_range _ lo (hi - lo).toNat, ?_, fun b hb => ?_, q⟩
 ·have e1 : lo + ((0 : Nat) : Int) * 1 = lo := by simp
  have e2 : (((hi - lo).toNat : Nat) : Int) - ((0 : Nat) : Int) = Builtin.Range.rangeSize lo hi 1 := by rw [rangeSize_one]; split <;> omega
  show IsRangeIter _ _ (lo + ((0 : Nat) : Int) * 1) ((((hi - lo).toNat : Nat) : Int) - ((0 : Nat) : Int)) 1
  rw [e1, e2]
  exact Heap.get?_push_size _ rfl
 ·have e : b = (s.heap.push { cls := .type "range", data := .fields #[.int lo t, .int hi u, .int 1 v] }).objs.size := by simpa using hb
  subst e
  exact I1.fpOk (Nat.le_refl _) (I1.hok.fresh (Nat.le_refl _))
def iRng1 (ta : TA) : TI := fun σ H R => ta σ H fun vs H1 => ∃ j : Int, vs = [.int j] /\ -(2 ^ 62) <= j /\ j < 2 ^ 62 /\ R (Itr 0 j.toNat) H1
def iRng2 (ta : TA) : TI := fun σ H R => ta σ H fun vs H1 => ∃ i j : Int, vs = [.int i, .int j] /\ (-(2 ^ 62) <= i /\ i < 2 ^ 62 /\ -(2 ^ 62) <= j /\ j < 2 ^ 62) /\ R (Itr i (j - i).toNat) H1
theorem pi_range1 {a : Expr} {ta : TA} {p pos : Pos} (hg : Gl X "range") (hm : X.mg "range" = none) (ha : PA X [a] ta) (hs : starEach [a] X.env = [(false, eval a X.env)] := by rfl) : PI X tg (.Call (.Name "range" p) [a] [] pos) (iRng1 ta) := by
 intro pins s σ H R I h
 refine Call_ (X3 I hg hm boot_range (PyProof.Rows.callWith_type1 (thn (ha pos pins s σ H _ I h) fun us s1 hpat => ?_) hs rfl))
 obtain ⟨vs, H1, I1, r1, q1⟩ := hpat
 obtain ⟨j, e, q1, q2, q⟩ := q1
 subst e
 cases r1 with
 | cons r rr =>
  cases rr
  obtain ⟨t, rfl⟩ := r
  exact call_range_1 (range_it I1 (by omega) (by omega) q1 q2 (by simpa using q))
theorem pi_range2 {a b : Expr} {ta : TA} {p pos : Pos} (hg : Gl X "range") (hm : X.mg "range" = none) (ha : PA X [a, b] ta) (hs : starEach [a, b] X.env = [(false, eval a X.env), (false, eval b X.env)] := by rfl) (hs2 : starEach [b] X.env = [(false, eval b X.env)] := by rfl) :
  PI X tg (.Call (.Name "range" p) [a, b] [] pos) (iRng2 ta) := by
 intro pins s σ H R I h
 refine Call_ (X3 I hg hm boot_range (PyProof.Rows.callWith_type1 (thn (ha pos pins s σ H _ I h) fun us s1 hpat => ?_) (by rw [hs, hs2]) (by rw [hs2]; rfl)))
 obtain ⟨vs, H1, I1, r1, q1⟩ := hpat
 obtain ⟨i, j, e, ⟨q1, q2, q3, q4⟩, q⟩ := q1
 subst e
 cases r1 with
 | cons r rr =>
  cases rr with
  | cons r' rr =>
   cases rr
   obtain ⟨t, rfl⟩ := r
   obtain ⟨t', rfl⟩ := r'
   exact call_range_2 (range_it I1 q1 q2 q3 q4 q)
def tFor (wi : TI) (g : TG) (tb : TS) : TS := fun D σ H => wi σ H fun J H1 => ∃ W : Nat -> Nat -> St -> Hp -> Prop, (∃ m, W 0 m σ H1) /\ ∀ i m σ H, W i m σ H ->
 (J.stop i H /\ D.nx σ H) \/ (J.go i H /\ ∃ N : St -> Hp -> Prop, (∀ σ' H', N σ' H' -> ∃ m', m' < m /\ W (i + 1) m' σ' H') /\ ∀ x H', J.yld i H x H' -> g x σ H' fun σ2 H2 => tb { D with nx := N, ct := N, bk := D.nx } σ2 H2)
def P4 (fp : List Addr) (h : Heap) : List (Addr × Obj) := fp.filterMap fun b => (h.get? b).map fun o => (b, o)
theorem m5 {fp : List Addr} {h : Heap} {b : Addr} {o : Obj} (hb : b ∈ fp) (e : h.get? b = some o) : (b, o) ∈ P4 fp h := List.mem_filterMap.mpr ⟨b, hb, by rw [e]; rfl⟩
theorem of_pinsAt {fp : List Addr} {h : Heap} {p : Addr × Obj} (hp : p ∈ P4 fp h) : p.1 ∈ fp /\ h.get? p.1 = some p.2 := by
 obtain ⟨b, hb, e⟩ := List.mem_filterMap.mp hp
 cases q : h.get? b with
 | none => rw [q] at e; cases e
 | some o =>
  rw [q] at e
  have e' : (b, o) = p := Option.some.inj e
  subst e'
  exact ⟨hb, q⟩
theorem Inv.pinned {pins : List (Addr × Obj)} {σ : St} {H : Hp} {s : Shared} {fp : List Addr} (I : Inv X pins σ H s) (hf : ∀ b ∈ fp, FpOk X pins H b) (ho : ∀ b ∈ fp, ∃ o, s.heap.get? b = some o /\ ∀ v, o.data ≠ .cell v) : Inv X (pins ++ P4 fp s.heap) σ H s :=
 I.pins_of fun p hp => (List.mem_append.mp hp).elim (fun z => I.pin p (mem_append_right _ z)) fun z => by
  obtain ⟨hb, e⟩ := of_pinsAt z
  obtain ⟨f0, f1, f2, _⟩ := hf p.1 hb
  obtain ⟨o, e', d⟩ := ho p.1 hb
  rw [e] at e'; cases e'
  exact ⟨e, f0, f1, f2, d⟩
theorem Inv.unpinned {pins pl : List (Addr × Obj)} {σ : St} {H : Hp} {s : Shared} (I : Inv X (pins ++ pl) σ H s) : Inv X pins σ H s := I.pins_of fun p hp => I.pin p (mem_append_right _ (mem_append_left _ hp))
theorem ps_for {iter : Expr} {body : List Stmt} {wi : TI} {g : TG} {tb : TS} {pos : Pos} (hp : PassesOwn (model X.prog X.w) X.A X.env X.xe) (hc : X.calm = true) (hi : PI X tg iter wi) (hg : PG X tg g) (hb : PSs X body tb)
  (hs : ∀ x, foldedSetIterable iter X.env x = pure x := by intro _; rfl) : PS X (.For tg iter body [] pos) (tFor wi g tb) := by
 intro pins s σ H D I h
 refine wpAny_For (thn (hi pins s σ H _ I h) fun v s1 h1 => thn h1 fun itv s2 h2 => ?_) hs
 obtain ⟨it, fp, tn, J, H2, e, I2, T, st2, f2, W, ⟨m0, w0⟩, turn⟩ := h2
 subst e
 have stat : ∀ {H' : Hp}, (∀ b ∈ fp, H' b = none) -> ∀ b ∈ fp, FpOk X pins H' b := fun hn b hb => ⟨hn b hb, (f2 b hb).2⟩
 refine codeAny_forLoop_any (fun n s' => ∃ i σ' H', Inv X pins σ' H' s' /\ tn i s'.heap /\ (∀ b ∈ fp, H' b = none) /\ W i n σ' H') ?_ m0 ⟨0, σ, H2, I2, st2, fun b hb => (f2 b hb).1, w0⟩
 rintro n s3 ⟨i, σ3, H3, I3, st3, fr3, w3⟩
 rcases turn i n σ3 H3 w3 with ⟨stop, qn⟩ | ⟨go, N, hN, step⟩
 ·refine wpAny_passesOwn hp (thn (T.done X rfl rfl rfl hc i pins s3 σ3 H3 X.xe I3 (stat fr3) st3 stop) fun r s4 ⟨hr, I4⟩ => ?_)
  subst hr
  exact wpAny_execs_nil ⟨σ3, H3, I4, qn⟩
 ·refine wpAny_passesOwn hp (thn (T.item X rfl rfl rfl hc i pins s3 σ3 H3 X.xe I3 (stat fr3) st3 go) fun r s4 ⟨u, hr, h4⟩ => ?_)
  subst hr
  refine wpAny_passesOwn hp (thn h4 fun _ s5 hpat => ?_)
  obtain ⟨x, H5, I5, r5, y5, st5, fr5⟩ := hpat
  have I5' := I5.pinned (stat fr5) (T.obj _ _ st5)
  refine wpAny_passesOwn hp (thn (hg _ s5 σ3 H5 x u _ I5' r5 (step x H5 y5)) fun _ s6 hpat => ?_)
  obtain ⟨σ6, H6, I6, q6⟩ := hpat
  refine wpAny_passesOwn hp (thn (hb _ s6 σ6 H6 _ I6 q6) fun f s7 q7 => ?_)
  have again : ∀ {σ7 : St} {H7 : Hp}, Inv X (pins ++ P4 fp s5.heap) σ7 H7 s7 -> N σ7 H7 -> ∃ m, m < n /\ ∃ i σ' H', Inv X pins σ' H' s7 /\ tn i s7.heap /\ (∀ b ∈ fp, H' b = none) /\ W i m σ' H' := fun {σ7 H7} I7 n7 => by
   obtain ⟨m', hm, w7⟩ := hN σ7 H7 n7
   refine ⟨m', hm, i + 1, σ7, H7, I7.unpinned, T.keep _ _ _ st5 fun b hb o e => (I7.pin (b, o) (mem_append_right _ (mem_append_right _ (m5 hb e)))).1, fun b hb => ?_, w7⟩
   obtain ⟨o, e, d⟩ := T.obj _ _ st5 b hb
   exact (I7.pin (b, o) (mem_append_right _ (mem_append_right _ (m5 hb e)))).2.1
  cases f with
  | next => obtain ⟨σ7, H7, I7, n7⟩ := q7; exact again I7 n7
  | cont => obtain ⟨σ7, H7, I7, n7⟩ := q7; exact again I7 n7
  | brk => obtain ⟨σ7, H7, I7, q7⟩ := q7; exact ⟨σ7, H7, I7.unpinned, q7⟩
  | ret v => obtain ⟨x7, σ7, H7, I7, r7, q7⟩ := q7; exact ⟨x7, σ7, H7, I7.unpinned, r7, q7⟩
end
end
section
abbrev R2 := V -> V -> Hp -> VK -> Prop
def OpR (X : Cx) (f : Value -> Value -> Sem Value) (r : R2) : Prop :=
 ∀ (pins : List (Addr × Obj)) (s : Shared) (σ : St) (H : Hp) (x y : V) (v u : Value) (Q : VK), Inv X pins σ H s -> RelV x v -> RelV y u -> r x y H Q ->
  wpAny (model X.prog X.w) X.A (f v u) (EP X pins σ Q) X.xe s
def UnR (X : Cx) (f : Value -> Sem Value) (r : V -> Hp -> VK -> Prop) : Prop :=
 ∀ (pins : List (Addr × Obj)) (s : Shared) (σ : St) (H : Hp) (x : V) (v : Value) (Q : VK), Inv X pins σ H s -> RelV x v -> r x H Q ->
  wpAny (model X.prog X.w) X.A (f v) (EP X pins σ Q) X.xe s
def CallR (X : Cx) (f : Value) (r : List V -> Hp -> VK -> Prop) : Prop :=
 ∀ (pins : List (Addr × Obj)) (s : Shared) (σ : St) (H : Hp) (xs : List V) (us : List Value) (Q : VK), Inv X pins σ H s -> Vals xs us -> r xs H Q ->
  wpAny (model X.prog X.w) X.A (call f us) (EP X pins σ Q) X.xe s
def TruR (X : Cx) (r : V -> Hp -> (Bool -> Hp -> Prop) -> Prop) : Prop :=
 ∀ (pins : List (Addr × Obj)) (s : Shared) (σ : St) (H : Hp) (x : V) (v : Value) (Q : Bool -> Hp -> Prop), Inv X pins σ H s -> RelV x v -> r x H Q ->
  wpAny (model X.prog X.w) X.A (truthy v) (TP X pins σ Q) X.xe s
def tOp (r : R2) (ta tb : TE) : TE := fun σ H Q => ta σ H fun x H1 => tb σ H1 fun y H2 => r x y H2 Q
def tUn (r : V -> Hp -> VK -> Prop) (ta : TE) : TE := fun σ H Q => ta σ H fun x H1 => r x H1 Q
def rI (C : Int -> Int -> Prop) (g : Int -> Int -> V) : R2 := fun x y H Q => ∃ i j, x = .int i /\ y = .int j /\ C i j /\ Q (g i j) H
def rI0 (g : Int -> Int -> V) : R2 := fun x y H Q => ∃ i j, x = .int i /\ y = .int j /\ Q (g i j) H
def rU (g : Int -> V) : V -> Hp -> VK -> Prop := fun x H Q => ∃ i, x = .int i /\ Q (g i) H
section
variable {X : Cx} {a b c : Expr} {ta tb tc : TE} {pos : Pos}
theorem binT (ha : PE X a ta) (hb : PE X b tb) {pins : List (Addr × Obj)} {s : Shared} {σ : St} {H : Hp} {R : V -> V -> Hp -> Prop} (I : Inv X pins σ H s)
  (h : ta σ H fun x H1 => tb σ H1 fun y H2 => R x y H2) {Q : Value -> Shared -> Prop} {f : Value -> Value -> Sem Value}
  (hf : ∀ v u s2 x y H2, Inv X pins σ H2 s2 -> RelV x v -> RelV y u -> R x y H2 -> wpAny (model X.prog X.w) X.A (f v u) Q X.xe s2) :
  wpAny (model X.prog X.w) X.A (eval a X.env) (fun v s₁ => wpAny (model X.prog X.w) X.A (eval b X.env) (fun u s₂ => wpAny (model X.prog X.w) X.A (f v u) Q X.xe s₂) X.xe s₁) X.xe s := by
 refine thn (ha pins s σ H _ I h) fun v s1 hpat => ?_
 obtain ⟨x, H1, I1, r1, q1⟩ := hpat
 refine thn (hb pins s1 σ H1 _ I1 q1) fun u s2 hpat => ?_
 obtain ⟨y, H2, I2, r2, q2⟩ := hpat
 exact hf v u s2 x y H2 I2 r1 r2 q2
theorem pe_op {op : Operator} {r : R2} (ho : OpR X (binaryOp op) r) (ha : PE X a ta) (hb : PE X b tb) : PE X (.BinOp a op b pos) (tOp r ta tb) := by
 intro pins s σ H Q I h
 exact wpAny_BinOp (binT ha hb I h fun v u s2 x y H2 I2 rx ry q => ho pins s2 σ H2 x y v u Q I2 rx ry q)
theorem pe_un {op : UnaryOp} {r : V -> Hp -> VK -> Prop} (ho : UnR X (unaryOp op) r) (ha : PE X a ta) : PE X (.UnaryOp op a pos) (tUn r ta) := by
 intro pins s σ H Q I h
 exact UnaryOp_ (thn (ha pins s σ H _ I h) fun v s1 ⟨x, H1, I1, r1, q1⟩ => ho pins s1 σ H1 x v Q I1 r1 q1)
theorem opI {f : Value -> Value -> Sem Value} {C : Int -> Int -> Prop} {g : Int -> Int -> Int}
  (rule : ∀ (i j : Int) (t u : Tok) (s : Shared) (Q : Value -> Shared -> Prop) (E : Value -> Shared -> Prop), C i j -> Q (.int (g i j) s.toks) { s with toks := s.toks + 1 } -> wpAny (model X.prog X.w) X.A (f (.int i t) (.int j u)) Q E s) :
  OpR X f (rI C fun i j => .int (g i j)) := by
 intro pins s σ H x y v u Q I rx ry h
 obtain ⟨i, j, rfl, rfl, hc, q⟩ := h
 obtain ⟨t, rfl⟩ := rx
 obtain ⟨t', rfl⟩ := ry
 exact rule i j t t' s _ _ hc ⟨.int (g i j), H, I.tok _, ⟨_, rfl⟩, q⟩
theorem opI0 {f : Value -> Value -> Sem Value} {g : Int -> Int -> Int}
  (rule : ∀ (i j : Int) (t u : Tok) (s : Shared) (Q : Value -> Shared -> Prop) (E : Value -> Shared -> Prop), Q (.int (g i j) s.toks) { s with toks := s.toks + 1 } -> wpAny (model X.prog X.w) X.A (f (.int i t) (.int j u)) Q E s) :
  OpR X f (rI0 fun i j => .int (g i j)) := by
 intro pins s σ H x y v u Q I rx ry h
 obtain ⟨i, j, rfl, rfl, q⟩ := h
 obtain ⟨t, rfl⟩ := rx
 obtain ⟨t', rfl⟩ := ry
 exact rule i j t t' s _ _ ⟨.int (g i j), H, I.tok _, ⟨_, rfl⟩, q⟩
theorem opB0 {f : Value -> Value -> Sem Value} {g : Int -> Int -> Bool}
  (rule : ∀ (i j : Int) (t u : Tok) (s : Shared) (Q : Value -> Shared -> Prop) (E : Value -> Shared -> Prop), Q (.bool (g i j)) s -> wpAny (model X.prog X.w) X.A (f (.int i t) (.int j u)) Q E s) :
  OpR X f (rI0 fun i j => .bl (g i j)) := by
 intro pins s σ H x y v u Q I rx ry h
 obtain ⟨i, j, rfl, rfl, q⟩ := h
 obtain ⟨t, rfl⟩ := rx
 obtain ⟨t', rfl⟩ := ry
 exact rule i j t t' s _ _ ⟨.bl (g i j), H, I, rfl, q⟩
def CDiv (i j : Int) : Prop := 0 < j /\ j < 1073741824
def CPow (i j : Int) : Prop := 0 <= j /\ j <= 1000000 /\ i.natAbs < 2 ^ 64
def CMul (i j : Int) : Prop := (-(2 ^ 64) < i /\ i < 2 ^ 64) \/ (-(2 ^ 64) < j /\ j < 2 ^ 64)
theorem CMul.ok {i j : Int} (h : CMul i j) : IntMulOk i j := by
 rcases h with ⟨h1, h2⟩ | ⟨h1, h2⟩
 ·exact .of_left (intBits_le_64 h1 h2)
 ·exact .of_right (intBits_le_64 h1 h2)
theorem two_pow_nn (k : Nat) : (0 : Int) <= 2 ^ k := by
 rw [two_pow_cast]
 exact Int.natCast_nonneg _
theorem op_add : OpR X (binaryOp .Add) (rI0 fun i j => .int (i + j)) := opI0 fun _ _ _ _ _ _ _ q => add_int q
theorem op_sub : OpR X (binaryOp .Sub) (rI0 fun i j => .int (i - j)) := opI0 fun _ _ _ _ _ _ _ q => sub_int q
theorem op_mul : OpR X (binaryOp .Mult) (rI CMul fun i j => .int (i * j)) := opI fun _ _ _ _ _ _ _ hc q => mul_int q hc.ok
theorem op_fdiv : OpR X (binaryOp .FloorDiv) (rI CDiv fun i j => .int (i / j)) := opI fun i j _ _ _ _ _ hc q => by
 have h1 : (0 : Int) < j := hc.1
 have h2 : j < 1073741824 := hc.2
 exact floordiv_int (by omega) (by rw [Int.fdiv_eq_ediv_of_nonneg i (by omega)]; exact q) (.inl (PyProof.noPylong_small (by omega)))
theorem op_mod : OpR X (binaryOp .Mod) (rI (fun _ j => 0 < j) fun i j => .int (i % j)) := opI fun i j _ _ _ _ _ hc q => by
 have h1 : (0 : Int) < j := hc
 exact mod_int' (by omega) (by rw [Int.fmod_eq_emod_of_nonneg i (by omega)]; exact q)
theorem op_pow : OpR X (binaryOp .Pow) (rI CPow fun i j => .int (i ^ j.toNat)) := opI fun _ _ _ _ _ _ _ hc q => pow_int_small hc.1 hc.2.1 hc.2.2 q
theorem op_shl : OpR X (binaryOp .LShift) (rI CPow fun i j => .int (i * 2 ^ j.toNat)) := opI fun _ _ _ _ _ _ _ hc q => lshift_int_small hc.1 hc.2.1 hc.2.2 q
theorem op_shr : OpR X (binaryOp .RShift) (rI (fun _ j => 0 <= j) fun i j => .int (i / 2 ^ j.toNat)) := opI fun i j _ _ _ _ _ hc q =>
 rshift_int hc (by rw [Int.fdiv_eq_ediv_of_nonneg i (two_pow_nn _)]; exact q)
theorem op_and : OpR X (binaryOp .BitAnd) (rI0 fun i j => .int (Builtin.bitAnd i j)) := opI0 fun _ _ _ _ _ _ _ q => and_int q
theorem unI {f : Value -> Sem Value} {g : Int -> Int}
  (rule : ∀ (i : Int) (t : Tok) (s : Shared) (Q : Value -> Shared -> Prop) (E : Value -> Shared -> Prop), Q (.int (g i) s.toks) { s with toks := s.toks + 1 } -> wpAny (model X.prog X.w) X.A (f (.int i t)) Q E s) :
  UnR X f (rU fun i => .int (g i)) := by
 intro pins s σ H x v Q I rx h
 obtain ⟨i, rfl, q⟩ := h
 obtain ⟨t, rfl⟩ := rx
 exact rule i t s _ _ ⟨.int (g i), H, I.tok _, ⟨_, rfl⟩, q⟩
theorem un_neg : UnR X (unaryOp .USub) (rU fun i => .int (-i)) := unI fun _ _ _ _ _ q => neg_int q
end
def scal : V -> V -> Bool
 | .non, .non => true | .non, .int _ => true | .int _, .non => true | .non, .bl _ => true | .bl _, .non => true | .non, .str _ => true | .str _, .non => true
 | .int _, .int _ => true | .bl _, .bl _ => true | .str _, .str _ => true | .byt _, .byt _ => true
 | .int _, .str _ => true | .str _, .int _ => true | .bl _, .str _ => true | .str _, .bl _ => true
 | _, _ => false
def rEq : R2 := fun x y H Q => scal x y = true /\ Q (.bl (decide (x = y))) H
def rNe : R2 := fun x y H Q => scal x y = true /\ Q (.bl (!decide (x = y))) H
theorem dec_int {i j : Int} : decide (V.int i = V.int j) = (i == j) := by
 rw [Bool.eq_iff_iff]
 simp
theorem dec_bl {i j : Bool} : decide (V.bl i = V.bl j) = (i == j) := by
 rw [Bool.eq_iff_iff]
 simp
theorem dec_str {i j : Str} : decide (V.str i = V.str j) = (i == j) := by
 rw [Bool.eq_iff_iff]
 simp
theorem dec_byt {i j : Array UInt8} : decide (V.byt i = V.byt j) = (i.toList == j.toList) := by
 rw [Bool.eq_iff_iff]
 cases i
 cases j
 simp
section
variable {X : Cx} {a b c : Expr} {ta tb tc : TE} {pos : Pos}
theorem v7 {pins : List (Addr × Obj)} {σ : St} {H : Hp} {s : Shared} {Q : VK} {k k' : Bool} (I : Inv X pins σ H s) (q : Q (.bl k) H) (e : k = k') : EP X pins σ Q (.bool k') s := by
 subst e
 exact ⟨.bl k, H, I, rfl, q⟩
theorem J8 : OpR X (compareOp .Eq) rEq := by
 intro pins s σ H x y v u Q I rx ry h
 obtain ⟨hs, q⟩ := h
 cases x with
 | non =>
  cases rx
  cases y with
  | non => cases ry; exact PySem.EqNone.eq_none_none (v7 I q (by simp))
  | bl j => cases ry; exact PySem.EqNone.eq_none_bool (v7 I q (by simp))
  | int j => obtain ⟨t', rfl⟩ := ry; exact PySem.EqNone.eq_none_int (v7 I q (by simp))
  | str j => obtain ⟨t', rfl⟩ := ry; exact PySem.EqNone.eq_none_str (v7 I q (by simp))
  | _ => exact absurd (show false = true from hs) Bool.false_ne_true
 | bl i =>
  cases rx
  cases y with
  | non => cases ry; exact PySem.EqNone.eq_bool_none (v7 I q (by simp))
  | bl j => cases ry; exact eq_bool (v7 I q dec_bl)
  | str j => obtain ⟨t', rfl⟩ := ry; exact PySem.EqMixed.eq_bool_str (v7 I q (by simp))
  | _ => exact absurd (show false = true from hs) Bool.false_ne_true
 | int i =>
  obtain ⟨t, rfl⟩ := rx
  cases y with
  | non => cases ry; exact PySem.EqNone.eq_int_none (v7 I q (by simp))
  | int j => obtain ⟨t', rfl⟩ := ry; exact eq_int (v7 I q dec_int)
  | str j => obtain ⟨t', rfl⟩ := ry; exact PySem.EqMixed.eq_int_str (v7 I q (by simp))
  | _ => exact absurd (show false = true from hs) Bool.false_ne_true
 | str i =>
  obtain ⟨t, rfl⟩ := rx
  cases y with
  | non => cases ry; exact PySem.EqNone.eq_str_none (v7 I q (by simp))
  | bl j => cases ry; exact PySem.EqMixed.eq_str_bool (v7 I q (by simp))
  | int j => obtain ⟨t', rfl⟩ := ry; exact PySem.EqMixed.eq_str_int (v7 I q (by simp))
  | str j => obtain ⟨t', rfl⟩ := ry; exact eq_str (v7 I q dec_str)
  | _ => exact absurd (show false = true from hs) Bool.false_ne_true
 | byt i =>
  obtain ⟨t, rfl⟩ := rx
  cases y with
  | byt j => obtain ⟨t', rfl⟩ := ry; exact W.eq_bytes (v7 I q dec_byt)
  | _ => exact absurd (show false = true from hs) Bool.false_ne_true
 | _ => cases y <;> exact absurd (show false = true from hs) Bool.false_ne_true
theorem op_ne : OpR X (compareOp .NotEq) rNe := by
 intro pins s σ H x y v u Q I rx ry h
 obtain ⟨hs, q⟩ := h
 cases x with
 | non =>
  cases rx
  cases y with
  | non => cases ry; exact PySem.EqNone.ne_none_none (v7 I q (by simp))
  | bl j => cases ry; exact PySem.EqNone.ne_none_bool (v7 I q (by simp))
  | int j => obtain ⟨t', rfl⟩ := ry; exact PySem.EqNone.ne_none_int (v7 I q (by simp))
  | str j => obtain ⟨t', rfl⟩ := ry; exact PySem.EqNone.ne_none_str (v7 I q (by simp))
  | _ => exact absurd (show false = true from hs) Bool.false_ne_true
 | bl i =>
  cases rx
  cases y with
  | non => cases ry; exact PySem.EqNone.ne_bool_none (v7 I q (by simp))
  | bl j => cases ry; exact ne_bool (v7 I q (congrArg not dec_bl))
  | str j => obtain ⟨t', rfl⟩ := ry; exact PySem.EqMixed.ne_bool_str (v7 I q (by simp))
  | _ => exact absurd (show false = true from hs) Bool.false_ne_true
 | int i =>
  obtain ⟨t, rfl⟩ := rx
  cases y with
  | non => cases ry; exact PySem.EqNone.ne_int_none (v7 I q (by simp))
  | int j => obtain ⟨t', rfl⟩ := ry; exact ne_int (v7 I q (congrArg not dec_int))
  | str j => obtain ⟨t', rfl⟩ := ry; exact PySem.EqMixed.ne_int_str (v7 I q (by simp))
  | _ => exact absurd (show false = true from hs) Bool.false_ne_true
 | str i =>
  obtain ⟨t, rfl⟩ := rx
  cases y with
  | non => cases ry; exact PySem.EqNone.ne_str_none (v7 I q (by simp))
  | bl j => cases ry; exact PySem.EqMixed.ne_str_bool (v7 I q (by simp))
  | int j => obtain ⟨t', rfl⟩ := ry; exact PySem.EqMixed.ne_str_int (v7 I q (by simp))
  | str j => obtain ⟨t', rfl⟩ := ry; exact ne_str (v7 I q (congrArg not dec_str))
  | _ => exact absurd (show false = true from hs) Bool.false_ne_true
 | byt i =>
  obtain ⟨t, rfl⟩ := rx
  cases y with
  | byt j => obtain ⟨t', rfl⟩ := ry; exact W.ne_bytes (v7 I q (congrArg not dec_byt))
  | _ => exact absurd (show false = true from hs) Bool.false_ne_true
 | _ => cases y <;> exact absurd (show false = true from hs) Bool.false_ne_true
theorem op_lt : OpR X (compareOp .Lt) (rI0 fun i j => .bl (decide (i < j))) := opB0 fun _ _ _ _ _ _ _ q => lt_int q
theorem op_le : OpR X (compareOp .LtE) (rI0 fun i j => .bl (decide (i <= j))) := opB0 fun _ _ _ _ _ _ _ q => le_int q
theorem op_gt : OpR X (compareOp .Gt) (rI0 fun i j => .bl (decide (j < i))) := opB0 fun _ _ _ _ _ _ _ q => gt_int q
theorem op_ge : OpR X (compareOp .GtE) (rI0 fun i j => .bl (decide (j <= i))) := opB0 fun _ _ _ _ _ _ _ q => ge_int q
theorem OpR.or {f : Value -> Value -> Sem Value} {r r' : R2} (h : OpR X f r) (h' : OpR X f r') : OpR X f (fun x y H Q => r x y H Q \/ r' x y H Q) := by
 intro pins s σ H x y v u Q I rx ry q
 rcases q with q | q
 ·exact h pins s σ H x y v u Q I rx ry q
 ·exact h' pins s σ H x y v u Q I rx ry q
theorem u7 (b : Expr) {op : CmpOp} (h : op ≠ .In := by decide) (h2 : op ≠ .NotIn := by decide) : behindInMarks op b = false := by
 have e1 : (op == CmpOp.In) = false := by cases op <;> first | rfl | exact absurd rfl h
 have e2 : (op == CmpOp.NotIn) = false := by cases op <;> first | rfl | exact absurd rfl h2
 cases b <;> simp [behindInMarks, e1, e2]
theorem pe_cmpR {op : CmpOp} {r : R2} (ho : OpR X (compareOp op) r) (ha : PE X a ta) (hb : PE X b tb) (hm : behindInMarks op b = false) : PE X (.Compare a [op] [b] pos) (tOp r ta tb) := by
 intro pins s σ H Q I h
 exact wpAny_Compare1 (binT ha hb I h fun v u s2 x y H2 I2 rx ry q => ho pins s2 σ H2 x y v u Q I2 rx ry q) hm
def tTest (t : TE) : TT := fun σ H Q => t σ H fun x H' => ∃ k, x = .bl k /\ Q k H'
theorem pt_cmpR {op : CmpOp} {r : R2} (ho : OpR X (compareOp op) r) (ha : PE X a ta) (hb : PE X b tb) (hm : behindInMarks op b = false) : PT X (.Compare a [op] [b] pos) (tTest (tOp r ta tb)) := by
 intro pins s σ H Q I h
 refine wpAny_isTrue_Compare1 (thn (ha pins s σ H _ I h) fun v s1 ⟨x, H1, I1, r1, q1⟩ => thn (hb pins s1 σ H1 _ I1 q1) fun u s2 ⟨y, H2, I2, r2, q2⟩ =>
  thn (ho pins s2 σ H2 x y v u _ I2 r1 r2 q2) fun c s3 ⟨z, H3, I3, r3, k, e, q3⟩ => ?_) hm
 subst e
 cases r3
 exact wpAny_truthy_bool ⟨H3, I3, q3⟩
def TruV (K : W.Frag) (x : V) (H : Hp) (k : Bool) : Prop :=
 match x with
 | .non => k = false
 | .bl b => k = b
 | .int i => k = (i != 0)
 | .str y => y.length <= sizeLine /\ k = ((y.length : Int) != 0)
 | .byt y => y.size <= sizeLine /\ k = ((y.size : Int) != 0)
 | .ref p => (∃ xs, SqL K H p xs /\ k = !xs.isEmpty) \/ (∃ xs, SqT K H p xs /\ k = !xs.isEmpty) \/ ∃ kvs, H p = some (.dK kvs) /\ k = !kvs.isEmpty
 | _ => False
theorem isEmpty_kv {κ : Type} {kvs : List (κ × V)} {vs : List (κ × Value)} (r : KV kvs vs) : (!vs.isEmpty) = !kvs.isEmpty := by
 cases r <;> rfl
theorem E6 {xs : List V} {its : List Value} (r : Vals xs its) : (!its.toArray.isEmpty) = !xs.isEmpty := by
 cases r <;> simp
theorem K3 : (sizeLine : Nat) < 2 ^ 63 := by rw [sizeLine_eq]; decide
theorem tru_ok : TruR X (fun x H Q => ∃ k, TruV X.K x H k /\ Q k H) := by
 intro pins s σ H x v Q I rx h
 obtain ⟨k, e, q⟩ := h
 have hl := K3
 have hs : sizeLine = 16777216 := sizeLine_eq
 cases x with
 | non =>
  cases rx
  have e' : k = false := e
  subst e'
  exact truthy_none ⟨H, I, q⟩
 | bl b =>
  cases rx
  have e' : k = b := e
  subst e'
  exact wpAny_truthy_bool ⟨H, I, q⟩
 | int i =>
  obtain ⟨t, rfl⟩ := rx
  have e' : k = (i != 0) := e
  subst e'
  exact PySem.P.truthy_int ⟨H, I, q⟩
 | str y =>
  obtain ⟨t, rfl⟩ := rx
  obtain ⟨hy, e'⟩ : y.length <= sizeLine /\ k = ((y.length : Int) != 0) := e
  subst e'
  exact PySem.P.truthy_str (by omega) ⟨H, I.tok _, q⟩
 | byt y =>
  obtain ⟨t, rfl⟩ := rx
  obtain ⟨hy, e'⟩ : y.size <= sizeLine /\ k = ((y.size : Int) != 0) := e
  subst e'
  exact W.truthy_bytes (by omega) ⟨H, I.tok _, q⟩
 | ref p =>
  cases rx
  have e' : (∃ xs, SqL X.K H p xs /\ k = !xs.isEmpty) \/ (∃ xs, SqT X.K H p xs /\ k = !xs.isEmpty) \/ ∃ kvs, H p = some (.dK kvs) /\ k = !kvs.isEmpty := e
  rcases e' with ⟨xs, hx, e'⟩ | ⟨xs, hx, e'⟩ | ⟨kvs, hx, e'⟩
  ·subst e'
   obtain ⟨its, r, pl, hz⟩ := I.list hx
   have hlen := r.length
   exact wpAny_truthy_list pl.isList (by simp only [size_toArray]; omega) ⟨H, I.tok _, by rw [E6 r]; exact q⟩
  ·subst e'
   obtain ⟨its, r, pl, hz⟩ := I.tuple hx
   have hlen := r.length
   exact truthy_tuple pl (by simp only [size_toArray]; omega) ⟨H, I.tok _, by rw [E6 r]; exact q⟩
  ·subst e'
   obtain ⟨hz, hS, vs, r, m⟩ : kvs.length <= sizeLine /\ (p == sysModules) = false /\ ∃ vs, KV kvs vs /\ s.heap.DictOf (mixKind X.prog X.w) p vs := I.hok p _ hx
   have hlen : kvs.length = vs.length := Paired.length r
   exact wpAny_truthy_dict hS m (by omega) ⟨H, I.tok _, by rw [isEmpty_kv r]; exact q⟩
 | _ => exact (show False from e).elim
theorem pt_truth (ha : PE X a ta) (he : ∀ whole, isTrue a X.env whole = (do let v ← whole; standAt a.pos; holding [v] (truthy v))) :
  PT X a (fun σ H Q => ta σ H fun x H' => ∃ k, TruV X.K x H' k /\ Q k H') := by
 intro pins s σ H Q I h
 exact isTrue_plain (thn (ha pins s σ H _ I h) fun v s1 ⟨x, H1, I1, r1, q1⟩ => tru_ok pins s1 σ H1 x v Q I1 r1 q1) (he _)
theorem V7 {x : V} {us : List Value} (r : Vals [x] us) : ∃ u, us = [u] /\ RelV x u := by
 cases r with
 | cons r1 r2 => cases r2; exact ⟨_, rfl, r1⟩
theorem vals2 {x y : V} {us : List Value} (r : Vals [x, y] us) : ∃ u w', us = [u, w'] /\ RelV x u /\ RelV y w' := by
 cases r with
 | cons r1 r2 =>
  cases r2 with
  | cons r3 r4 => cases r4; exact ⟨_, _, rfl, r1, r3⟩
theorem call_abs : CallR X (.builtin "abs") (fun xs H Q => ∃ i, xs = [.int i] /\ Q (.int (if i < 0 then -i else i)) H) := by
 intro pins s σ H xs us Q I r h
 obtain ⟨i, rfl, q⟩ := h
 obtain ⟨u, rfl, t, rfl⟩ := V7 r
 exact call_abs_int fun u tk => ⟨.int (if i < 0 then -i else i), H, I.tok _, ⟨_, rfl⟩, q⟩
theorem call_max2 (hc : X.calm = true) : CallR X (.builtin "max") (fun xs H Q => ∃ i j, xs = [.int i, .int j] /\ Q (.int (if j > i then j else i)) H) := by
 intro pins s σ H xs us Q I r h
 obtain ⟨i, j, rfl, q⟩ := h
 obtain ⟨u, w', rfl, ⟨t, rfl⟩, ⟨t', rfl⟩⟩ := vals2 r
 refine max_two_ints (I.ok.hd hc) fun h' tk k => ⟨_, H, I.kept k, ?_, q⟩
 by_cases hj : j > i
 ·rw [if_pos hj, if_pos hj]; exact ⟨_, rfl⟩
 ·rw [if_neg hj, if_neg hj]; exact ⟨_, rfl⟩
theorem call_min2 (hc : X.calm = true) : CallR X (.builtin "min") (fun xs H Q => ∃ i j, xs = [.int i, .int j] /\ Q (.int (if j < i then j else i)) H) := by
 intro pins s σ H xs us Q I r h
 obtain ⟨i, j, rfl, q⟩ := h
 obtain ⟨u, w', rfl, ⟨t, rfl⟩, ⟨t', rfl⟩⟩ := vals2 r
 refine min_two_ints (I.ok.hd hc) fun h' tk k => ⟨_, H, I.kept k, ?_, q⟩
 by_cases hj : j < i
 ·rw [if_pos hj, if_pos hj]; exact ⟨_, rfl⟩
 ·rw [if_neg hj, if_neg hj]; exact ⟨_, rfl⟩
end
end
section
structure ObjM (h : Heap) (x dx C : Addr) (mA : Str -> Option Value) : Prop where
 obj : h.get? x = some (W.instObj C dx)
 ns : h.Ns1 dx mA
 ne : dx ≠ x
theorem lookIn_ns {h : Heap} {dx : Addr} {mA : Str -> Option Value} (n : h.Ns1 dx mA) : ∃ od, h.get? dx = some od /\ ∀ name, W.lookIn name od = some (mA name) := by
 obtain ⟨o, es, ep, ho, hd, hk, _, hm⟩ := n
 refine ⟨o, ho, fun name => ?_⟩
 have e := hm name
 unfold nsFind findBy at e
 rw [<- Array.find?_toList] at e
 unfold W.lookIn
 rw [hd]
 dsimp only
 split
 ·rename_i y q
  rw [q] at e
  exact congrArg some e
 ·rename_i q
  rw [q] at e
  have a : es.toList.any (·.refKey) = false := by
   rw [any_eq_false]
   intro y hy
   obtain ⟨z, t, hkey⟩ := hk y (Array.mem_toList_iff.mp hy)
   simp [DictEntry.refKey, hkey]
  have a' : ¬ es.toList.any (·.refKey) = true := by rw [a]; exact Bool.false_ne_true
  rw [if_neg a']
  exact congrArg some e
theorem ObjM.look {h : Heap} {x dx C : Addr} {mA : Str -> Option Value} (I : ObjM h x dx C mA) : ∃ od, W.InstAt h x (W.instObj C dx) C (some od) /\ ∀ name, W.lookIn name od = some (mA name) :=
 let ⟨od, ho, hl⟩ := lookIn_ns I.ns
 ⟨od, ⟨I.obj, rfl, rfl, ho⟩, hl⟩
section
variable {prog : Program} {w : World} {A : Around} {E : Value -> Shared -> Prop} {s : Shared} {K : W.Frag} {x dx C f : Addr} {mA : Str -> Option Value} {name : Str} {v : Value}
end
section
variable {P : Program} {w : World} {H H' : Hp} {h h' : Heap} {a C dx : Addr} {fs fs' : List (Str × V)}
theorem ins_get (hok : HOk P w H h) (e : H a = some (.ins C dx fs)) : ∃ mA, ObjM h a dx C mA /\ (∀ f, RelO (fs.lookup f) (mA f)) /\ PySem.Within mA (fs.map (·.1)) /\ fs.length <= 1000 /\ H dx = some (.own a) := by
 obtain ⟨d, z, ne, ob, mA, n, r, q⟩ := (show ObjOk P w H h a (.ins C dx fs) from hok a _ e)
 exact ⟨mA, ⟨ob, n, ne⟩, r, q, z, d⟩
end
structure Cls (K : W.Frag) (C : Addr) : Prop where
 pg : W.plainGet K C Str.empty = true
 hd : W.hasDictIn K C = true
 po : W.plainOver K C = true
 sa : W.findIn K (.ref C) "__setattr__" = some (some (.builtin "object.__setattr__"))
theorem Cls.get {K : W.Frag} {C : Addr} (c : Cls K C) (f : Str) : W.plainGet K C f = true := c.pg
structure Con (K : W.Frag) (C : Addr) (f : Str) (v : V) (u : Value) : Prop where
 at_ : W.findIn K (.ref C) f = some (some u)
 rel : RelV v u
 get : W.specialIn K u "__get__" = some none
 cp : W.copiedNames.contains f = false
structure Meth (K : W.Frag) (C : Addr) (m : Str) (f : Addr) : Prop where
 at_ : W.findIn K (.ref C) m = some (some (.ref f))
 fn : W.isFn K (.ref f) = true
 kp : W.keepIn K (.ref f) = true
section
variable {X : Cx} {pins : List (Addr × Obj)} {σ : St} {H : Hp} {s : Shared} {a C dx : Addr} {fs : List (Str × V)} {f : Str} {v : V} {A : Around} {E : Value -> Shared -> Prop}
end
section
variable {X : Cx} {o e value : Expr} {f : Str} {pos pos' tpos : Pos} {ta tv : TE}
end
section
variable {X : Cx} {pins : List (Addr × Obj)} {σ : St} {H : Hp} {s : Shared} {A : Around} {E : Value -> Shared -> Prop} {Q : Value -> Shared -> Prop} {c : Value} {b : Bool}
inductive TyOf (K : W.Frag) (H : Hp) : V -> Value -> Prop where
 | non : TyOf K H .non (.type "NoneType")
 | bl (x : Bool) : TyOf K H (.bl x) (.type "bool")
 | int (i : Int) : TyOf K H (.int i) (.type "int")
 | str (x : Str) : TyOf K H (.str x) (.type "str")
 | flt (x : UInt64) : TyOf K H (.flt x) (.type "float")
 | lst {a : Addr} {xs : List V} (e : H a = some (.lst xs)) : TyOf K H (.ref a) (.type "list")
 | frz {a : Addr} {o : Obj} {xs : List V} (e : H a = some (.frz o (.lst xs))) : TyOf K H (.ref a) (.type "list")
 | tup {a : Addr} {xs : List V} (e : H a = some (.tup xs)) : TyOf K H (.ref a) (.type "tuple")
 | dK {a : Addr} {kvs : List (Key × V)} (e : H a = some (.dK kvs)) : TyOf K H (.ref a) (.type "dict")
 | dT {a : Addr} {kvs : List (List Key × V)} (e : H a = some (.dT kvs)) : TyOf K H (.ref a) (.type "dict")
 | ins {a C dx : Addr} {fs : List (Str × V)} (e : H a = some (.ins C dx fs)) (cl : Cls K C) (ha : W.findIn K (.ref C) "__class__" = some (some (.builtin "object.__class__")))
   (hn : W.specialIn K (.builtin "object.__class__") "__get__" = some (some (.builtin "getset_descriptor.__get__"))) (htk : W.takesIn K (.builtin "object.__class__") = some true)
   (hm : W.mroIn K C (.type "object") = some true) : TyOf K H (.ref a) (.ref C)
theorem S6 {x : V} {u t : Value} (I : Inv X pins σ H s) (rx : RelV x u) (ty : TyOf X.K H x t) (e : W.kitOne X.K t c = some b) (h : ∀ tk, Q (.bool b) { s with toks := tk }) :
  wpAny (model X.prog X.w) A (call (.builtin "isinstance") [u, c]) Q E s := by
 cases ty with
 | non => cases (show u = Value.none from rx); exact W.kia_one W.kitx_none I.kIn True.intro e (fun z => nomatch z) h
 | bl y => cases (show u = Value.bool y from rx); exact W.kia_one W.kitx_bool I.kIn True.intro e (fun z => nomatch z) h
 | int i => obtain ⟨t, q⟩ := (show ∃ t, u = Value.int i t from rx); cases q; exact W.kia_one W.kitx_int I.kIn True.intro e (fun z => nomatch z) h
 | str y => obtain ⟨t, q⟩ := (show ∃ t, u = Value.str y t from rx); cases q; exact W.kia_one W.kitx_str I.kIn True.intro e (fun z => nomatch z) h
 | flt y => obtain ⟨t, q⟩ := (show ∃ t, u = Value.float y t from rx); cases q; exact W.kia_one W.kitx_float I.kIn True.intro e (fun z => nomatch z) h
 | @lst a xs ea =>
  cases (show u = Value.ref a from rx)
  obtain ⟨_, _, n, _, h1⟩ := (show ObjOk X.prog X.w H s.heap a (.lst xs) from I.hok a _ ea)
  exact W.kia_one W.kitx_list I.kIn ⟨_, h1, rfl⟩ e (fun z => nomatch z) h
 | @frz a ob xs ea =>
  cases (show u = Value.ref a from rx)
  obtain ⟨_, _, _, n, _, h1⟩ := (show ObjOk X.prog X.w H s.heap a (.frz ob (.lst xs)) from I.hok a _ ea)
  exact W.kia_one W.kitx_list I.kIn ⟨_, h1, rfl⟩ e (fun z => nomatch z) h
 | @tup a xs ea =>
  cases (show u = Value.ref a from rx)
  obtain ⟨_, _, _, p⟩ := (show ObjOk X.prog X.w H s.heap a (.tup xs) from I.hok a _ ea)
  obtain ⟨o, h1, h2, _⟩ := p
  exact W.kia_one W.kitx_tuple I.kIn ⟨o, h1, h2⟩ e (fun z => nomatch z) h
 | @dK a kvs ea =>
  cases (show u = Value.ref a from rx)
  obtain ⟨_, _, vs, _, p⟩ := (show ObjOk X.prog X.w H s.heap a (.dK kvs) from I.hok a _ ea)
  obtain ⟨o, es, ep, h1, h2, _⟩ := p
  exact W.kia_one W.kitx_dict I.kIn ⟨o, h1, h2.1⟩ e (fun z => nomatch z) h
 | @dT a kvs ea =>
  cases (show u = Value.ref a from rx)
  obtain ⟨_, _, xs, _, o, es, ep, h1, h2, _⟩ := (show ObjOk X.prog X.w H s.heap a (.dT kvs) from I.hok a _ ea)
  exact W.kia_one W.kitx_dict I.kIn ⟨o, h1, h2.1⟩ e (fun z => nomatch z) h
 | @ins a C dx fs ea cl ha hn htk hm =>
  cases (show u = Value.ref a from rx)
  obtain ⟨mA, O, _⟩ := ins_get I.hok ea
  obtain ⟨od, J, _⟩ := O.look
  exact W.kia_one (W.kitx_own (cl.get _) cl.hd ha hn htk hm) I.kIn J e (fun z => nomatch z) h
end
end
section
structure Room (k : Nat) (A : Around) : Prop where
 hd : A.handled = none
 dp : A.depth + 3 * k + 5 < recursionLimit
 un : A.units + 16 * k + 200 < cLine
theorem Room.mono {j k : Nat} {A : Around} (r : Room k A) (h : j <= k) : Room j A := ⟨r.hd, by have := r.dp; omega, by have := r.un; omega⟩
theorem Room.deeper {k : Nat} {A : Around} (r : Room (k + 1) A) (env : Env) : Room k (A.deeper env) :=
 ⟨r.hd, by have := r.dp; show A.depth + 1 + 3 * k + 5 < _; omega, by have := r.un; show A.units + 3 + 16 * k + 200 < _; omega⟩
theorem Room.in1 {k : Nat} {A : Around} (r : Room (k + 1) A) : Room k A.in1 :=
 ⟨r.hd, by have := r.dp; show A.depth + 3 * k + 5 < _; omega, by have := r.un; show A.units + 1 + 16 * k + 200 < _; omega⟩
theorem Room.depth {k : Nat} {A : Around} (r : Room k A) : A.depth < recursionLimit := by have := r.dp; omega
theorem Room.units {k : Nat} {A : Around} (r : Room k A) : A.units + 64 < cLine := by have := r.un; omega
def tNil : TA := fun _ H Q => Q [] H
def tCons (ta : TE) (tr : TA) : TA := fun σ H Q => ta σ H fun x H1 => tr σ H1 fun xs H2 => Q (x :: xs) H2
section
variable {X : Cx} {e : Expr} {es : List Expr} {te : TE} {t : TA} {pos : Pos}
theorem pa_nil : PA X [] tNil := fun _ _ _ _ H Q I h => Calls.spliced_nil ⟨[], H, I, .nil, h⟩
theorem u8 (ha : PE X e te) (hr : PA X es t) (hs : starEach (e :: es) X.env = (false, eval e X.env) :: starEach es X.env := by rfl) : PA X (e :: es) (tCons te t) := by
 intro pos pins s σ H Q I h
 rw [hs]
 show wpAny _ _ (spliced ((false, eval e X.env) :: backTo pos (starEach es X.env))) _ _ s
 refine Calls.spliced_cons (thn (ha pins s σ H _ I h) fun u s1 hpat => ?_)
 obtain ⟨x, H1, I1, r1, q1⟩ := hpat
 exact thn (hr pos pins s1 σ H1 _ I1 q1) fun us s2 ⟨xs, H2, I2, r2, q2⟩ => ⟨x :: xs, H2, I2, .cons r1 r2, q2⟩
def tTup (t : TA) : TE := fun σ H Q => t σ H fun xs H1 => xs.length <= sizeLine /\ ∀ p, H1 p = none -> Q (.ref p) (upd H1 p (.tup xs))
def tLst (t : TA) : TE := fun σ H Q => t σ H fun xs H1 => xs.length <= sizeLine /\ ∀ p, H1 p = none -> Q (.ref p) (upd H1 p (.lst xs))
theorem pe_tup {x1} (h : PA X es t) : PE X (.Tuple es x1 pos) (tTup t) := by
 intro pins s σ H Q I hq
 refine wpAny_Tuple_spliced (thn (h pos pins s σ H _ I hq) fun us s1 ⟨xs, H1, I1, r, z, q⟩ => ⟨by rw [<- r.length]; exact z, ?_⟩)
 have hf : H1 s1.heap.objs.size = none := I1.hok.fresh (Nat.le_refl _)
 refine ⟨.ref s1.heap.objs.size, upd H1 s1.heap.objs.size (.tup xs), I1.laid (t' := s1.toks) (fun b u e => Heap.get?_push_of_some _ e) (Nat.le_refl _) ?_, rfl, q _ hf⟩
 exact ⟨z, us, r, ⟨_, Heap.get?_push_size _ rfl, rfl, _, rfl⟩⟩
theorem pe_lst (h : PA X es t) : PE X (.List es pos) (tLst t) := by
 intro pins s σ H Q I hq
 refine wpAny_List_spliced (thn (h pos pins s σ H _ I hq) fun us s1 ⟨xs, H1, I1, r, z, q⟩ => ⟨by rw [<- r.length]; exact z, ?_⟩)
 have hf : H1 s1.heap.objs.size = none := I1.hok.fresh (Nat.le_refl _)
 refine ⟨.ref s1.heap.objs.size, upd H1 s1.heap.objs.size (.lst xs), I1.laid (t' := s1.toks) (fun b u e => Heap.get?_push_of_some _ e) (Nat.le_refl _) ?_, rfl, q _ hf⟩
 exact ⟨z, us, 0, r, Heap.get?_push_size _ rfl⟩
end
abbrev Sp := List V -> Hp -> VK -> XK -> Prop
abbrev CXT := List Env -> Hp -> Shared -> XK -> Value -> Shared -> Prop
structure Env0 (P : Program) (w : World) (K : W.Frag) (mg : Str -> Option Value) (base : Heap) (A : Around) (outer : List Env) (s : Shared) (H : Hp) : Prop where
 frames : A.frames = some outer
 mod : Mod K mg base
 bs : ∀ b o, base.get? b = some o -> s.heap.get? b = some o /\ H b = none
 bsz : base.objs.size <= s.heap.objs.size
 funs : s.heap.FunFrames base outer
 frf : ∀ b ∈ frs outer, H b = none
 hok : HOk P w H s.heap
 bare : AllBare s.gens
def CE (outer : List Env) (P : Program) (w : World) (H : Hp) (s : Shared) (Q : VK) (u : Value) (s' : Shared) : Prop :=
 ∃ v H', s'.os = s.os /\ AllBare s'.gens /\ Un (frs outer) [] H H' s.heap s'.heap /\ HOk P w H' s'.heap /\ RelV v u /\ Q v H'
def CR (CX : CXT) (outer : List Env) (P : Program) (w : World) (H : Hp) (s : Shared) (Q : VK) (E : XK) (r : Result) (s' : Shared) : Prop :=
 match r with
 | .ok (.ret u) => CE outer P w H s Q u s'
 | .ok _ => False
 | .error e => CX outer H s E e s'
structure FnOk (P : Program) (w : World) (K : W.Frag) (mg : Str -> Option Value) (base : Heap) (CX : CXT) (k : Nat) (f : Addr) (fd : FuncData) (ps : List Str) (sp : Sp) : Prop where
 len : ∀ vs H Q E, sp vs H Q E -> vs.length = ps.length
 run : ∀ (A : Around) (outer : List Env) (s : Shared) (H : Hp) (args : Args) (us : List Value) (vs : List V) (Q : VK) (E : XK), Room k A -> Env0 P w K mg base A outer s H -> BindsTo s fd args (ps.zip us) -> Vals vs us -> sp vs H Q E ->
  codeAny (model P w) A (.call (.ref f) args) (CR CX outer P w H s Q E) s
theorem FnOk.mono {P : Program} {w : World} {K : W.Frag} {mg : Str -> Option Value} {base : Heap} {CX : CXT} {j k : Nat} {f : Addr} {fd : FuncData} {ps : List Str} {sp : Sp} (F : FnOk P w K mg base CX j f fd ps sp) (h : j <= k) :
  FnOk P w K mg base CX k f fd ps sp := ⟨F.len, fun A outer s H args us vs Q E hr => F.run A outer s H args us vs Q E (hr.mono h)⟩
theorem FnOk.imp {P : Program} {w : World} {K : W.Frag} {mg : Str -> Option Value} {base : Heap} {CX : CXT} {k : Nat} {f : Addr} {fd : FuncData} {ps : List Str} {sp sp' : Sp} (F : FnOk P w K mg base CX k f fd ps sp)
  (h : ∀ vs H Q E, sp' vs H Q E -> sp vs H Q E) : FnOk P w K mg base CX k f fd ps sp' :=
 ⟨fun vs H Q E q => F.len vs H Q E (h _ _ _ _ q), fun A outer s H args us vs Q E hr he hb hv hs => F.run A outer s H args us vs Q E hr he hb hv (h _ _ _ _ hs)⟩
section
variable {X : Cx} {pins : List (Addr × Obj)} {σ : St} {H : Hp} {s s' : Shared}
theorem Inv.env0 (I : Inv X pins σ H s) : Env0 X.prog X.w X.K X.mg X.base X.A X.stack s H :=
 ⟨I.ok.frames, I.ok.mod, I.bs, Nat.le_trans I.ok.bsz I.sz, I.stack, I.stkFree, I.hok, I.bare⟩
theorem Inv.after {Q : VK} {u : Value} (I : Inv X pins σ H s) (h : CE X.stack X.prog X.w H s Q u s') : EP X pins σ Q u s' := by
 obtain ⟨v, H', os, bare, un, hok, r, q⟩ := h
 obtain ⟨hh, g, d, t, os'⟩ := s'
 obtain rfl : os' = s.os := os
 exact ⟨v, H', I.call (h' := hh) (g' := g) (d' := d) (t' := t) (ch := []) un hok bare (fun b z => absurd z (by simp)), r, q⟩
end
def tCall (sp : Sp) (dvs : List V) (E : XK) (t : TA) : TE := fun σ H Q => t σ H fun vs H1 => sp (vs ++ dvs) H1 Q E
def Binds (K : W.Frag) (fd : FuncData) (ps : List Str) (ds : List Value) : Prop :=
 ∀ (s : Shared) (us : List Value), K.In s.heap -> (us ++ ds).length = ps.length -> BindsTo s fd ⟨us, []⟩ (ps.zip (us ++ ds))
theorem Binds.all {K : W.Frag} {fd : FuncData} {ps : List Str} (h : ∀ us : List Value, us.length = ps.length -> bindArgs fd ⟨us, []⟩ = pure (ps.zip us)) : Binds K fd ps [] := fun s us _ hl => by
 rw [append_nil] at hl ⊢
 exact .of_eq (h us hl)
def Passes (CX : CXT) (X : Cx) (E : XK) : Prop := ∀ (pins : List (Addr × Obj)) (σ : St) (H : Hp) (s : Shared) (e : Value) (s' : Shared), Inv X pins σ H s -> CX X.stack H s E e s' -> X.xe e s'
section
variable {X : Cx} {CX : CXT} {k : Nat} {f C : Addr} {fd : FuncData} {ps : List Str} {sp : Sp} {dvs : List V} {ds : List Value} {E : XK} {x m : Str} {p pos apos : Pos} {e o : Expr} {es : List Expr} {ta : TE} {t : TA}
theorem run_fn {pins : List (Addr × Obj)} {σ : St} {H : Hp} {s : Shared} {Q : VK} {us : List Value} {vs : List V} (F : FnOk X.prog X.w X.K X.mg X.base CX k f fd ps sp) (hr : Room k X.A) (hb : Binds X.K fd ps ds) (hd : Vals dvs ds) (hx : Passes CX X E)
  (I : Inv X pins σ H s) (r : Vals vs us) (h : sp (vs ++ dvs) H Q E) : wpAny (model X.prog X.w) X.A (call (.ref f) us) (EP X pins σ Q) X.xe s := by
 have r2 : Vals (vs ++ dvs) (us ++ ds) := r.append hd
 have hl : (us ++ ds).length = ps.length := by rw [<- r2.length]; exact F.len _ _ _ _ h
 refine wpAny_call (codeAny_mono (F.run X.A X.stack s H ⟨us, []⟩ (us ++ ds) (vs ++ dvs) Q E hr I.env0 (hb s us I.kIn hl) r2 h) fun r s' hq => ?_)
 cases r with
 | error e => exact hx pins σ H s e s' I hq
 | ok fl =>
  cases fl with
  | ret u => exact I.after hq
  | next => exact False.elim hq
  | brk => exact False.elim hq
  | cont => exact False.elim hq
theorem pe_call (F : FnOk X.prog X.w X.K X.mg X.base CX k f fd ps sp) (hr : Room k X.A) (hg : Gl X x) (hm : X.mg x = some (.ref f)) (hk : W.keepIn X.K (.ref f) = true) (hb : Binds X.K fd ps ds) (hd : Vals dvs ds) (hx : Passes CX X E)
  (ha : PA X (e :: es) t) (hdb : (x == ("__debug__" : Str)) = false := by decide) (he : starEach (e :: es) X.env = (false, eval e X.env) :: starEach es X.env := by rfl) (hpl : (backTo pos (starEach es X.env)).any (·.1) = false := by rfl) :
  PE X (.Call (.Name x p) (e :: es) [] pos) (tCall sp dvs E t) := by
 intro pins s σ H Q I h
 refine wpAny_Call_Name_kw (ld_glob I hg hm ?_ hdb)
 refine W.callWith_K (h₀ := X.base) I.ok.mod.kin hk (thn (ha pos pins s σ H _ I h) fun us s1 ⟨vs, H1, I1, r, q⟩ => ⟨I1.kIn, ?_⟩) he hpl
 exact run_fn F hr hb hd hx I1 r q
structure Mk (K : W.Frag) (C f : Addr) : Prop where
 makes : W.makesIn K C = true
 init : W.findIn K (.ref C) "__init__" = some (some (.ref f))
 fn : W.isFn K (.ref f) = true
 kp : W.keepIn K (.ref C) = true
end
def PK (X : Cx) (kws : List Keyword) (t : TA) : Prop :=
 ∀ (pos : Pos) (pins : List (Addr × Obj)) (s : Shared) (σ : St) (H : Hp) (Q : List V -> Hp -> Prop), Inv X pins σ H s -> t σ H Q -> wpAny (model X.prog X.w) X.A (evalAll ((backToKw pos (keywordEach kws X.env)).map (·.2))) (AP X pins σ Q) X.xe s
section
variable {X : Cx} {CX : CXT} {k : Nat} {f C : Addr} {fd : FuncData} {ps ks : List Str} {sp : Sp} {E : XK} {x m : Str} {p pos apos kpos : Pos} {e o : Expr} {es : List Expr} {kws : List Keyword} {te ta : TE} {t tk : TA} {nm : Option Str}
theorem pk_nil : PK X [] tNil := fun _ _ _ _ H Q I h => wpAny_evalAll_nil ⟨[], H, I, .nil, h⟩
theorem C5 (ha : PE X e te) (hr : PK X kws t) : PK X (⟨nm, e, kpos⟩ :: kws) (tCons te t) := by
 intro pos pins s σ H Q I h
 show wpAny _ _ (evalAll ((do let v ← eval e X.env; standAt pos; pure v) :: (backToKw pos (keywordEach kws X.env)).map (·.2))) _ _ s
 refine wpAny_evalAll_cons (wpAny_bind (thn (ha pins s σ H _ I h) fun u s1 ⟨x, H1, I1, r1, q1⟩ => wpAny_bind (wpAny_standAt (wpAny_pure ?_))))
 exact thn (hr pos pins s1 σ H1 _ I1 q1) fun us s2 ⟨xs, H2, I2, r2, q2⟩ => ⟨x :: xs, H2, I2, .cons r1 r2, q2⟩
structure KBinds (K : W.Frag) (fd : FuncData) (ps ks : List Str) (g : List Value -> List Value -> List Value) (gV : List V -> List V -> List V) : Prop where
 to : ∀ (s : Shared) (us ws : List Value), K.In s.heap -> (g us ws).length = ps.length -> BindsTo s fd ⟨us, ks.zip ws⟩ (ps.zip (g us ws))
 rel : ∀ {vs : List V} {us : List Value} {zs : List V} {ws : List Value}, Vals vs us -> Vals zs ws -> Vals (gV vs zs) (g us ws)
variable {g : List Value -> List Value -> List Value} {gV : List V -> List V -> List V}
end
structure FnScope (N P : List Str) (sc : Scope) : Prop where
 kind : sc.kind = .function
 co : sc.isCoroutine = false
 gen : sc.isGenerator = false
 nd : N.Nodup
 pre : N.take P.length = P
 par : ∀ x ∈ P, sc.names.lookup x = some .local \/ sc.names.lookup x = some .cell
 nofree : ∀ y ∈ sc.names, y.2 ≠ .free
theorem bindL_out {kindOf : Str -> Option NameKind} {x : Str} : ∀ {binds : List (Str × Value)} {m : Str -> Option Value}, (∀ v, (x, v) ∉ binds) -> bindL kindOf binds m x = m x
 | [], _, _ => rfl
 | (n, v) :: r, m, h => by
  unfold bindL
  rw [bindL_out fun w hw => h w (mem_cons_of_mem _ hw)]
  split
  ·have : x ≠ n := by rintro rfl; exact h v mem_cons_self
   simp [this]
  ·rfl
theorem bindC_out {kindOf : Str -> Option NameKind} {x : Str} : ∀ {binds : List (Str × Value)} {m : Str -> Option Value}, (∀ v, (x, v) ∉ binds) -> bindC kindOf binds m x = m x
 | [], _, _ => rfl
 | (n, v) :: r, m, h => by
  unfold bindC
  rw [bindC_out fun w hw => h w (mem_cons_of_mem _ hw)]
  split
  ·rfl
  ·have : x ≠ n := by rintro rfl; exact h v mem_cons_self
   simp [this]
theorem bindL_get {kindOf : Str -> Option NameKind} {x : Str} {v : Value} : ∀ {P : List Str} {vs : List Value} {i : Nat} {m : Str -> Option Value}, P.Nodup -> P[i]? = some x -> vs[i]? = some v -> kindOf x = some .local ->
  bindL kindOf (P.zip vs) m x = some v
 | [], _, _, _, _, h, _, _ => by simp at h
 | _ :: _, [], _, _, _, _, h, _ => by simp at h
 | p :: P, w :: vs, 0, m, nd, h1, h2, hk => by
  simp at h1 h2; subst h1; subst h2
  show bindL kindOf ((p, w) :: P.zip vs) m p = _
  unfold bindL
  rw [bindL_out fun v hv => (List.nodup_cons.mp nd).1 (of_mem_zip hv).1, if_pos hk]
  simp
 | p :: P, w :: vs, i + 1, m, nd, h1, h2, hk => by
  show bindL kindOf ((p, w) :: P.zip vs) m x = _
  unfold bindL
  exact bindL_get (i := i) (List.nodup_cons.mp nd).2 (by simpa using h1) (by simpa using h2) hk
theorem bindC_get {kindOf : Str -> Option NameKind} {x : Str} {v : Value} : ∀ {P : List Str} {vs : List Value} {i : Nat} {m : Str -> Option Value}, P.Nodup -> P[i]? = some x -> vs[i]? = some v -> kindOf x ≠ some .local ->
  bindC kindOf (P.zip vs) m x = some v
 | [], _, _, _, _, h, _, _ => by simp at h
 | _ :: _, [], _, _, _, _, h, _ => by simp at h
 | p :: P, w :: vs, 0, m, nd, h1, h2, hk => by
  simp at h1 h2; subst h1; subst h2
  show bindC kindOf ((p, w) :: P.zip vs) m p = _
  unfold bindC
  rw [bindC_out fun v hv => (List.nodup_cons.mp nd).1 (of_mem_zip hv).1, if_neg hk]
  simp
 | p :: P, w :: vs, i + 1, m, nd, h1, h2, hk => by
  show bindC kindOf ((p, w) :: P.zip vs) m x = _
  unfold bindC
  exact bindC_get (i := i) (List.nodup_cons.mp nd).2 (by simpa using h1) (by simpa using h2) hk
def start (N : List Str) (vs : List V) : St := vs.map some ++ List.replicate (N.length - vs.length) none
def cxOf (CX : CXT) (P : Program) (w : World) (K : W.Frag) (mg : Str -> Option Value) (base : Heap) (N : List Str) (qual : Str) (scope : Scope) (f : Addr) (cd : Value) (A : Around) (outer : List Env) (s : Shared) (H : Hp) (E : XK) : Cx where
 prog := P
 w := w
 K := K
 mg := mg
 base := base
 A := A.deeper (envOfC qual scope s.heap.objs.size f cd)
 N := N
 s₀ := s
 H₀ := H
 env := envOfC qual scope s.heap.objs.size f cd
 outer := outer
 stack := envOfC qual scope s.heap.objs.size f cd :: outer
 ex := []
 calm := true
 fn := fun _ => true
 pn := []
 xe := fun e s' => wpAny (model P w) (A.deeper (envOfC qual scope s.heap.objs.size f cd)) (leaving (envOfC qual scope s.heap.objs.size f cd) e) (fun _ s'' => CX outer H s E e s'') (fun e' s'' => CX outer H s E e' s'') s'
theorem cell_has {sc : Scope} {n : Nat} {x : Str} (h : sc.names.lookup x = some .cell) : ∃ c, (cellsFrom n sc.names []).lookup x = some c := by
 have q := W.cellsFrom_some sc.names n [] (.inl h)
 exact Option.isSome_iff_exists.mp q
theorem inv_start {CX : CXT} {P : Program} {w : World} {K : W.Frag} {mg : Str -> Option Value} {base : Heap} {N ps : List Str} {qual : Str} {scope : Scope} {f : Addr} {cd : Value} {A : Around} {outer : List Env} {s s1 : Shared} {H : Hp} {E : XK} {us : List Value} {vs : List V}
  (S : FnScope N ps scope) (hd : A.handled = none) (e0 : Env0 P w K mg base A outer s H) (hl : vs.length = ps.length) (r : Vals vs us)
  (x : InCallC s s.heap.objs.size (bindL (envOfC qual scope s.heap.objs.size f cd).kindOf (ps.zip us) fun _ => none) (cellsFrom (s.heap.objs.size + 1) scope.names []) (bindC (envOfC qual scope s.heap.objs.size f cd).kindOf (ps.zip us) fun _ => none) s1) :
  Inv (cxOf CX P w K mg base N qual scope f cd A outer s H E) [] (start N vs) H s1 := by
 have hpl : ps.length <= N.length := by have := congrArg List.length S.pre; rw [length_take] at this; omega
 obtain ⟨h1, tk, rfl, hk⟩ := x.done
 have noA : ∀ b : Addr, b ∉ (cxOf CX P w K mg base N qual scope f cd A outer s H E).ex := fun b z => absurd (show b ∈ ([] : List Addr) from z) (by simp)
 refine ⟨⟨e0.mod, S.kind, rfl, rfl, Nat.le_refl _, fun y z c h1 h2 => ?_, fun y hy => ?_, fun y c _ h => ?_, fun _ => hd, Around.frames_deeper e0.frames, .inr ⟨rfl, rfl⟩, fun b z => absurd z (noA b), e0.bs, e0.bsz, fun b _ _ => noA b, fun b z => absurd z (noA b), e0.funs, e0.frf⟩,
  rfl, e0.bare, Un.kept hk, ⟨_, x.toInCall.ns, fun i y v h1 h2 h3 => ?_⟩, fun y c h => ⟨_, x.cell y c h⟩, e0.hok.fresh (Nat.le_refl _), fun y c h => ?_, fun p hp => absurd (show p ∈ ([] : List (Addr × Obj)) from hp) (by simp), e0.hok.kept hk, ?_⟩
 ·exact name_of_addr x.apart (PySem.mem_of_lookup h1) (PySem.mem_of_lookup h2)
 ·have hy : scope.names.lookup y = some .cell \/ scope.names.lookup y = some .free := hy
  rcases hy with hy | hy
  ·exact cell_has hy
  ·exact absurd rfl (S.nofree _ (PySem.mem_of_lookup hy))
 ·exact Nat.le_of_lt (x.above y c (PySem.mem_of_lookup h))
 ·have hi : i < vs.length := by
   unfold start at h2
   by_cases hi : i < vs.length
   ·exact hi
   ·rw [getElem?_append_right (by simpa using hi)] at h2
    rw [getElem?_replicate] at h2
    split at h2 <;> cases h2
  have ha : vs[i]? = some v := by
   unfold start at h2
   rw [getElem?_append_left (by simpa using hi), getElem?_map] at h2
   cases e : vs[i]? with
   | none => rw [e] at h2; cases h2
   | some a => rw [e] at h2; cases h2; rfl
  obtain ⟨u, hu, rv⟩ := r.get ha
  have hp : ps[i]? = some y := by
   rw [<- S.pre, getElem?_take_of_lt (by omega)]; exact h1
  have ndP : ps.Nodup := by rw [<- S.pre]; exact S.nd.sublist (take_sublist _ _)
  refine ⟨u, rv, ?_⟩
  rcases S.par y (mem_of_getElem? hp) with k | k
  ·exact .inl ⟨k, bindL_get ndP hp hu k⟩
  ·obtain ⟨c, e⟩ := cell_has (n := s.heap.objs.size + 1) k
   refine .inr ⟨.inl k, c, e, ?_⟩
   have q := x.cell y c e
   rw [bindC_get ndP hp hu (by show scope.names.lookup y ≠ _; rw [k]; decide)] at q
   exact q
 ·exact e0.hok.fresh (Nat.le_of_lt (x.above y c (PySem.mem_of_lookup h)))
 ·unfold start
  show _ = N.length
  rw [length_append, length_map, length_replicate]
  omega
theorem fn_of {CX : CXT} {P : Program} {w : World} {K : W.Frag} {mg : Str -> Option Value} {base : Heap} {k : Nat} {f : Addr} {name qual : Str} {params : Arguments} {body : List Stmt} {scope : Scope} {dV kV doc pm cdv ct oc : Value} {an od : Option Addr}
  {osl : Array (Option Value)} {N ps : List Str} {sp : Sp} (lk : K.lookup f = some ⟨oc, od, .func (W.fnOf name qual params body scope dV kV doc pm an cdv ct), osl⟩) (hcd : W.codeIn K cdv qual = true) (S : FnScope N ps scope)
  (len : ∀ vs H Q E, sp vs H Q E -> vs.length = ps.length)
  (hbody : ∀ (A : Around) (outer : List Env) (s : Shared) (H : Hp) (vs : List V) (Q : VK) (E : XK), Room k (A.deeper (envOfC qual scope s.heap.objs.size f cdv)) -> sp vs H Q E ->
   ∃ t, PSs (cxOf CX P w K mg base N qual scope f cdv A outer s H E) body t /\ t { nx := fun _ H' => Q .non H', rt := Q } (start N vs) H) :
  FnOk P w K mg base CX (k + 1) f (W.fnOf name qual params body scope dV kV doc pm an cdv ct) ps sp := by
 refine ⟨len, fun A outer s H args us vs Q E hr e0 hb r hsp => ?_⟩
 have hl := len _ _ _ _ hsp
 have KX : K.In s.heap := e0.mod.kin.keeps fun b o e => (e0.bs b o e).1
 have lim : s.heap.NoLimit := e0.mod.nolimit.keeps fun b o e => (e0.bs b o e).1
 have hkind : ∀ y ∈ ps.zip us, scope.names.lookup y.1 = some .local \/ (scope.names.lookup y.1 = some .cell /\ ((cellsFrom (s.heap.objs.size + 1) scope.names []).lookup y.1).isSome = true) := fun ⟨n, v⟩ hy => by
  rcases S.par n (of_mem_zip hy).1 with q | q
  ·exact .inl q
  ·exact .inr ⟨q, W.cellsFrom_some _ _ _ (.inl q)⟩
 refine codeAny_call_function hr.depth (KX _ _ lk) rfl S.co S.gen rfl (W.codeRec_of KX hcd) (hb _ _ _ _ ?_)
 refine wpAny_newFunctionEnv_cells S.kind hkind fun env he s1 x => ?_
 subst he
 refine ⟨lim.keeps x.toInCall.keep, codeAny_func ?_⟩
 obtain ⟨t, ht, hq⟩ := hbody A outer s H vs Q E (hr.deeper _) hsp
 have I : Inv (cxOf CX P w K mg base N qual scope f cdv A outer s H E) [] (start N vs) H s1 := inv_start S hr.hd e0 hl r x
 refine wpAny_mono (ht [] s1 (start N vs) H _ I hq) (fun fl s' hs => ?_) fun e s' hs => hs
 have fin : ∀ {σ' : St} {H' : Hp} {v : V} {u : Value}, Inv (cxOf CX P w K mg base N qual scope f cdv A outer s H E) [] σ' H' s' -> RelV v u -> Q v H' -> CE outer P w H s Q u s' :=
  fun {σ' H' v u} J rv q => ⟨v, H', J.os, J.bare, J.base, J.hok, rv, q⟩
 cases fl with
 | ret u =>
  obtain ⟨v, σ', H', J, rv, q⟩ := hs
  exact fin J rv q
 | next =>
  obtain ⟨σ', H', J, q⟩ := hs
  exact fin (v := V.non) (u := Value.none) J rfl q
 | brk =>
  obtain ⟨_, _, _, q⟩ := hs
  exact False.elim q
 | cont =>
  obtain ⟨_, _, _, q⟩ := hs
  exact False.elim q
end
section
section
variable {X : Cx} {x : Str} {p pos : Pos} {e : Expr} {es : List Expr} {t : TA} {id T : String} {r : List V -> Hp -> VK -> Prop}
def tCB (r : List V -> Hp -> VK -> Prop) (t : TA) : TE := fun σ H Q => t σ H fun vs H1 => r vs H1 Q
theorem l7 (hc : CallR X (.builtin id) r) (hg : Gl X x) (hm : X.mg x = none) (hv : bootBuiltins x = some (.builtin id)) (ha : PA X (e :: es) t) (hn : x ≠ "__name__" := by decide) (hdb : (x == ("__debug__" : Str)) = false := by decide)
  (he : starEach (e :: es) X.env = (false, eval e X.env) :: starEach es X.env := by rfl) (hpl : (backTo pos (starEach es X.env)).any (·.1) = false := by rfl) : PE X (.Call (.Name x p) (e :: es) [] pos) (tCB r t) := by
 intro pins s σ H Q I h
 refine wpAny_Call_Name_kw (X3 I hg hm hv ?_ hn hdb)
 exact PyProof.Rows.callWith_builtin1 (thn (ha pos pins s σ H _ I h) fun us s1 ⟨vs, H1, I1, r1, q1⟩ => hc pins s1 σ H1 vs us Q I1 r1 q1) he hpl
theorem L5 (hc : CallR X (.type T) r) (hg : Gl X x) (hm : X.mg x = none) (hv : bootBuiltins x = some (.type T)) (ha : PA X (e :: es) t) (hn : x ≠ "__name__" := by decide) (hdb : (x == ("__debug__" : Str)) = false := by decide)
  (he : starEach (e :: es) X.env = (false, eval e X.env) :: starEach es X.env := by rfl) (hpl : (backTo pos (starEach es X.env)).any (·.1) = false := by rfl) : PE X (.Call (.Name x p) (e :: es) [] pos) (tCB r t) := by
 intro pins s σ H Q I h
 refine wpAny_Call_Name_kw (X3 I hg hm hv ?_ hn hdb)
 exact PyProof.Rows.callWith_type1 (thn (ha pos pins s σ H _ I h) fun us s1 ⟨vs, H1, I1, r1, q1⟩ => hc pins s1 σ H1 vs us Q I1 r1 q1) he hpl
end
end
end L2
namespace HT
open PySem PyProof.Rows
theorem rcLt_int (A : Around) (s : Shared) (a : Int) (t : Tok) (c : Int) (u : Tok) (prog : Program) (w : World) (E : Value -> Shared -> Prop) (Q : Value -> Shared -> Prop) (h : Q (.bool (decide (a < c))) s) :
  wpAny (model prog w) A (richCompare .Lt (.int a t) (.int c u)) Q E s :=
 (PyProof.Rows.lt_int h : wpAny (model prog w) A (compareOp .Lt (.int a t) (.int c u)) Q E s)
section
open PySem.SeqAt
open PySem.AutoSeq1 (wpAny_loadPart')
open PySem.MeetsSeq PySem.MeetsSeq2 PySem.MeetsSeq3
end
section
variable {prog : Program} {w : World} {A : Around} {E : Value -> Shared -> Prop} {s : Shared}
def sIx (n d : Nat) : Option Int -> Nat
 | none => d
 | some v => if v < 0 then (v + (n : Int)).toNat else min v.toNat n
theorem sIx_none (n d : Nat) : sIx n d none = d := rfl
theorem sIx_nat (n d k : Nat) : sIx n d (some (k : Int)) = min k n := by
 show (if (k : Int) < 0 then ((k : Int) + (n : Int)).toNat else min (k : Int).toNat n) = min k n
 rw [if_neg (by omega), Int.toNat_natCast]
end
end HT
namespace L2
open List
open PySem PySem.Spec PyProof.Rows
section
abbrev TO := St -> Hp -> (Option Int -> Hp -> Prop) -> Prop
def PO (X : Cx) (e : Option Expr) (t : TO) : Prop :=
 ∀ (pins : List (Addr × Obj)) (s : Shared) (σ : St) (H : Hp) (Q : Option Int -> Hp -> Prop), Inv X pins σ H s -> t σ H Q ->
  wpAny (model X.prog X.w) X.A (evalPart e X.env) (fun u s' => ∃ o H', Inv X pins σ H' s' /\ IsPart u o /\ Q o H') X.xe s
def tNoPart : TO := fun _ H Q => Q none H
def tPart (t : TE) : TO := fun σ H Q => t σ H fun x H1 => ∃ i, x = .int i /\ Q (some i) H1
section
variable {X : Cx} {e : Expr} {te : TE} {lo hi : Option Expr} {tl th : TO} {pos p2 : Pos}
theorem po_none : PO X none tNoPart := by
 intro pins s σ H Q I h
 rw [evalPart_none]
 exact wpAny_pure ⟨none, H, I, .none, h⟩
theorem po_some (h : PE X e te) : PO X (some e) (tPart te) := by
 intro pins s σ H Q I hw
 rw [evalPart_some]
 refine thn (h pins s σ H _ I hw) fun u s1 hpat => ?_
 obtain ⟨x, H1, I1, r1, q1⟩ := hpat
 obtain ⟨i, rfl, q⟩ := q1
 obtain ⟨t, rfl⟩ := r1
 exact ⟨some i, H1, I1, .int i t, q⟩
def SlR (X : Cx) (r : V -> Option Int -> Option Int -> Hp -> VK -> Prop) : Prop :=
 ∀ (pins : List (Addr × Obj)) (s : Shared) (σ : St) (H : Hp) (x : V) (v vl vu : Value) (lo hi : Option Int) (sl : Addr) (Q : VK), Inv X pins σ H s -> RelV x v -> s.heap.IsSliceOf sl vl vu .none -> IsPart vl lo -> IsPart vu hi -> r x lo hi H Q ->
  ∃ T id, typeLookup (.type T) "__getitem__" = pure (some (.builtin id)) /\ s.TypeIs v T /\ wpAny (model X.prog X.w) X.A (getItem v (.ref sl)) (EP X pins σ Q) X.xe s
def tSl (r : V -> Option Int -> Option Int -> Hp -> VK -> Prop) (te : TE) (tl th : TO) : TE := fun σ H Q => te σ H fun x H1 => tl σ H1 fun l H2 => th σ H2 fun u H3 => r x l u H3 Q
theorem pe_slice {r : V -> Option Int -> Option Int -> Hp -> VK -> Prop} (hr : SlR X r) (he : PE X e te) (hl : PO X lo tl) (hu : PO X hi th) : PE X (.Subscript e (.Slice lo hi none p2) pos) (tSl r te tl th) := by
 intro pins s σ H Q I h
 refine Subscript_ (thn (he pins s σ H _ I h) fun v s1 hpat => ?_)
 obtain ⟨x, H1, I1, r1, q1⟩ := hpat
 refine wpAny_Slice (thn (hl pins s1 σ H1 _ I1 q1) fun vl s2 ⟨l, H2, I2, pl, q2⟩ => thn (hu pins s2 σ H2 _ I2 q2) fun vu s3 hpat => ?_)
 obtain ⟨u, H3, I3, pu, q3⟩ := hpat
 rw [evalPart_none]
 refine wpAny_pure ?_
 have I4 : Inv X pins σ H3 { s3 with heap := s3.heap.push { cls := .type "slice", data := .fields #[vl, vu, .none] } } := I3.kept (t' := s3.toks) fun b ob q => Heap.get?_push_of_some _ q
 obtain ⟨T, id, hT, ht, hg⟩ := hr pins { s3 with heap := s3.heap.push { cls := .type "slice", data := .fields #[vl, vu, .none] } } σ H3 x v vl vu l u s3.heap.objs.size Q I4 r1 (Heap.IsSliceOf.new ..) pl pu q3
 show wpAny (model X.prog X.w) X.A (subscriptTail e (.Slice lo hi none p2) v (.ref s3.heap.objs.size)) (EP X pins σ Q) X.xe { s3 with heap := s3.heap.push { cls := .type "slice", data := .fields #[vl, vu, .none] } }
 exact tail_any (ops := [.ref s3.heap.objs.size, v]) ht hT hg (by with_unfolding_all rfl)
def cutV (xs : List V) (lo hi : Option Int) : List V := (xs.drop (HT.sIx xs.length 0 lo)).take (HT.sIx xs.length xs.length hi - HT.sIx xs.length 0 lo)
theorem cutV_length (xs : List V) (lo hi : Option Int) : (cutV xs lo hi).length <= xs.length := by
 unfold cutV
 rw [length_take, length_drop]
 omega
end
end
section
def ixN (n : Nat) (i : Int) : Option Nat := if 0 <= i then (if i < n then some i.toNat else none) else if -(n : Int) <= i then some (i + n).toNat else none
def atI {α : Type} (xs : List α) (i : Int) : Option α := (ixN xs.length i).bind fun j => xs[j]?
theorem ixN_seq {n : Nat} {i : Int} {j : Nat} (h : ixN n i = some j) : seqIndex? i n = some j /\ j < n /\ -(n : Int) <= i /\ i < n := by
 unfold ixN at h
 by_cases h0 : 0 <= i
 ·rw [if_pos h0] at h
  by_cases h1 : i < n
  ·rw [if_pos h1] at h
   have e : i.toNat = j := Option.some.inj h
   exact ⟨by rw [seqIndex_of h0 h1, e], by omega, by omega, h1⟩
  ·rw [if_neg h1] at h; cases h
 ·rw [if_neg h0] at h
  by_cases h1 : -(n : Int) <= i
  ·rw [if_pos h1] at h
   have e : (i + n).toNat = j := Option.some.inj h
   exact ⟨by rw [seqIndex_neg (by omega) h1, e], by omega, h1, by omega⟩
  ·rw [if_neg h1] at h; cases h
theorem atI_get {α : Type} {xs : List α} {i : Int} {v : α} (h : atI xs i = some v) : ∃ j, seqIndex? i xs.length = some j /\ xs[j]? = some v /\ j < xs.length /\ -(xs.length : Int) <= i /\ i < xs.length := by
 unfold atI at h
 cases e : ixN xs.length i with
 | none => rw [e] at h; cases h
 | some j =>
  rw [e] at h
  obtain ⟨h1, h2, h3, h4⟩ := ixN_seq e
  exact ⟨j, h1, h, h2, h3, h4⟩
theorem atI_last {α : Type} (xs : List α) (v : α) : atI (xs ++ [v]) (-1) = some v := by
 have hl : (xs ++ [v]).length = xs.length + 1 := by simp
 have e : ixN (xs ++ [v]).length (-1) = some xs.length := by
  unfold ixN
  rw [hl, if_neg (by decide), if_pos (by omega)]
  congr 1
  omega
 unfold atI
 rw [e]
 show (xs ++ [v])[xs.length]? = some v
 simp
def PlainIx (b : Expr) : Prop := ∀ o i, subscripted b false o i = operate [o, i] (getItem o i)
def IxR (X : Cx) (r : R2) : Prop :=
 ∀ (value slice : Expr) (pins : List (Addr × Obj)) (s : Shared) (σ : St) (H : Hp) (x y : V) (v u : Value) (Q : VK), Inv X pins σ H s -> RelV x v -> RelV y u -> r x y H Q ->
  subscripted slice false v u = operate [v, u] (getItem v u) -> wpAny (model X.prog X.w) X.A (subscriptTail value slice v u) (EP X pins σ Q) X.xe s
def MtR (X : Cx) (id : String) (r : V -> List V -> Hp -> VK -> Prop) : Prop :=
 ∀ (pins : List (Addr × Obj)) (s : Shared) (σ : St) (H : Hp) (x : V) (xs : List V) (v : Value) (us : List Value) (Q : VK), Inv X pins σ H s -> RelV x v -> Vals xs us -> r x xs H Q ->
  wpAny (model X.prog X.w) X.A (call (.builtin id) (v :: us)) (EP X pins σ Q) X.xe s
section
variable {X : Cx} {a b : Expr} {ta tb : TE} {pos : Pos}
theorem pe_ix {r : R2} (hr : IxR X r) (ha : PE X a ta) (hb : PE X b tb) (hs : PlainIx b) : PE X (.Subscript a b pos) (tOp r ta tb) := by
 intro pins s σ H Q I h
 exact Subscript_ (binT ha hb I h fun v u s2 x y H2 I2 rx ry q => hr a b pins s2 σ H2 x y v u Q I2 rx ry q (hs _ _))
def rIxL (K : W.Frag) : R2 := fun x y H Q => ∃ p xs i v, x = .ref p /\ y = .int i /\ SqL K H p xs /\ atI xs i = some v /\ Q v H
theorem ix_list : IxR X (rIxL X.K) := by
 intro value slice pins s σ H x y v u Q I rx ry h hs
 obtain ⟨p, xs, i, z, rfl, rfl, hq, he, q⟩ := h
 cases rx
 obtain ⟨t, rfl⟩ := ry
 obtain ⟨its, r, pl, hz⟩ := I.list hq
 obtain ⟨j, h1, h2, h3, h4, h5⟩ := atI_get he
 obtain ⟨w, ew, rw'⟩ := r.get h2
 have hl := r.length
 have hn := K3
 have fin : EP X pins σ Q w s := ⟨z, H, I, rw', q⟩
 by_cases h0 : 0 <= i
 ·have hj : i.toNat = j := by
   rw [seqIndex_of h0 h5] at h1
   exact Option.some.inj h1
  exact item_listR pl.isList h0 (by omega) (by rw [hj]; simpa using ew) fin hs
 ·have hj : (i + (its.toArray.size : Int)).toNat = j := by
   rw [seqIndex_neg (by omega) h4] at h1
   rw [size_toArray, <- hl]
   exact Option.some.inj h1
  exact subscriptTail_builtinR (x := w) pl.isList.typeIs slot_list_getitem.lookup
   (wpAny_getItem_list_neg (Q := fun r s' => r = w /\ EP X pins σ Q r s') pl.isList (by omega) (by rw [size_toArray] <;> omega) (by omega) (by rw [hj]; simpa using ew) ⟨rfl, fin⟩) hs
theorem mapSeq_set (its : List Value) (n j : Nat) (u : Value) : Obj.mapSeq (·.setIfInBounds j u) { cls := .type "list", data := .seq its.toArray n } = { cls := .type "list", data := .seq (its.set j u).toArray n } := by
 simp [Obj.mapSeq]
theorem Inv.lst {pins : List (Addr × Obj)} {σ : St} {H : Hp} {s : Shared} {p : Addr} {xs : List V} (I : Inv X pins σ H s) (h : H p = some (.lst xs)) :
  ∃ (its : List Value) (n : Nat), Vals xs its /\ s.heap.get? p = some { cls := .type "list", data := .seq its.toArray n } /\ xs.length <= sizeLine := by
 obtain ⟨z, its, n, r, e⟩ := I.hok p _ h
 exact ⟨its, n, r, e, z⟩
theorem Inv.lstUpd {pins : List (Addr × Obj)} {σ : St} {H : Hp} {s : Shared} {p : Addr} {xs ys : List V} {its its' : List Value} {n n' : Nat} {f : Obj -> Obj} (I : Inv X pins σ H s) (h : H p = some (.lst xs))
  (ho : s.heap.get? p = some { cls := .type "list", data := .seq its.toArray n }) (hf : f { cls := .type "list", data := .seq its.toArray n } = { cls := .type "list", data := .seq its'.toArray n' }) (r : Vals ys its') (hz : ys.length <= sizeLine) (t : Nat) :
  Inv X pins σ (upd H p (.lst ys)) { s with heap := s.heap.update p f, toks := t } := by
 have e : (s.heap.update p f).get? p = some { cls := .type "list", data := .seq its'.toArray n' } := by
  rw [Heap.get?_update_self f ho (by rw [hf] <;> rfl), hf]
 refine I.write (x := p) (e := p) (by rw [h]; trivial) (.inl rfl) (fun b u hb q => (Heap.get?_update_other _ _ (Ne.symm hb)).trans q) ⟨_, e⟩ ?_
 exact ⟨hz, its', n', r, e⟩
def rSetL : V -> V -> V -> Hp -> (Hp -> Prop) -> Prop := fun o i v H Q => ∃ p xs k j, o = .ref p /\ i = .int k /\ H p = some (.lst xs) /\ ixN xs.length k = some j /\ Q (upd H p (.lst (xs.set j v)))
theorem D6 : PSet X rSetL := by
 intro pins s σ H o i v ov iv u Q I ro ri rv h
 obtain ⟨p, xs, k, j, rfl, rfl, hp, hj, q⟩ := h
 cases ro
 obtain ⟨t, rfl⟩ := ri
 obtain ⟨its, n, r, ho, hz⟩ := I.lst hp
 obtain ⟨h1, h2, h3, h4⟩ := ixN_seq hj
 have hl := r.length
 have hn := K3
 have I' : Inv X pins σ (upd H p (.lst (xs.set j v))) { s with heap := s.heap.update p (Obj.mapSeq (·.setIfInBounds j u)) } :=
  I.lstUpd hp ho (mapSeq_set its n j u) (r.set rv j) (by rw [length_set]; exact hz) s.toks
 by_cases h0 : 0 <= k
 ·have hk : k.toNat = j := by
   rw [seqIndex_of h0 h4] at h1
   exact Option.some.inj h1
  exact W.ki_setAt ho h0 (by omega) (by rw [size_toArray, <- hl]; exact h4) (by rw [hk]; exact ⟨_, I', q⟩)
 ·have hk : (k + (its.toArray.size : Int)).toNat = j := by
   rw [seqIndex_neg (by omega) h3] at h1
   rw [size_toArray, <- hl]
   exact Option.some.inj h1
  exact W.ki_setBack ho (by omega) (by rw [size_toArray, <- hl]; exact h3) (by omega) (by rw [hk]; exact ⟨_, I', q⟩)
theorem zy1 (lo hi : Option Int) (n : Nat) : (sliceBounds lo hi none n).1 = ((HT.sIx n 0 lo : Nat) : Int) /\ (sliceBounds lo hi none n).2.1 = ((HT.sIx n n hi : Nat) : Int) /\ (sliceBounds lo hi none n).2.2 = 1 := by
 refine ⟨?_, ?_, rfl⟩
 ·cases lo with
  | none => simp [sliceBounds, HT.sIx]
  | some i =>
   simp only [sliceBounds, HT.sIx, Option.getD_none, show (1 : Int) > 0 by decide, if_true]
   by_cases h : i < 0
   ·simp only [h, if_true] <;> omega
   ·simp only [h, if_false] <;> omega
 ·cases hi with
  | none => simp [sliceBounds, HT.sIx]
  | some i =>
   simp only [sliceBounds, HT.sIx, Option.getD_none, show (1 : Int) > 0 by decide, if_true]
   by_cases h : i < 0
   ·simp only [h, if_true] <;> omega
   ·simp only [h, if_false] <;> omega
theorem D5 (its : List Value) (lo hi : Option Int) : slicePick its.toArray lo hi none = ((its.drop (HT.sIx its.length 0 lo)).take (HT.sIx its.length its.length hi - HT.sIx its.length 0 lo)).toArray := by
 obtain ⟨h1, h2, h3⟩ := zy1 lo hi its.toArray.size
 unfold slicePick
 rw [h1, h2, h3]
 simp only [sliceRange_one, pick_run, size_toArray] <;> rfl
def rSlL (K : W.Frag) : V -> Option Int -> Option Int -> Hp -> VK -> Prop := fun x lo hi H Q => ∃ a xs, x = .ref a /\ SqL K H a xs /\ ∀ p, H p = none -> Q (.ref p) (upd H p (.lst (cutV xs lo hi)))
theorem sl_list : SlR X (rSlL X.K) := by
 intro pins s σ H x v vl vu lo hi sl Q I rx hs pl pu h
 obtain ⟨a, xs, rfl, hx, q⟩ := h
 cases rx
 obtain ⟨its, r, ht, hz⟩ := I.list hx
 have hlen := r.length
 refine ⟨"list", _, slot_list_getitem.lookup, ht.isList.typeIs, ?_⟩
 refine wpAny_getItem_list_slice ht.isList hs pl pu .none (by simp) ?_ (by rw [size_toArray] <;> omega)
 rw [D5, <- hlen]
 refine ⟨.ref s.heap.objs.size, _, I.laid (t' := s.toks) (o := .lst (cutV xs lo hi)) (fun b ob q => Heap.get?_push_of_some _ q) (Nat.le_refl _) ?_, rfl, q _ (I.hok.fresh (Nat.le_refl _))⟩
 exact ⟨Nat.le_trans (cutV_length xs lo hi) hz, _, 0, (r.drop (HT.sIx xs.length 0 lo)).take (HT.sIx xs.length xs.length hi - HT.sIx xs.length 0 lo), Heap.get?_push_size _ rfl⟩
def G3 : V -> Bool
 | .non => true
 | .bl _ => true
 | .int _ => true
 | .str _ => true
 | _ => false
def eqV : V -> V -> Bool
 | .non, .non => true
 | .bl a, .bl b => a == b
 | .bl a, .int b => (if a then 1 else 0) == b
 | .int a, .bl b => a == (if b then 1 else 0)
 | .int a, .int b => a == b
 | .str a, .str b => a == b
 | _, _ => false
theorem eqAt_V {A : Around} {s : Shared} {y x : V} {u v : Value} (ry : RelV y u) (rx : RelV x v) (fy : G3 y = true) (fx : G3 x = true) : SeqAt.EqAt A s u v (eqV y x) := by
 cases y with
 | non =>
  cases ry
  cases x with
  | non => cases rx; exact SeqAt.EqAt.same _
  | bl b => cases rx; exact SeqAt.EqAt.none_bool b
  | int b => obtain ⟨t, rfl⟩ := rx; exact SeqAt.EqAt.none_int b t
  | str b => obtain ⟨t, rfl⟩ := rx; exact SeqAt.EqAt.none_str b t
  | _ => exact absurd (show false = true from fx) Bool.false_ne_true
 | bl a =>
  cases ry
  cases x with
  | non => cases rx; exact SeqAt.EqAt.bool_none a
  | bl b => cases rx; exact SeqAt.EqAt.bool_bool a b
  | int b => obtain ⟨t, rfl⟩ := rx; exact SeqAt.EqAt.bool_int a b t
  | str b => obtain ⟨t, rfl⟩ := rx; exact SeqAt.EqAt.bool_str a b t
  | _ => exact absurd (show false = true from fx) Bool.false_ne_true
 | int a =>
  obtain ⟨t', rfl⟩ := ry
  cases x with
  | non => cases rx; exact SeqAt.EqAt.int_none a t'
  | bl b => cases rx; exact SeqAt.EqAt.int_bool a t' b
  | int b => obtain ⟨t, rfl⟩ := rx; exact SeqAt.EqAt.int_int a t' b t
  | str b => obtain ⟨t, rfl⟩ := rx; exact SeqAt.EqAt.int_str a t' b t
  | _ => exact absurd (show false = true from fx) Bool.false_ne_true
 | str a =>
  obtain ⟨t', rfl⟩ := ry
  cases x with
  | non => cases rx; exact SeqAt.EqAt.str_none a t'
  | bl b => cases rx; exact SeqAt.EqAt.str_bool a t' b
  | int b => obtain ⟨t, rfl⟩ := rx; exact SeqAt.EqAt.str_int a t' b t
  | str b => obtain ⟨t, rfl⟩ := rx; exact SeqAt.EqAt.str_str a t' b t
  | _ => exact absurd (show false = true from fx) Bool.false_ne_true
 | _ => exact absurd (show false = true from fy) Bool.false_ne_true
def eqU (x : V) (u : Value) : Bool := match u with
 | .none => eqV .non x
 | .bool b => eqV (.bl b) x
 | .int i _ => eqV (.int i) x
 | .str z _ => eqV (.str z) x
 | _ => false
theorem eqU_of {x y : V} {u : Value} (r : RelV y u) (f : G3 y = true) : eqU x u = eqV y x := by
 cases y with
 | non => cases r; rfl
 | bl b => cases r; rfl
 | int i => obtain ⟨t, rfl⟩ := r; rfl
 | str z => obtain ⟨t, rfl⟩ := r; rfl
 | _ => exact absurd (show false = true from f) Bool.false_ne_true
theorem any_eqU {x : V} : ∀ {xs : List V} {us : List Value}, Vals xs us -> xs.all G3 = true -> us.any (eqU x) = xs.any fun y => eqV y x
 | _, _, .nil, _ => rfl
 | y :: xs, u :: us, .cons r t, f => by
  rw [all_cons, Bool.and_eq_true] at f
  rw [any_cons, any_cons, eqU_of r f.1, any_eqU t f.2]
theorem B8 {A : Around} {s : Shared} {x : V} {v : Value} (rx : RelV x v) (fx : G3 x = true) : ∀ {xs : List V} {us : List Value}, Vals xs us -> xs.all G3 = true -> ∀ u ∈ us, SeqAt.EqAt A s u v (eqU x u)
 | _, _, .nil, _ => fun u hu => by cases hu
 | y :: xs, u :: us, .cons r t, f => fun u' hu => by
  rw [all_cons, Bool.and_eq_true] at f
  rcases List.mem_cons.mp hu with rfl | hu
  ·rw [eqU_of r f.1]; exact eqAt_V r rx f.1 fx
  ·exact B8 rx fx t f.2 u' hu
def inV (x : V) (xs : List V) : Bool := xs.any fun y => eqV y x
def rIn (K : W.Frag) (neg : Bool) : R2 := fun x y H Q => ∃ p xs, y = .ref p /\ (SqL K H p xs \/ SqT K H p xs) /\ G3 x = true /\ xs.all G3 = true /\ Q (.bl (if neg then !inV x xs else inV x xs)) H
theorem zx7 : OpR X (compareOp .In) (rIn X.K false) := by
 intro pins s σ H x y v u Q I rx ry h
 obtain ⟨p, xs, rfl, hq, fx, fs, q⟩ := h
 cases ry
 rcases hq with hq | hq
 ·obtain ⟨its, r, pl, hz⟩ := I.list hq
  refine SeqAt.in_listAt (eqU x) pl.isList (fun w hw => B8 rx fx r fs w (by simpa using hw)) ⟨.bl _, H, I, rfl, ?_⟩
  rw [show its.toArray.any (eqU x) = its.any (eqU x) by simp, any_eqU r fs]
  exact q
 ·obtain ⟨its, r, pl, hz⟩ := I.tuple hq
  refine SeqAt.in_tupleAt (eqU x) pl (fun w hw => B8 rx fx r fs w (by simpa using hw)) ⟨.bl _, H, I, rfl, ?_⟩
  rw [show its.toArray.any (eqU x) = its.any (eqU x) by simp, any_eqU r fs]
  exact q
theorem O6 : CallR X (.builtin "len") (fun xs H Q => ∃ p ys, xs = [.ref p] /\ (SqL X.K H p ys \/ SqT X.K H p ys) /\ Q (.int ys.length) H) := by
 intro pins s σ H xs us Q I r h
 obtain ⟨p, ys, rfl, hq, q⟩ := h
 obtain ⟨u, rfl, rx⟩ := V7 r
 cases rx
 have hn := K3
 rcases hq with hq | hq
 ·obtain ⟨its, r', pl, hz⟩ := I.list hq
  have hlen := r'.length
  exact Calls.call_len_list pl.isList (by simp only [size_toArray] <;> omega) ⟨.int ys.length, H, I.tok _, ⟨s.toks + 1, by rw [size_toArray, hlen]⟩, q⟩
 ·obtain ⟨its, r', pl, hz⟩ := I.tuple hq
  have hlen := r'.length
  exact len_tuple pl (by simp only [size_toArray] <;> omega) ⟨.int ys.length, H, I.tok _, ⟨s.toks + 1, by rw [size_toArray, hlen]⟩, q⟩
theorem zu1 : CallR X (.builtin "len") (fun xs H Q => ∃ z, xs = [.str z] /\ z.length <= sizeLine /\ Q (.int z.length) H) := by
 intro pins s σ H xs us Q I r h
 obtain ⟨z, rfl, hz, q⟩ := h
 obtain ⟨u, rfl, t, rfl⟩ := V7 r
 have hn := K3
 exact len_str (by omega) ⟨.int z.length, H, I.tok _, ⟨_, rfl⟩, q⟩
theorem CallR.or {f : Value} {r r' : List V -> Hp -> VK -> Prop} (h : CallR X f r) (h' : CallR X f r') : CallR X f (fun xs H Q => r xs H Q \/ r' xs H Q) := by
 intro pins s σ H xs us Q I rs q
 rcases q with q | q
 ·exact h pins s σ H xs us Q I rs q
 ·exact h' pins s σ H xs us Q I rs q
theorem zu0 : CallR X (.type "list") (fun xs H Q => ∃ p ys, xs = [.ref p] /\ (SqL X.K H p ys \/ SqT X.K H p ys) /\ ∀ l, H l = none -> Q (.ref l) (upd H l (.lst ys))) := by
 intro pins s σ H xs us Q I r h
 obtain ⟨p, ys, rfl, hq, q⟩ := h
 obtain ⟨u, rfl, rx⟩ := V7 r
 cases rx
 have fin : ∀ (its : List Value), Vals ys its -> ys.length <= sizeLine -> ∀ (h' : Heap) (c' : Nat), (∀ b o', s.heap.get? b = some o' -> h'.get? b = some o') ->
   h'.get? s.heap.objs.size = some { cls := .type "list", dict := none, data := .seq its.toArray c', slots := #[] } -> EP X pins σ Q (.ref s.heap.objs.size) { s with heap := h' } := fun its r' hz h' c' kp e =>
  ⟨.ref s.heap.objs.size, _, I.laid (t' := s.toks) kp (Nat.le_refl _) (show ObjOk X.prog X.w _ h' _ (.lst ys) from ⟨hz, its, c', r', e⟩), rfl, q _ (I.hok.fresh (Nat.le_refl _))⟩
 rcases hq with hq | hq
 ·obtain ⟨its, r', pl, hz⟩ := I.list hq
  have hlen := r'.length
  obtain ⟨o, ho, hc, n, hd⟩ := pl.isList
  exact call_list_seq p (.inl rfl) ho hc hd (fun h' c' kp e => fin its r' hz h' c' kp e) (by simp only [size_toArray] <;> omega)
 ·obtain ⟨its, r', pl, hz⟩ := I.tuple hq
  have hlen := r'.length
  obtain ⟨o, ho, hc, n, hd⟩ := pl
  exact call_list_seq p (.inr rfl) ho hc hd (fun h' c' kp e => fin its r' hz h' c' kp e) (by simp only [size_toArray] <;> omega)
def tyV (K : W.Frag) (T : String) (x : V) (H : Hp) : Prop := match x with
 | .str _ => T = "str"
 | .int _ => T = "int"
 | .ref p => (T = "list" /\ ∃ xs, SqL K H p xs) \/ (T = "tuple" /\ ∃ o, K.lookup p = some o /\ o.cls = .type "tuple" /\ o.dict = none) \/
   (T = "dict" /\ ((∃ kvs, H p = some (.dK kvs)) \/ ∃ kvs, H p = some (.dT kvs))) \/ (T = "set" /\ ∃ S n, H p = some (.set S n))
 | _ => False
theorem tyV_is {pins : List (Addr × Obj)} {σ : St} {H : Hp} {s : Shared} {T : String} {x : V} {v : Value} (I : Inv X pins σ H s) (r : RelV x v) (ty : tyV X.K T x H) :
  s.TypeIs v T /\ ∀ a, v = .ref a -> ∃ ob, s.heap.get? a = some ob /\ ob.dict = none := by
 cases x with
 | str z =>
  obtain ⟨t, rfl⟩ := r
  cases (show T = "str" from ty)
  exact ⟨typeIs_str s z t, fun _ e => nomatch e⟩
 | int i =>
  obtain ⟨t, rfl⟩ := r
  cases (show T = "int" from ty)
  exact ⟨typeIs_int s i t, fun _ e => nomatch e⟩
 | ref p =>
  cases r
  rcases ty with ⟨rfl, xs, hq⟩ | ⟨rfl, o, hk, hc, hd⟩ | ⟨rfl, hk⟩ | ⟨rfl, S, n, hk⟩
  ·obtain ⟨its, _, pl, _⟩ := I.list hq
   refine ⟨pl.isList.typeIs, fun a e => ?_⟩
   cases e
   obtain ⟨o, n, e, c, hd, _⟩ := pl
   exact ⟨o, e, hd⟩
  ·refine ⟨⟨o, I.kIn p o hk, hc⟩, fun a e => ?_⟩
   cases e
   exact ⟨o, I.kIn _ o hk, hd⟩
  ·have z : ∃ o, s.heap.get? p = some o /\ o.ExactDict := by
    rcases hk with ⟨kvs, hk⟩ | ⟨kvs, hk⟩
    ·obtain ⟨_, _, _, _, o, _, _, e, ex, _⟩ := I.hok p _ hk
     exact ⟨o, e, ex⟩
    ·obtain ⟨_, _, _, _, o, _, _, e, ex, _⟩ := I.hok p _ hk
     exact ⟨o, e, ex⟩
   obtain ⟨o, e, ex⟩ := z
   refine ⟨⟨o, e, ex.1⟩, fun a e2 => ?_⟩
   cases e2
   exact ⟨o, e, ex.2.1⟩
  ·obtain ⟨o, _, _, _, e, ex, _⟩ := I.hok p _ hk
   refine ⟨⟨o, e, ex.1⟩, fun a e2 => ?_⟩
   cases e2
   exact ⟨o, e, ex.2.1⟩
 | _ => exact False.elim ty
def tBM0 (K : W.Frag) (T : String) (r : V -> List V -> Hp -> VK -> Prop) (to : TE) : TE := fun σ H Q => to σ H fun x H1 => tyV K T x H1 /\ r x [] H1 Q
def tBM (K : W.Frag) (T : String) (r : V -> List V -> Hp -> VK -> Prop) (to : TE) (t : TA) : TE := fun σ H Q => to σ H fun x H1 => tyV K T x H1 /\ t σ H1 fun xs H2 => r x xs H2 Q
variable {o e : Expr} {es : List Expr} {to : TE} {t : TA} {name : Str} {apos cpos : Pos} {T id : String} {r : V -> List V -> Hp -> VK -> Prop}
theorem pe_bm0 (pa : PlainAttrs T) (slot : Slot T name id) (hty : typeOf (.builtin id) = pure (.type "method_descriptor")) (hm : MtR X id r) (ho : PE X o to)
  (hbase : attributeBase o name X.env (eval o X.env) = eval o X.env := by rfl) (hline : (apos.endLine == cpos.line) = true := by rfl) : PE X (.Call (.Attribute o name apos) [] [] cpos) (tBM0 X.K T r to) := by
 intro pins s σ H Q I h
 refine wpAny_Call_method0_late hbase hline (thn (ho pins s σ H _ I h) fun v s1 hpat => ?_)
 obtain ⟨x, H1, I1, r1, ty, q1⟩ := hpat
 obtain ⟨h1, h2⟩ := tyV_is I1 r1 ty
 exact ⟨T, id, pa, slot, hty, h1, h2, Calls.callWith_builtin rfl (PySem.evalArgs_none (hm pins s1 σ H1 x [] v [] Q I1 r1 .nil q1))⟩
theorem pe_bm (pa : PlainAttrs T) (slot : Slot T name id) (hty : typeOf (.builtin id) = pure (.type "method_descriptor")) (hm : MtR X id r) (ho : PE X o to) (ha : PA X (e :: es) t)
  (hbase : attributeBase o name X.env (eval o X.env) = eval o X.env := by rfl)
  (hfew : ((backTo cpos (starEach (e :: es) X.env)).all (fun x => !x.1) && (backToKw cpos (keywordEach [] X.env)).all (fun x => x.1.isSome)
   && decide ((e :: es).length + ([] : List Keyword).length + (if ([] : List Keyword).isEmpty then 0 else 1) < 30)) = true := by rfl)
  (hline : (apos.endLine == cpos.line) = true := by rfl) (hs : starEach (e :: es) X.env = (false, eval e X.env) :: starEach es X.env := by rfl) (hplain : (backTo cpos (starEach es X.env)).any (·.1) = false := by rfl) :
  PE X (.Call (.Attribute o name apos) (e :: es) [] cpos) (tBM X.K T r to t) := by
 intro pins s σ H Q I h
 refine wpAny_Call_method_late hbase hfew hline rfl (thn (ho pins s σ H _ I h) fun v s1 hpat => ?_)
 obtain ⟨x, H1, I1, r1, ty, q1⟩ := hpat
 obtain ⟨h1, h2⟩ := tyV_is I1 r1 ty
 refine ⟨T, id, pa, slot, hty, h1, h2, ?_⟩
 have hA := ha cpos pins s1 σ H1 _ I1 q1
 rw [hs] at hA ⊢
 refine Calls.callWith_builtin (by show (false || (backTo cpos (starEach es X.env)).any (·.1)) = false; rw [hplain] <;> rfl) (Calls.evalArgs_plain ?_)
 exact thn hA fun us s2 ⟨vs, H2, I2, r2, q2⟩ => hm pins s2 σ H2 x vs v us Q I2 r1 r2 q2
end
end
section
def MtM (X : Cx) (id : String) (r : V -> List V -> Hp -> VK -> Prop) : Prop :=
 ∀ (pins : List (Addr × Obj)) (s : Shared) (σ : St) (H : Hp) (x : V) (xs : List V) (v : Value) (us : List Value) (Q : VK), Inv X pins σ H s -> RelV x v -> Vals xs us -> r x xs H Q ->
  wpAny (model X.prog X.w) X.A (call (.builtin id) (v :: us)) (EP X pins σ Q) X.xe s
theorem Vals.one : ∀ {x : V} {us : List Value}, Vals [x] us -> ∃ u, us = [u] /\ RelV x u
 | _, _, .cons r .nil => ⟨_, rfl, r⟩
theorem Vals.zero : ∀ {us : List Value}, Vals [] us -> us = []
 | _, .nil => rfl
theorem Vals.dropLast {xs : List V} {us : List Value} (h : Vals xs us) : Vals xs.dropLast us.dropLast := by
 induction h with
 | nil => exact .nil
 | cons r t ih =>
  cases t with
  | nil => exact .nil
  | cons q t' => exact .cons r ih
theorem Vals.rep {xs : List V} {us : List Value} (h : Vals xs us) : ∀ k : Nat, Vals (List.replicate k xs).flatten (List.replicate k us).flatten
 | 0 => .nil
 | k + 1 => by
  rw [replicate_succ, replicate_succ, flatten_cons, flatten_cons]
  exact Vals.append h (Vals.rep h k)
theorem erase_last {α : Type} (l : List α) : l.eraseIdx (l.length - 1) = l.dropLast := by
 induction l with
 | nil => rfl
 | cons a r ih =>
  cases r with
  | nil => rfl
  | cons b r =>
   have e : (a :: b :: r).length - 1 = ((b :: r).length - 1) + 1 := by
    have h1 : (a :: b :: r).length = r.length + 2 := rfl
    have h2 : (b :: r).length = r.length + 1 := rfl
    omega
   rw [e, eraseIdx_cons_succ, ih]
   all_goals rfl
theorem zv3 (its : List Value) : ∀ (k : Nat) (acc : List Value),
  List.foldl (fun x1 x2 => x1 ++ x2) acc.toArray (List.replicate k its.toArray) = (acc ++ (List.replicate k its).flatten).toArray
 | 0, acc => by simp
 | k + 1, acc => by
  have e : acc.toArray ++ its.toArray = (acc ++ its).toArray := by simp
  have e2 : (acc ++ its) ++ (List.replicate k its).flatten = acc ++ (List.replicate (k + 1) its).flatten := by
   rw [replicate_succ, flatten_cons, append_assoc]
  rw [<- e2, <- zv3 its k (acc ++ its), <- e, replicate_succ, foldl_cons]
section
variable {X : Cx} {pins : List (Addr × Obj)} {σ : St} {H : Hp} {s : Shared} {l b : Addr} {xs ys zs : List V}
theorem Inv.lset {its its' : List Value} {n : Nat} {f : Array Value -> Array Value} {t' : Nat} (I : Inv X pins σ H s) (hH : H l = some (.lst xs))
  (e : s.heap.get? l = some { cls := .type "list", data := .seq its.toArray n }) (hf : f its.toArray = its'.toArray) (hv : Vals ys its') (hz : ys.length <= sizeLine) :
  Inv X pins σ (upd H l (.lst ys)) { s with heap := s.heap.update l (Obj.mapSeq f), toks := t' } := by
 have q := PySem.IsL.update e f
 rw [hf] at q
 refine I.write (x := l) (e := l) (by rw [hH]; exact trivial) (.inl rfl) (fun b' u hb hu => (Heap.get?_update_other s.heap (Obj.mapSeq f) (Ne.symm hb)).trans hu) ⟨_, q⟩ ?_
 exact ⟨hz, its', _, hv, q⟩
theorem Inv.lnew {its : List Value} {t' : Nat} (I : Inv X pins σ H s) (hv : Vals ys its) (hz : ys.length <= sizeLine) :
  Inv X pins σ (upd H s.heap.objs.size (.lst ys)) { s with heap := s.heap.push { cls := .type "list", data := .seq its.toArray }, toks := t' } :=
 I.laid (fun _ _ q => Heap.get?_push_of_some _ q) (Nat.le_refl _) ⟨hz, its, 0, hv, Heap.get?_push_size _ rfl⟩
theorem Inv.fresh (I : Inv X pins σ H s) : H s.heap.objs.size = none := I.hok.fresh (Nat.le_refl _)
theorem Inv.lstM (I : Inv X pins σ H s) (hH : H l = some (.lst xs)) : xs.length <= sizeLine /\ ∃ (its : List Value) (n : Nat), Vals xs its /\ xs.length = its.length /\ s.heap.get? l = some { cls := .type "list", data := .seq its.toArray n } := by
 obtain ⟨z, its, n, r, e⟩ := I.hok l _ hH
 exact ⟨z, its, n, r, r.length, e⟩
theorem notLongL {n : Nat} (h : n <= sizeLine) : Builtin.List.listTooLong n = false := by
 unfold Builtin.List.listTooLong
 exact decide_eq_false (by omega)
end
section
variable {X : Cx}
def rAppend : V -> List V -> Hp -> VK -> Prop := fun x vs H Q => ∃ l xs y, x = .ref l /\ vs = [y] /\ H l = some (.lst xs) /\ xs.length < sizeLine /\ Q .non (upd H l (.lst (xs ++ [y])))
theorem S4 : MtM X "list.append" rAppend := by
 intro pins s σ H x vs v us Q I rx rv h
 obtain ⟨l, xs, y, rfl, rfl, hH, hz, q⟩ := h
 cases rx
 obtain ⟨u, rfl, ru⟩ := rv.one
 obtain ⟨z, its, n, r, hl, e⟩ := I.lstM hH
 refine call_meets F.slot_list_append ⟨_, e, rfl⟩ F.entry_list_append (F.args_list_append_2 _ _) (PySem.list_append l its.toArray n u (by rw [size_toArray]; omega)) ⟨e, ?_⟩
 refine ⟨.non, _, I.lset (its' := its ++ [u]) hH e (by simp) (r.append (.cons ru .nil)) ?_, rfl, q⟩
 rw [length_append, length_singleton]
 omega
def rPop : V -> List V -> Hp -> VK -> Prop := fun x vs H Q => ∃ l xs y, x = .ref l /\ vs = [] /\ H l = some (.lst xs) /\ xs[xs.length - 1]? = some y /\ Q y (upd H l (.lst xs.dropLast))
theorem mt_pop : MtM X "list.pop" rPop := by
 intro pins s σ H x vs v us Q I rx rv h
 obtain ⟨l, xs, y, rfl, rfl, hH, hy, q⟩ := h
 cases rx
 have hus := rv.zero
 subst hus
 obtain ⟨z, its, n, r, hl, e⟩ := I.lstM hH
 obtain ⟨u, hu, ru⟩ := r.get hy
 have hy' : its.toArray[its.toArray.size - 1]? = some u := by
  show its.toArray[its.length - 1]? = some u
  rw [<- Array.getElem?_toList, <- hl]
  exact hu
 refine call_meets F.slot_list_pop ⟨_, e, rfl⟩ F.entry_list_pop (F.args_list_pop_1 _) (MeetsSeq.list_pop_last l its.toArray n u hy' (by rw [size_toArray]; omega)) ⟨e, ?_⟩
 refine ⟨y, _, I.lset (its' := its.dropLast) hH e ?_ r.dropLast ?_, ru, q⟩
 ·show its.toArray.eraseIdxIfInBounds (its.toArray.size - 1) = its.dropLast.toArray
  rw [size_toArray, eraseIdxIfInBounds_toArray, erase_last]
 ·rw [length_dropLast]
  omega
def rRep : R2 := fun x y H Q => ∃ l k xs, x = .ref l /\ y = .int k /\ H l = some (.lst xs) /\ -(2 ^ 63) <= k /\ k < 2 ^ 63 /\ xs.length * k.toNat <= sizeLine /\
 ∀ p, H p = none -> Q (.ref p) (upd H p (.lst (List.replicate k.toNat xs).flatten))
theorem len_rep {α : Type} (xs : List α) (k : Nat) : (List.replicate k xs).flatten.length = k * xs.length := by
 induction k with
 | zero => simp
 | succ k ih => rw [replicate_succ, flatten_cons, length_append, ih, Nat.succ_mul, Nat.add_comm]
theorem op_rep : OpR X (binaryOp .Mult) rRep := by
 intro pins s σ H x y v u Q I rx ry h
 obtain ⟨l, k, xs, rfl, rfl, hH, h1, h2, hz, q⟩ := h
 cases rx
 obtain ⟨t, rfl⟩ := ry
 obtain ⟨z, its, n, r, hl, e⟩ := I.lstM hH
 have hlen : its.toArray.size * k.toNat <= sizeLine := by rw [size_toArray, <- hl]; exact hz
 have hcap : ¬ its.toArray.size * k.toNat > (2 ^ 63 - 1) / 8 := by
  have : (sizeLine : Nat) <= (2 ^ 63 - 1) / 8 := by decide
  omega
 have hfit : ¬ (!Builtin.List.listFitsIndex k) = true := by
  rw [fitsIndex_both h1 h2]
  exact Bool.false_ne_true
 have hlong : ¬ Builtin.List.listTooLong (its.toArray.size * k.toNat) = true := by
  rw [notLongL hlen]
  exact Bool.false_ne_true
 have hnew : List.foldl (fun x1 x2 => x1 ++ x2) #[] (List.replicate (if its.toArray.isEmpty = true then 0 else k.toNat) its.toArray) = (List.replicate k.toNat its).flatten.toArray := by
  have f0 : ∀ m : Nat, List.foldl (fun x1 x2 => x1 ++ x2) #[] (List.replicate m its.toArray) = (List.replicate m its).flatten.toArray := fun m => by
   have := zv3 its m []
   rw [nil_append] at this
   exact this
  rw [f0]
  cases its with
  | nil => simp
  | cons a r' => rw [if_neg (by simp)]
 refine wpAny_binaryOp_repeat_ref (T := "list") (U := "int") (by decide) ⟨_, e, rfl⟩ (fun s' => typeIs_int s' k t) noFill_list_mul F.fills_int_mul F.slot_int_rmul repeat_list F.slot_int_index.lookup
  (call_meets F.slot_int_rmul (typeIs_int s k t) F.entry_int_rmul (F.args_int_rmul_2 _ _) (int___rmul___int_list k t l its.toArray n)
   ⟨e, rfl, ⟨_, e, rfl⟩, call_meets F.slot_list_mul ⟨_, e, rfl⟩ F.entry_list_mul (F.args_list_mul_2 _ _) (AutoListH.list___mul___list_int_3 l its.toArray n k t hfit hcap hlong) ⟨e, ?_⟩⟩)
 rw [hnew]
 exact ⟨.ref _, _, I.lnew (t' := s.toks) (r.rep k.toNat) (by rw [len_rep, Nat.mul_comm]; exact hz), rfl, q _ I.fresh⟩
end
section
variable {prog : Program} {w : World} {A : Around} {E : Value -> Shared -> Prop} {s : Shared}
end
section
variable {X : Cx}
end
end
end L2
namespace Att
open PySem PySem.W PySem.Calls PyProof.Rows
theorem K5 {P : Params} {h : Heap} : ∀ (ns : List Int) (vs : List Value), WellAll P h vs (ns.map WData.int) -> IntsAre vs ns := by
 intro ns
 induction ns with
 | nil =>
  intro vs w
  rw [List.map_nil] at w
  cases w
  exact .nil
 | cons n ns ih =>
  intro vs w
  rw [List.map_cons] at w
  cases w with
  | cons a b =>
   cases a
   exact .cons _ _ (ih _ b)
theorem script_of {l : OpenLaw} {n : Nat} (hn : l.most = some n) {P : Params} {h : Heap} {args : List WData} {vals : List Value}
  (hpre : l.row.toRowW.claim.pre args = true) (hwl : WellAll P h vals args) :
  ∃ a vs ns, vals = [Value.ref a] /\ args = [WData.list (ns.map WData.int)] /\ h.get? a = some { cls := .type "list", data := .seq vs.toArray } /\ IntsAre vs ns /\ ns.length <= n := by
 have hsh : WShape.hasAll [] args [.list .int] = true := (pre_splitW hpre).1
 have hc : l.pre.holds [] { args := args } = true := (pre_splitW hpre).2
 obtain ⟨d, r, rfl, h1, h2⟩ := hasAllW_cons hsh
 obtain rfl := hasAllW_nil h2
 obtain ⟨xs, rfl, h3⟩ := hasW_list h1
 obtain ⟨ns, rfl⟩ := items_int h3
 have hlen : ns.length <= n := by
  unfold OpenLaw.pre at hc
  have h4 : (WTm.not (.lt (.lit (.int (n : Int))) (.len (.arg 0)))).holds [] { args := [.list (ns.map .int)] } = true := by
   have h4 := (holds_andW hc).1
   rw [hn] at h4
   exact h4
  have h5 := condW_of h4 (w_not (w_lt w_lit (w_len_list (w_arg rfl))))
  rw [List.length_map] at h5
  refine Nat.le_of_not_lt fun q => ?_
  have q' : (n : Int) < ((ns.length : Nat) : Int) := by omega
  first
   | (rw [decide_eq_true q'] at h5; exact absurd h5 (by decide))
   | (simp at h5; omega)
 cases hwl with
 | cons w1 w2 =>
  cases w2
  cases w1 with
  | list ho hall => exact ⟨_, _, ns, rfl, rfl, ho, K5 ns _ hall, hlen⟩
theorem post_true (l : OpenLaw) (args : List WData) : l.row.toRowW.claim.post args (.bool true) args = true :=
 postW_of (r := l.row.toRowW) (X := (true == true))
  (show WShape.has [] (.bool true) .bool = true by first | rfl | decide | simp [WShape.has, WShape.arms, WShape.armsAll])
  (show (WTm.eq .res (.lit (.bool true))).value [] { args := args, res := some (.bool true), after := args } = some (.bool (true == true)) from w_eq_bool (w_res rfl) w_lit) rfl
theorem attach_call {l : OpenLaw} {n : Nat} {q : Program} {loose : List Str} {XP : (Str -> Option Value) -> Heap -> Prop} {YP : World -> Heap -> Prop} {d : DefRec}
  (hn : l.most = some n) (hdf : d.params.defaults = [])
  (call : ∀ (w : World) (s₀ s₁ : Shared) (mg mb : Str -> Option Value) (fa : Addr) (o : Obj) (pm cd doc : Value) (a : Addr) (vs : List Value) (ns : List Int),
   Ground q loose [] XP w s₀ mg mb s₁.heap -> YP w s₁.heap ->
   s₁.heap.get? fa = some o -> o.data = .func (docDef d.name d.params d.body d.scope pm cd doc) -> s₁.heap.CodeRec cd d.name -> mg d.name = some (.ref fa) ->
   s₁.heap.get? a = some { cls := .type "list", data := .seq vs.toArray } -> IntsAre vs ns -> ns.length <= n -> s₁.gens = #[] ->
   codeAny (model l.prog w) callerA (.call (.ref fa) ⟨[.ref a], []⟩) (fun r s' => r = .ok (.ret (.bool true)) /\ OldK s₁.heap s'.heap /\ s'.os = s₁.os /\ AllBare s'.gens) s₁) :
  WalkO q loose XP YP l.row.toRowW d [] (fun f vs => PySem.call f vs) := by
 intro w s₀ s₁ mg mb G Y fa o pm cd doc dV kV ho hd hcd hD hmg hg args vals as hpre hlay hrd hwl hlo
 obtain rfl : dV = .none := Dflts.none hD hdf
 obtain rfl : kV = .none := Dflts.noKw hD
 obtain ⟨a, vs, ns, rfl, rfl, hobj, hints, hlen⟩ := script_of hn hpre hwl
 refine enter_call (codeAny_mono (call w s₀ s₁ mg mb fa o pm cd doc a vs ns G Y ho (fd_plain hd) hcd hmg hobj hints hlen hg) fun r s' hq => ?_)
 obtain ⟨rfl, h2, h3, h4⟩ := hq
 exact ⟨.inl ⟨.bool true, .bool true, [], rfl, fun _ => rfl, .bool true, post_true l _, fun _ => ⟨List.Pairwise.nil, fun _ hm => (nomatch hm)⟩⟩, h2, h3, h4⟩
section
variable {prog : Program} {w : World} {A : Around} {E : Value -> Shared -> Prop} {s : Shared} {K : Frag}
end
end Att
namespace L2
open List
open PySem PySem.Spec PyProof.Rows
section
theorem zz8 : ∀ {vs : List Value} {ns : List Int}, IntsAre vs ns -> Vals (ns.map V.int) vs
 | _, _, .nil => .nil
 | _, _, .cons n t h => .cons ⟨t, rfl⟩ (zz8 h)
def Only (H : Hp) : Prop := ∀ b, H b = none \/ ∃ o xs, H b = some (.frz o (.lst xs))
theorem law_call {P : Program} {w : World} {K : W.Frag} {mg mb : Str -> Option Value} {CX : CXT} {k : Nat} {fa a : Addr} {fd : FuncData} {x : Str} {sp : Sp} {s₁ : Shared} {vs : List Value} {ns : List Int}
  (KX : K.In s₁.heap) (hns : s₁.heap.Ns mainGlobals mg) (hb : s₁.heap.Ns builtinsNs mb) (hbb : ∀ x : Str, x ≠ "__name__" -> mb x = bootBuiltins x) (hlim : s₁.heap.NoLimit) (hg : s₁.gens = #[])
  (ha : s₁.heap.get? a = some { cls := .type "list", data := .seq vs.toArray }) (hi : IntsAre vs ns) (hl : ns.length <= sizeLine) (hr : Room k callerA)
  (F : ∀ base : Heap, K.In base -> base.Ns mainGlobals mg -> FnOk P w K mg base CX k fa fd [x] sp) (hbind : ∀ (s : Shared) (u : Value), BindsTo s fd ⟨[u], []⟩ [(x, u)])
  (hsp : ∀ H : Hp, Only H -> SqL K H a (ns.map V.int) -> sp [.ref a] H (fun v _ => v = .bl true) fun _ _ _ => False)
  (hCX : ∀ H e s', CX [] H s₁ (fun _ _ _ => False) e s' -> False) :
  codeAny (model P w) callerA (.call (.ref fa) ⟨[.ref a], []⟩) (fun r s' => r = .ok (.ret (.bool true)) /\ OldK s₁.heap s'.heap /\ s'.os = s₁.os /\ AllBare s'.gens) s₁ := by
 have rv := zz8 hi
 have lenV := hi.length
 have core : ∀ H : Hp, Only H -> SqL K H a (ns.map V.int) -> HOk P w H s₁.heap -> (∀ b, H b ≠ none -> b = a) -> (H a ≠ none -> K.lookup a = none) ->
   codeAny (model P w) callerA (.call (.ref fa) ⟨[.ref a], []⟩) (fun r s' => r = .ok (.ret (.bool true)) /\ OldK s₁.heap s'.heap /\ s'.os = s₁.os /\ AllBare s'.gens) s₁ := by
  intro H hO hS hok hA hK
  have base_of : ∀ {b : Addr} {o : Obj}, s₁.heap.get? b = some o -> H b = none -> (hidT s₁.heap H).get? b = some o := fun e n => hidT_get e n
  have noA : ∀ {b : Addr} {o : Obj} {es : Array DictEntry} {ep : Nat}, s₁.heap.get? b = some o -> o.data = .dict es ep -> H b = none := fun {b o es ep} e d => by
   cases q : H b with
   | none => rfl
   | some u =>
    have e' : b = a := hA b (by rw [q]; simp)
    subst e'
    rw [ha] at e; cases e
    have d' : Data.seq vs.toArray _ = Data.dict es ep := d
    cases d'
  have nsK : ∀ {b : Addr} {m : Str -> Option Value}, s₁.heap.Ns b m -> (hidT s₁.heap H).Ns b m := fun {b m} ⟨o, es, ep, e, d, r⟩ => ⟨o, es, ep, base_of e (noA e d), d, r⟩
  have hKb : K.In (hidT s₁.heap H) := fun b o e => base_of (KX b o e) (by
   cases q : H b with
   | none => rfl
   | some u =>
    have e' : b = a := hA b (by rw [q]; simp)
    subst e'
    rw [hK (by rw [q]; simp)] at e; cases e)
  have hM : Mod K mg (hidT s₁.heap H) := ⟨hKb, nsK hns, ⟨mb, nsK hb, hbb⟩, let ⟨mc, h1, h2⟩ := hlim; ⟨mc, nsK h1, h2⟩⟩
  have e0 : Env0 P w K mg (hidT s₁.heap H) callerA [] s₁ H := ⟨rfl, hM, fun b o e => of_hidT e, Nat.le_of_eq (hidT_size _ _), trivial, fun b hb => absurd (show b ∈ ([] : List Addr) from hb) (by simp), hok, .of_eq hg⟩
  refine codeAny_mono ((F _ hKb (nsK hns)).run callerA [] s₁ H ⟨[.ref a], []⟩ [.ref a] [.ref a] _ _ hr e0 (hbind s₁ (.ref a)) (.cons rfl .nil) (hsp H hO hS)) fun r s' h => ?_
  cases r with
  | error e => exact (hCX H e s' h).elim
  | ok fl =>
   cases fl with
   | next => exact False.elim h
   | brk => exact False.elim h
   | cont => exact False.elim h
   | ret u =>
    obtain ⟨v, H', os, bare, un, hok', r', q⟩ := h
    have q' : v = .bl true := q
    subst q'
    obtain rfl : u = Value.bool true := r'
    refine ⟨rfl, OldK.of_keep fun b o e => ?_, os, bare⟩
    cases q : H b with
    | none => exact un.keep b o e q (by intro z; exact absurd (show b ∈ ([] : List Addr) from z) (by simp)) (by simp)
    | some u =>
     rcases hO b with z | ⟨ob, xs, z⟩
     ·rw [q] at z; cases z
     ·have z2 := un.frzs b ob _ z
      obtain ⟨e1, _⟩ := hok b _ z
      obtain ⟨e2, _⟩ := hok' b _ z2
      rw [e] at e1; cases e1
      exact e2
 cases hk : K.lookup a with
 | some o =>
  have e := KX a o hk
  rw [ha] at e
  cases e
  refine core (fun _ => none) (fun _ => .inl rfl) (.inr ⟨_, vs.toArray, _, hk, rfl, rfl, rfl, by rw [size_toArray, lenV]; exact hl, by simpa using rv⟩) (fun b u z => by have z' : (none : Option HO) = some u := z; cases z') (fun b z => absurd rfl z) fun z => absurd rfl z
 | none =>
  refine core (fun b => if b = a then some (.frz { cls := .type "list", data := .seq vs.toArray } (.lst (ns.map V.int))) else none) (fun b => ?_) (.inl (.inr ⟨{ cls := .type "list", data := .seq vs.toArray }, if_pos rfl⟩)) (fun b u z => ?_) (fun b z => ?_) fun _ => hk
  ·by_cases hb : b = a
   ·exact .inr ⟨_, _, if_pos hb⟩
   ·exact .inl (if_neg hb)
  ·by_cases hb : b = a
   ·have z' := (if_pos hb).symm.trans z
    cases z'
    subst hb
    exact ⟨ha, by rw [length_map]; exact hl, vs, _, rv, ha⟩
   ·have z' := (if_neg hb).symm.trans z
    cases z'
  ·by_cases hb : b = a
   ·exact hb
   ·exact absurd (if_neg hb) z
end
section
theorem walk_of {l : W.OpenLaw} {n k : Nat} {q : Program} {loose : List Str} {XP : (Str -> Option Value) -> Heap -> Prop} {YP : World -> Heap -> Prop} {d : DefRec} {K : Params -> W.Frag} {CX : World -> CXT} {sp : World -> Sp} {x : Str}
  (hn : l.most = some n) (hn2 : n <= sizeLine) (hdf : d.params.defaults = []) (hr : Room k callerA)
  (hY : ∀ (w : World) (h : Heap), YP w h -> (K w.params).In h)
  (F : ∀ (w : World) (mg : Str -> Option Value) (fa : Addr) (h : Heap), (K w.params).In h -> h.Ns mainGlobals mg -> mg d.name = some (.ref fa) ->
   ∃ fd : FuncData, (∀ (s : Shared) (u : Value), BindsTo s fd ⟨[u], []⟩ [(x, u)]) /\
    ∀ base : Heap, (K w.params).In base -> base.Ns mainGlobals mg -> FnOk l.prog w (K w.params) mg base (CX w) k fa fd [x] (sp w))
  (hsp : ∀ (w : World) (H : Hp) (a : Addr) (ns : List Int), ns.length <= n -> Only H -> SqL (K w.params) H a (ns.map V.int) -> sp w [.ref a] H (fun v _ => v = .bl true) fun _ _ _ => False)
  (hCX : ∀ (w : World) (H : Hp) (s : Shared) (e : Value) (s' : Shared), CX w [] H s (fun _ _ _ => False) e s' -> False) :
  W.WalkO q loose XP YP l.row.toRowW d [] (fun f vs => PySem.call f vs) := by
 refine Att.attach_call hn hdf fun w s₀ s₁ mg mb fa o pm cd doc a vs ns G Y ho hd hcd hmg hobj hints hlen hg => ?_
 have KX := hY w _ Y
 obtain ⟨fd, hb, hF⟩ := F w mg fa _ KX G.T.g hmg
 exact law_call KX G.T.g G.T.b G.T.builtins G.T.nolimit hg hobj hints (Nat.le_trans hlen hn2) hr hF hb (fun H hO hS => hsp w H a ns hlen hO hS) fun H e s' => hCX w H s₁ e s'
end
section
def Y1 (s : Stmt) : Arguments := match s with
 | .FunctionDef _ a _ _ _ _ _ _ _ _ => a
 | _ => { posonlyargs := [], args := [], vararg := none, kwonlyargs := [], kw_defaults := [], kwarg := none, defaults := [] }
def i9 (s : Stmt) : List Stmt := match s with
 | .FunctionDef _ _ b _ _ _ _ _ _ _ => b
 | _ => []
def z9 (s : Stmt) : Scope := match s with
 | .FunctionDef _ _ _ _ _ _ sc _ _ _ => sc
 | _ => { kind := .function, names := [], isGenerator := false, isCoroutine := false }
abbrev CX0 : CXT := fun _ _ _ _ _ _ => False
abbrev E0 : XK := fun _ _ _ => False
theorem pass0 {X : Cx} : Passes CX0 X E0 := fun _ _ _ _ _ _ _ h => h.elim
structure Fun (K : W.Frag) (x qual : Str) (st : Stmt) (f : Addr) (fd : FuncData) : Prop where
 ex : ∃ (oc : Value) (od : Option Addr) (kV doc pm : Value) (an : Option Addr) (cdv ct : Value) (osl : Array (Option Value)),
  fd = W.fnOf x qual (Y1 st) (i9 st) (z9 st) .none kV doc pm an cdv ct /\ K.lookup f = some ⟨oc, od, .func fd, osl⟩ /\ W.codeIn K cdv qual = true
 kp : W.keepIn K (.ref f) = true
section
variable {P : Program} {w : World} {K : W.Frag} {mg : Str -> Option Value} {base : Heap}
theorem Fun.ok {x qual : Str} {st : Stmt} {f : Addr} {fd : FuncData} {N ps : List Str} {k : Nat} {sp : Sp} (F : Fun K x qual st f fd) (S : FnScope N ps (z9 st)) (len : ∀ vs H Q E, sp vs H Q E -> vs.length = ps.length)
  (hbody : ∀ (cdv : Value) (A : Around) (outer : List Env) (s : Shared) (H : Hp) (vs : List V) (Q : VK) (E : XK), Room k (A.deeper (envOfC qual (z9 st) s.heap.objs.size f cdv)) -> sp vs H Q E ->
   ∃ t, PSs (cxOf CX0 P w K mg base N qual (z9 st) f cdv A outer s H E).nox (i9 st) t /\ t { nx := fun _ H' => Q .non H', rt := Q } (start N vs) H) : FnOk P w K mg base CX0 (k + 1) f fd ps sp := by
 obtain ⟨oc, od, kV, doc, pm, an, cdv, ct, osl, rfl, lk, hcd⟩ := F.ex
 refine fn_of lk hcd S len fun A outer s H vs Q E hr hsp => ?_
 obtain ⟨t, h, q⟩ := hbody cdv A outer s H vs Q E hr hsp
 exact ⟨t, h.nox, q⟩
theorem Fun.binds {x qual : Str} {st : Stmt} {f : Addr} {fd : FuncData} {ps : List Str} (F : Fun K x qual st f fd)
  (h : ∀ (kV doc pm : Value) (an : Option Addr) (cdv ct : Value) (us : List Value), us.length = ps.length -> bindArgs (W.fnOf x qual (Y1 st) (i9 st) (z9 st) .none kV doc pm an cdv ct) ⟨us, []⟩ = pure (ps.zip us)) : Binds K fd ps [] := by
 obtain ⟨oc, od, kV, doc, pm, an, cdv, ct, osl, rfl, lk, hcd⟩ := F.ex
 exact .all (h kV doc pm an cdv ct)
theorem fun_mk {x qual : Str} {st : Stmt} {f : Addr} {oc : Value} {od an : Option Addr} {osl : Array (Option Value)} {kV doc pm cdv ct : Value} (l : K.lookup f = some ⟨oc, od, .func (W.fnOf x qual (Y1 st) (i9 st) (z9 st) .none kV doc pm an cdv ct), osl⟩)
  (c : W.codeIn K cdv qual = true) (k : W.keepIn K (.ref f) = true) : Fun K x qual st f (W.fnOf x qual (Y1 st) (i9 st) (z9 st) .none kV doc pm an cdv ct) := ⟨⟨oc, od, kV, doc, pm, an, cdv, ct, osl, rfl, l, c⟩, k⟩
end
section
variable {X : Cx}
theorem pv (i : Nat) {x : Str} {pos : Pos} (hN : X.N[i]? = some x := by rfl) (hv : Vis X.env.scope x := by first | exact Or.inl rfl | exact Or.inr (Or.inl rfl) | exact Or.inr (Or.inr rfl)) (hd : (x == ("__debug__" : Str)) = false := by decide)
  (hcd : (x == ("__classdict__" : Str)) = false := by decide) : PE X (.Name x pos) (tVar i) := pe_var hN hv hd hcd
end
theorem iteF {A B : Prop} (h : B) : if false = true then A else B := by
 rw [if_neg Bool.false_ne_true]
 exact h
theorem iteT {A B : Prop} (h : A) : if true = true then A else B := by
 rw [if_pos rfl]
 exact h
def Same (H H' : Hp) : Prop := ∀ b o, H b = some o -> H' b = some o
theorem Same.refl (H : Hp) : Same H H := fun _ _ h => h
theorem Same.trans {H H1 H2 : Hp} (a : Same H H1) (b : Same H1 H2) : Same H H2 := fun c o h => b c o (a c o h)
theorem Same.free {H H' : Hp} (e : Same H H') {l : Addr} (h : H' l = Option.none) : H l = Option.none := by
 cases q : H l with
 | none => rfl
 | some o =>
  rw [e l o q] at h
  cases h
theorem Same.seq {K : W.Frag} {H H' : Hp} {a : Addr} {xs : List V} (e : Same H H') (h : SqL K H a xs) : SqL K H' a xs := by
 rcases h with (h | ⟨o, h⟩) | h
 ·exact .inl (.inl (e _ _ h))
 ·exact .inl (.inr ⟨o, e _ _ h⟩)
 ·exact .inr h
end
section
def clOf (cells : List (Str × Addr)) : List (Str × NameKind) -> List (Str × Addr) -> List (Str × Addr)
 | [], cs => cs
 | (n, k) :: r, cs => if k = .free then (match cells.lookup n with | some c => clOf cells r ((n, c) :: cs) | none => clOf cells r cs) else clOf cells r cs
theorem T6 {env : Env} : ∀ (names : List (Str × NameKind)) (cs : List (Str × Addr)), (∀ x ∈ names, x.2 = .free -> ∃ c, env.cells.lookup x.1 = some c) ->
  (forIn names cs fun x r => if (x.2 == NameKind.free) = true then do let c ← cellOf env x.1; pure (ForInStep.yield ((x.1, c) :: r)) else pure (ForInStep.yield r) : Sem (List (Str × Addr))) = pure (clOf env.cells names cs)
 | [], cs, _ => rfl
 | (n, k) :: r, cs, h => by
  have hr : ∀ x ∈ r, x.2 = .free -> ∃ c, env.cells.lookup x.1 = some c := fun x hx => h x (mem_cons_of_mem _ hx)
  rw [forIn_cons]
  by_cases hk : k = .free
  ·subst hk
   obtain ⟨c, hc⟩ := h (n, .free) mem_cons_self rfl
   have hc' : env.cells.lookup n = some c := hc
   have e : cellOf env n = pure c := by unfold cellOf; rw [hc']
   simp only [beq_self_eq_true, if_true, e, pure_bind]
   rw [T6 r _ hr]
   simp only [clOf, if_true, hc']
  ·have hb : (k == NameKind.free) = false := by simpa using hk
   simp only [hb, Bool.false_eq_true, if_false, pure_bind]
   rw [T6 r cs hr]
   simp only [clOf, hk, if_false]
theorem W7 {env : Env} {scope : Scope} (h : ∀ x ∈ scope.names, x.2 = .free -> ∃ c, env.cells.lookup x.1 = some c) : closureFor scope env = pure (clOf env.cells scope.names []) := by
 have q := T6 (env := env) scope.names [] h
 simp only [closureFor]
 refine Eq.trans ?_ q
 have e : ∀ (m : Sem (List (Str × Addr))), (m >>= fun cs => pure cs) = m := fun m => by simp
 first | (rw [e]; rfl) | rfl | simp
theorem N9 {cells : List (Str × Addr)} {x : Str} {c : Addr} : ∀ (names : List (Str × NameKind)) (cs : List (Str × Addr)), (∀ y d, cs.lookup y = some d -> cells.lookup y = some d) -> (clOf cells names cs).lookup x = some c -> cells.lookup x = some c
 | [], cs, h, e => h x c e
 | (n, k) :: r, cs, h, e => by
  unfold clOf at e
  split at e
  ·split at e
   ·rename_i d hd
    refine N9 r _ (fun y d' q => ?_) e
    rw [lookup_cons] at q
    split at q
    ·rename_i hy
     have : y = n := by simpa using hy
     subst this
     cases q; exact hd
    ·exact h y d' q
   ·exact N9 r cs h e
  ·exact N9 r cs h e
theorem R4 {cells : List (Str × Addr)} {x : Str} : ∀ (names : List (Str × NameKind)) (cs : List (Str × Addr)), (cs.lookup x).isSome = true -> ((clOf cells names cs).lookup x).isSome = true
 | [], cs, h => h
 | (n, k) :: r, cs, h => by
  unfold clOf
  split
  ·split
   ·refine R4 r _ ?_
    rw [lookup_cons]; split
    ·rfl
    ·exact h
   ·exact R4 r cs h
  ·exact R4 r cs h
theorem Y2 {cells : List (Str × Addr)} {x : Str} {c : Addr} (hc : cells.lookup x = some c) : ∀ (names : List (Str × NameKind)) (cs : List (Str × Addr)), (x, NameKind.free) ∈ names -> ((clOf cells names cs).lookup x).isSome = true
 | [], cs, h => absurd h (by simp)
 | (n, k) :: r, cs, h => by
  unfold clOf
  rcases List.mem_cons.mp h with e | h
  ·cases e
   rw [if_pos rfl, hc]
   refine R4 r _ ?_
   simp [lookup_cons]
  ·split
   ·split
    ·exact Y2 hc r _ h
    ·exact Y2 hc r cs h
   ·exact Y2 hc r cs h
theorem l9 {env : Env} : ∀ {names : List (Str × NameKind)} {x : Str}, names.lookup x = some .free ->
  (names.map fun (n, k) => if (k == NameKind.free && env.scope.kind == .function && env.kindOf n == some .cell) then (n, NameKind.cell) else (n, k)).lookup x = some .cell \/
  (names.map fun (n, k) => if (k == NameKind.free && env.scope.kind == .function && env.kindOf n == some .cell) then (n, NameKind.cell) else (n, k)).lookup x = some .free
 | [], _, h => by simp at h
 | (n, k) :: r, x, h => by
  have ih := @l9 env r x
  show List.lookup x ((if (k == NameKind.free && env.scope.kind == .function && env.kindOf n == some .cell) = true then (n, NameKind.cell) else (n, k)) :: _) = _ \/ List.lookup x ((if (k == NameKind.free && env.scope.kind == .function && env.kindOf n == some .cell) = true then (n, NameKind.cell) else (n, k)) :: _) = _
  by_cases hc : (k == NameKind.free && env.scope.kind == .function && env.kindOf n == some .cell) = true
  ·rw [if_pos hc]
   cases hx : x == n with
   | true => left; simp only [lookup_cons, hx]
   | false => simp only [lookup_cons, hx] at h ⊢; exact ih h
  ·rw [if_neg hc]
   cases hx : x == n with
   | true => right; simp only [lookup_cons, hx] at h ⊢; exact h
   | false => simp only [lookup_cons, hx] at h ⊢; exact ih h
theorem Y7 {env : Env} : ∀ {names : List (Str × NameKind)} {x : Str} {k : NameKind}, (∀ y ∈ names, y.2 ≠ .cell) ->
  (names.map fun (n, k) => if (k == NameKind.free && env.scope.kind == .function && env.kindOf n == some .cell) then (n, NameKind.cell) else (n, k)).lookup x = some k -> (k = .cell \/ k = .free) -> (x, NameKind.free) ∈ names
 | [], _, _, _, h, _ => by simp at h
 | (n, k') :: r, x, k, hc0, h, hk => by
  have ih := @Y7 env r x k (fun y hy => hc0 y (mem_cons_of_mem _ hy))
  have h : List.lookup x ((if (k' == NameKind.free && env.scope.kind == .function && env.kindOf n == some .cell) = true then (n, NameKind.cell) else (n, k')) :: _) = _ := h
  by_cases hc : (k' == NameKind.free && env.scope.kind == .function && env.kindOf n == some .cell) = true
  ·rw [if_pos hc] at h
   have hf : k' = .free := by
    have := hc; simp only [Bool.and_eq_true] at this; simpa using this.1.1
   cases hx : x == n with
   | true =>
    have hxn : x = n := by simpa using hx
    subst hxn; subst hf; exact mem_cons_self
   | false => simp only [lookup_cons, hx] at h; exact mem_cons_of_mem _ (ih h hk)
  ·rw [if_neg hc] at h
   cases hx : x == n with
   | true =>
    have hxn : x = n := by simpa using hx
    subst hxn
    simp only [lookup_cons, hx] at h
    have e : k' = k := Option.some.inj h
    subst e
    rcases hk with hk | hk
    ·exact absurd hk (hc0 _ mem_cons_self)
    ·subst hk; exact mem_cons_self
   | false => simp only [lookup_cons, hx] at h; exact mem_cons_of_mem _ (ih h hk)
end
section
structure Blk (X : Cx) (sc : Scope) (N : List Str) (src : List (Option Nat)) : Prop where
 kind : sc.kind = .function
 nocell : ∀ y ∈ sc.names, y.2 ≠ .cell
 names : ∀ y ∈ sc.names, y.2 = .local -> sc.names.lookup y.1 = some .local
 free : ∀ y ∈ sc.names, y.2 = .free -> X.env.kindOf y.1 = some .cell \/ X.env.kindOf y.1 = some .free
 fv : ∀ (j i : Nat), src[j]? = some (some i) -> ∃ x, N[j]? = some x /\ X.N[i]? = some x /\ sc.names.lookup x = some .free
 len : src.length = N.length
def blk0 (src : List (Option Nat)) (σ : St) : St := src.map fun o => o.bind fun i => (σ[i]?).join
def t9 (X : Cx) (sc : Scope) (C : Addr) (N : List Str) (fp : List Addr) (s : Shared) (H : Hp) : Cx where
 prog := X.prog
 w := X.w
 K := X.K
 mg := X.mg
 base := X.base
 A := X.A
 N := N
 s₀ := s
 H₀ := H
 env := compEnvC sc (clOf X.env.cells sc.names []) C X.env
 outer := X.stack
 stack := X.stack
 ex := fp
 fn := fun _ => false
 calm := true
 pn := []
 xe := fun _ _ => False
section
variable {X : Cx} {pins : List (Addr × Obj)} {σ : St} {H : Hp} {s : Shared}
theorem Blk.cl {sc : Scope} {N : List Str} {src : List (Option Nat)} (B : Blk X sc N src) (ok : X.Ok) : closureFor sc X.env = pure (clOf X.env.cells sc.names []) :=
 W7 fun x hx hk => ok.has x.1 (B.free x hx hk)
theorem W8 {sc : Scope} {x : Str} {c : Addr} (h : (clOf X.env.cells sc.names []).lookup x = some c) : X.env.cells.lookup x = some c :=
 N9 sc.names [] (fun y d e => by simp at e) h
theorem zu2 {sc : Scope} {N : List Str} {src : List (Option Nat)} {fp : List Addr} {D C : Addr} {h4 : Heap} {t : Nat} {m : Str -> Option Value}
  (B : Blk X sc N src) (I : Inv X pins σ H s) (hc : X.calm = true) (hf : ∀ b ∈ fp, FpOk X pins H b) (hfo : ∀ b ∈ fp, ∃ o, s.heap.get? b = some o)
  (hk : ∀ b o, s.heap.get? b = some o -> h4.get? b = some o) (hD : s.heap.objs.size <= D) (hDl : h4.get? D = some { cls := .type "list", data := .seq #[] 0 })
  (hn : h4.Ns C m) (hC : s.heap.objs.size <= C) (hDC : D ≠ C) :
  Inv (t9 X sc C N fp s H) [] (blk0 src σ) (upd H D (.lst [])) { s with heap := h4, toks := t } := by
 have hHD : H D = none := I.hok.fresh hD
 have hHC : H C = none := I.hok.fresh hC
 have new : ObjOk X.prog X.w (upd H D (.lst [])) h4 D (.lst []) := ⟨Nat.zero_le _, [], 0, .nil, hDl⟩
 have cC : ∀ x c, X.env.cells.lookup x = some c -> c ≠ C := fun x c e z => by
  obtain ⟨v, q⟩ := I.cell x c e
  exact absurd (Nat.lt_of_lt_of_le q.lt (by rw [z]; exact hC)) (Nat.lt_irrefl _)
 have cD : ∀ x c, X.env.cells.lookup x = some c -> c ≠ D := fun x c e z => by
  obtain ⟨v, q⟩ := I.cell x c e
  exact absurd (Nat.lt_of_lt_of_le q.lt (by rw [z]; exact hD)) (Nat.lt_irrefl _)
 refine ⟨⟨I.ok.mod, ?_, I.ok.glob, I.ok.blt, hC, fun x y c h1 h2 => ?_, fun x hx => ?_, fun x c h _ => (by cases h), fun _ => I.ok.hd hc, I.ok.frames, .inl rfl, fun b hb => ⟨?_, fun x c e => ?_⟩, I.bs, Nat.le_trans I.ok.bsz I.sz, fun b o e hb => ?_, fun b hb z => ?_, I.stack, I.stkFree⟩,
  rfl, I.bare, Un.laid hk hD hHD, ⟨m, hn, fun i x v e1 e2 e3 => ?_⟩, fun x c e => ?_, ?_, fun x c e => ?_, fun p hp => ?_, I.hok.laid hk hD new, ?_⟩
 ·show (relabel sc X.env).kind = _
  exact B.kind
 ·exact I.ok.inj x y c (W8 h1) (W8 h2)
 ·have hx' : (∃ k, (relabel sc X.env).names.lookup x = some k /\ (k = .cell \/ k = .free)) := by
   rcases hx with hx | hx
   ·exact ⟨_, hx, .inl rfl⟩
   ·exact ⟨_, hx, .inr rfl⟩
  obtain ⟨k, e, hk'⟩ := hx'
  have hm := Y7 B.nocell e hk'
  obtain ⟨c, hc'⟩ := I.ok.has x (B.free _ hm rfl)
  exact Option.isSome_iff_exists.mp (Y2 hc' sc.names [] hm)
 ·obtain ⟨o, e⟩ := hfo b hb
  exact Nat.ne_of_lt (Nat.lt_of_lt_of_le (Heap.lt_size e) hC)
 ·exact (hf b hb).2.2.2.2.1 x c (W8 e)
 ·rcases (hf b hb).2.2.2.1 with z | z
  ·exact I.ok.noex b o e z
  ·exact absurd (Nat.lt_of_lt_of_le (Heap.lt_size e) (Nat.le_trans I.ok.bsz z)) (Nat.lt_irrefl _)
 ·rcases List.mem_cons.mp (I.stkSub b z) with z | z
  ·exact (hf b hb).2.1 z
  ·exact (hf b hb).2.2.1 z
 ·have e2' : ∃ k, src[i]? = some (some k) /\ σ[k]? = some (some v) := by
   unfold blk0 at e2
   rw [getElem?_map] at e2
   cases q : src[i]? with
   | none => rw [q] at e2; cases e2
   | some o =>
    rw [q] at e2
    cases o with
    | none => cases e2
    | some k =>
     refine ⟨k, rfl, ?_⟩
     have e2 : (σ[k]?).join = some v := Option.some.inj e2
     cases qq : σ[k]? with
     | none => rw [qq] at e2; cases e2
     | some z => rw [qq] at e2; exact congrArg some e2
  obtain ⟨k, ek, ev⟩ := e2'
  obtain ⟨x', n1, n2, n3⟩ := B.fv i k ek
  have : x' = x := by
   have e1 : N[i]? = some x := e1
   rw [n1] at e1; exact Option.some.inj e1
  subst this
  obtain ⟨m0, hn0, hl0⟩ := I.loc
  have hfk := B.free (x', .free) (PySem.mem_of_lookup n3) rfl
  obtain ⟨u, r, l⟩ := hl0 k x' v n2 ev (by rcases hfk with z | z; exact .inr (.inl z); exact .inr (.inr z))
  refine ⟨u, r, .inr ⟨?_, ?_⟩⟩
  ·exact l9 n3
  ·rcases l with ⟨l, _⟩ | ⟨_, c, ec, z⟩
   ·rcases hfk with q | q <;> (rw [q] at l; cases l)
   ·obtain ⟨c', ec'⟩ := Option.isSome_iff_exists.mp (Y2 ec sc.names [] (PySem.mem_of_lookup n3))
    have := W8 ec'
    rw [ec] at this; cases this
    obtain ⟨o, ho, hd⟩ := z
    exact ⟨c, ec', o, hk c o ho, hd⟩
 ·obtain ⟨v, o, ho, hd⟩ := I.cell x c (W8 e)
  exact ⟨v, o, hk c o ho, hd⟩
 ·show upd H D _ C = none
  rw [y0 (Ne.symm hDC)]; exact hHC
 ·rw [y0 (cD x c (W8 e))]; exact I.freeC x c (W8 e)
 ·exact absurd (show p ∈ ([] : List (Addr × Obj)) ++ [] from hp) (by simp)
 ·show (blk0 src σ).length = N.length
  unfold blk0; rw [length_map]; exact B.len
end
end
section
abbrev noE : Value -> Shared -> Prop := fun _ _ => False
theorem toE {α : Type} {t : Sem α} {Q Q' : α -> Shared -> Prop} {M : Model} {A : Around} {E : Value -> Shared -> Prop} {s : Shared} (h : wpAny M A t Q noE s) (hQ : ∀ a s, Q a s -> Q' a s) : wpAny M A t Q' E s :=
 wpAny_mono h hQ fun _ _ x => x.elim
abbrev zv7 (ifs : List Expr) (env : Env) : Sem Bool := forIn ifs true fun c r => if r = true then do let ok ← isTrue c env (eval c env); pure (ForInStep.yield ok) else pure (ForInStep.yield r)
theorem O4 {prog : Program} {w : World} {A : Around} {R : Result -> Shared -> Prop} {s : Shared} {elt target iter : Expr} {ifs : List Expr} {scope : Scope} {pos : Pos} {it acc : Value} {env : Env} (I : Nat -> Shared -> Prop)
  (turn : ∀ n s, I n s -> wpAny (model prog w) A (pyNext it) (fun r s₁ => match r with
   | none => R (.ok .next) s₁
   | some v => wpAny (model prog w) A (letOwnedTupleGo target it v) (fun _ s₁' => wpAny (model prog w) A (assign target env v) (fun _ s₂ =>
     wpAny (model prog w) A (zv7 ifs env) (fun ok s₃ =>
      if ok = true then wpAny (model prog w) A (eval elt env) (fun x s₄ =>
       wpAny (model prog w) A (call (.builtin "list.append") [acc, x]) (fun _ s₅ => ∃ m, m < n /\ I m s₅) noE s₄) noE s₃
      else ∃ m, m < n /\ I m s₃) noE s₂) noE s₁') noE s₁) noE s)
  (n : Nat) (h : I n s) :
  codeAny (model prog w) A (.compLoop (.ListComp elt [⟨target, iter, ifs, 0⟩] scope pos) 0 it acc env) R s := by
 refine codeAny_loop rfl I (fun n s hI => ?_) n h
 show wpAny _ A ((compTurn (.ListComp elt [⟨target, iter, ifs, 0⟩] scope pos) 0 it acc env).onRaise (fun x => do noteFrame x env; theTreesLotGoes x)) _ _ s
 refine wpAny_noted ?_
 rw [compTurn_list]
 refine wpAny_bind (wpAny_standAt (wpAny_bind (toE (turn n s hI) (fun r s₁ h₁ => ?_))))
 cases r with
 | none => exact wpAny_pure h₁
 | some v =>
  refine wpAny_bind (toE h₁ fun _ s₁' h₁' => ?_)
  refine wpAny_bind (toE h₁' (fun _ s₂ h₂ => wpAny_bind (toE h₂ (fun ok s₃ h₃ => ?_))))
  cases ok with
  | false => exact wpAny_pure ⟨rfl, h₃⟩
  | true =>
   exact wpAny_bind (wpAny_bind (toE h₃ (fun x s₄ h₄ => wpAny_bind (toE h₄ (fun _ s₅ h₅ => wpAny_pure (wpAny_pure ⟨rfl, h₅⟩))))))
def PTs (X : Cx) (ifs : List Expr) (t : TT) : Prop :=
 ∀ (pins : List (Addr × Obj)) (s : Shared) (σ : St) (H : Hp) (Q : Bool -> Hp -> Prop), Inv X pins σ H s -> t σ H Q -> wpAny (model X.prog X.w) X.A (zv7 ifs X.env) (TP X pins σ Q) X.xe s
def tYes : TT := fun _ H Q => Q true H
theorem pts_nil {X : Cx} : PTs X [] tYes := fun pins s σ H Q I h => wpAny_pure ⟨H, I, h⟩
theorem pts_one {X : Cx} {c : Expr} {t : TT} (h : PT X c t) : PTs X [c] t := fun pins s σ H Q I q => wpAny_tests_one (h pins s σ H Q I q)
def tComp (src : List (Option Nat)) (wi : TI) (g : TG) (tc : TT) (te : TE) : TE := fun σ H Q => wi σ H fun J H1 => ∀ D, H1 D = none -> ∃ W : Nat -> Nat -> St -> Hp -> Prop, (∃ m, W 0 m (blk0 src σ) (upd H1 D (.lst []))) /\ ∀ i m σ' H', W i m σ' H' ->
 (J.stop i H' /\ Q (.ref D) H') \/ (J.go i H' /\ ∃ N : St -> Hp -> Prop, (∀ σ2 H2, N σ2 H2 -> ∃ m', m' < m /\ W (i + 1) m' σ2 H2) /\ ∀ x H2, J.yld i H' x H2 -> g x σ' H2 fun σ3 H3 => tc σ3 H3 fun b H4 =>
  if b = true then te σ3 H4 fun y H5 => ∃ xs, H5 D = some (.lst xs) /\ xs.length < sizeLine /\ N σ3 (upd H5 D (.lst (xs ++ [y]))) else N σ3 H4)
section
variable {X : Cx}
theorem E8 {sc : Scope} {N : List Str} {src : List (Option Nat)} {tg elt iter : Expr} {ifs : List Expr} {pos : Pos} {g : TG} {tc : TT} {te : TE} (B : Blk X sc N src) (hc : X.calm = true)
  (hg : ∀ C fp s H, PG (t9 X sc C N fp s H) tg g) (ht : ∀ C fp s H, PTs (t9 X sc C N fp s H) ifs tc) (he : ∀ C fp s H, PE (t9 X sc C N fp s H) elt te)
  {pins : List (Addr × Obj)} {σ : St} {H : Hp} {s : Shared} {it : Addr} {fp : List Addr} {tn : Nat -> Heap -> Prop} {J : It} {Q : VK} {E : Value -> Shared -> Prop}
  (I : Inv X pins σ H s) (T : Turn X.prog X.w X.K tg J fp it tn) (st : tn 0 s.heap) (hf : ∀ b ∈ fp, FpOk X pins H b)
  (hW : ∀ D, H D = none -> ∃ W : Nat -> Nat -> St -> Hp -> Prop, (∃ m, W 0 m (blk0 src σ) (upd H D (.lst []))) /\ ∀ i m σ' H', W i m σ' H' ->
   (J.stop i H' /\ Q (.ref D) H') \/ (J.go i H' /\ ∃ N : St -> Hp -> Prop, (∀ σ2 H2, N σ2 H2 -> ∃ m', m' < m /\ W (i + 1) m' σ2 H2) /\ ∀ x H2, J.yld i H' x H2 -> g x σ' H2 fun σ3 H3 => tc σ3 H3 fun b H4 =>
    if b = true then te σ3 H4 fun y H5 => ∃ xs, H5 D = some (.lst xs) /\ xs.length < sizeLine /\ N σ3 (upd H5 D (.lst (xs ++ [y]))) else N σ3 H4))
  {RR : Value -> Addr -> Result -> Shared -> Prop}
  (hRR : ∀ D C H' s' m', Inv X pins σ H' s' -> s'.heap.Ns C m' -> H' C = none -> s.heap.objs.size <= C -> Q (.ref D) H' -> RR (.ref D) C (.ok .next) s') :
  wpAny (model X.prog X.w) X.A (newList []) (fun acc s₃ => wpAny (model X.prog X.w) X.A (newFunctionEnv sc X.env.globals (clOf X.env.cells sc.names []) [] X.env.qual none .none (some X.env)) (fun cenv s₄ =>
   codeAny (model X.prog X.w) X.A (.compStart (.ListComp elt [⟨tg, iter, ifs, 0⟩] sc pos) 0 (.ref it) acc { cenv with scope := relabel sc X.env }) (RR acc cenv.locals) s₄) E s₃) E s := by
 refine wpAny_newObj_type (wpAny_newFunctionEnv B.nocell (by intro y hy; simp at hy) (fun h₁ hns₁ hsb₁ => ?_) B.kind)
 dsimp only at hns₁ hsb₁ ⊢
 generalize hH2 : s.heap.push { cls := .type "list", dict := none, data := .seq ([] : List Value).toArray } = H2 at hns₁ hsb₁ ⊢
 have hC : H2.objs.size = s.heap.objs.size + 1 := by rw [<- hH2, Heap.size_push]
 have hDC : s.heap.objs.size ≠ H2.objs.size := by rw [hC]; exact Nat.ne_of_lt (Nat.lt_succ_self _)
 have hCle : s.heap.objs.size <= H2.objs.size := by rw [hC]; exact Nat.le_succ _
 have below : ∀ b, b < s.heap.objs.size -> b ≠ H2.objs.size := fun b hb => by rw [hC]; exact Nat.ne_of_lt (Nat.lt_succ_of_lt hb)
 have old : ∀ b o, s.heap.get? b = some o -> h₁.get? b = some o := fun b o e => hsb₁.extBut b o (below b (Heap.lt_size e)) (Heap.get?_push_of_some _ (hH2 ▸ Heap.get?_push_of_some _ e))
 have hacc : h₁.get? s.heap.objs.size = some { cls := .type "list", data := .seq #[] 0 } := hsb₁.extBut _ _ hDC (Heap.get?_push_of_some _ (hH2 ▸ Heap.get?_push_size _ rfl))
 have hfo : ∀ b ∈ fp, ∃ o, s.heap.get? b = some o := fun b hb => by obtain ⟨o, e, _⟩ := T.obj _ _ st b hb; exact ⟨o, e⟩
 have st1 : tn 0 h₁ := T.keep _ _ _ st fun b _ o e => old b o e
 obtain ⟨W, ⟨m0, w0⟩, turn⟩ := hW s.heap.objs.size I.fresh
 have I1 := zu2 (t := s.toks + ([] : List (Str × Value)).length) B I hc hf hfo old (Nat.le_refl _) hacc hns₁ hCle hDC
 have stat : ∀ {H' : Hp}, (∀ b ∈ fp, H' b = none) -> ∀ b ∈ fp, FpOk (t9 X sc H2.objs.size N fp s H) [] H' b := fun {H'} hn b hb => by
  obtain ⟨f0, f1, f2, f3, f4, f5⟩ := hf b hb
  refine ⟨hn b hb, I1.ok.exf b hb |>.1, I1.ok.exfs b hb, .inl hb, fun x c e => f4 x c (W8 e), fun p hp => absurd (show p ∈ ([] : List (Addr × Obj)) ++ [] from hp) (by simp)⟩
 have hfD : ∀ b ∈ fp, b ≠ s.heap.objs.size := fun b hb z => by
  obtain ⟨o, e⟩ := hfo b hb
  exact absurd (Heap.lt_size e) (by rw [z]; exact Nat.lt_irrefl _)
 have loop : ∀ s₃ : Shared, s₃ = { s with heap := h₁, toks := s.toks + ([] : List (Str × Value)).length } ->
   codeAny (model X.prog X.w) X.A (.compLoop (.ListComp elt [⟨tg, iter, ifs, 0⟩] sc pos) 0 (.ref it) (.ref s.heap.objs.size) (compEnvC sc (clOf X.env.cells sc.names []) H2.objs.size X.env))
    (RR (.ref s.heap.objs.size) H2.objs.size) s₃ := by
  rintro s₃ rfl
  refine O4 (fun n s' => ∃ i σ' H', Inv (t9 X sc H2.objs.size N fp s H) [] σ' H' s' /\ tn i s'.heap /\ (∀ b ∈ fp, H' b = none) /\ W i n σ' H') ?_ m0
   ⟨0, _, _, I1, st1, fun b hb => by rw [y0 (hfD b hb)]; exact (hf b hb).1, w0⟩
  rintro n s3 ⟨i, σ3, H3, I3, st3, fr3, w3⟩
  rcases turn i n σ3 H3 w3 with ⟨stop, qn⟩ | ⟨go, N', hN', step⟩
  ·refine thn (T.done (t9 X sc H2.objs.size N fp s H) rfl rfl rfl rfl i [] s3 σ3 H3 noE I3 (stat fr3) st3 stop) fun r s4 ⟨hr, I4⟩ => ?_
   subst hr
   obtain ⟨m4, hn4, _⟩ := id I4.loc
   refine hRR _ _ H3 s4 m4 ?_ hn4 I4.free hCle qn
   exact I.call' (ch := fp) I4.os I4.base I4.hok I4.bare fun b hb => ⟨(hf b hb).2.2.2.1, (hf b hb).2.1, (hf b hb).2.2.2.2.1, (hf b hb).2.2.2.2.2⟩
  ·refine thn (T.item (t9 X sc H2.objs.size N fp s H) rfl rfl rfl rfl i [] s3 σ3 H3 noE I3 (stat fr3) st3 go) fun r s4 ⟨u, hr, h4⟩ => ?_
   subst hr
   refine thn h4 fun _ s5 hpat => ?_
   obtain ⟨x, H5, I5, r5, y5, st5, fr5⟩ := hpat
   have I5' := I5.pinned (stat fr5) (T.obj _ _ st5)
   have again : ∀ {s7 : Shared} {σ7 : St} {H7 : Hp}, Inv (t9 X sc H2.objs.size N fp s H) ([] ++ P4 fp s5.heap) σ7 H7 s7 -> N' σ7 H7 -> ∃ m, m < n /\ ∃ i σ' H', Inv (t9 X sc H2.objs.size N fp s H) [] σ' H' s7 /\ tn i s7.heap /\ (∀ b ∈ fp, H' b = none) /\ W i m σ' H' := fun {s7 σ7 H7} I7 n7 => by
    obtain ⟨m', hm, w7⟩ := hN' σ7 H7 n7
    refine ⟨m', hm, i + 1, σ7, H7, I7.unpinned, T.keep _ _ _ st5 fun b hb o e => (I7.pin (b, o) (mem_append_right _ (mem_append_right _ (m5 hb e)))).1, fun b hb => ?_, w7⟩
    obtain ⟨o, e, d⟩ := T.obj _ _ st5 b hb
    exact (I7.pin (b, o) (mem_append_right _ (mem_append_right _ (m5 hb e)))).2.1
   refine thn (hg _ _ _ _ _ s5 σ3 H5 x u _ I5' r5 (step x H5 y5)) fun _ s6 hpat => ?_
   obtain ⟨σ6, H6, I6, q6⟩ := hpat
   refine thn (ht _ _ _ _ _ s6 σ6 H6 _ I6 q6) fun ok s7 hpat => ?_
   obtain ⟨H7, I7, q7⟩ := hpat
   cases ok with
   | false =>
    rw [if_neg Bool.false_ne_true] at q7 ⊢
    exact again I7 q7
   | true =>
    rw [if_pos rfl] at q7 ⊢
    refine thn (he _ _ _ _ _ s7 σ6 H7 _ I7 q7) fun y s8 hpat => ?_
    obtain ⟨v8, H8, I8, r8, q8⟩ := hpat
    obtain ⟨xs, hD8, hz8, n8⟩ := q8
    refine thn (S4 _ s8 σ6 H8 (.ref s.heap.objs.size) [v8] (.ref s.heap.objs.size) [y] (fun _ H9 => H9 = upd H8 s.heap.objs.size (.lst (xs ++ [v8]))) I8 rfl (.cons r8 .nil) ⟨_, xs, v8, rfl, rfl, hD8, hz8, rfl⟩) fun _ s9 hpat => ?_
    obtain ⟨v9, H9, I9, r9, q9⟩ := hpat
    subst q9
    exact again I9 n8
 refine codeAny_compStart_list (loop _ rfl) (toE (T.self X.A 0 { s with heap := h₁, toks := s.toks + ([] : List (Str × Value)).length } (fun v s' => v = .ref it /\ s' = { s with heap := h₁, toks := s.toks + ([] : List (Str × Value)).length }) noE st1 ⟨rfl, rfl⟩) fun v s' hpat => ?_)
 obtain ⟨e1, e2⟩ := hpat
 subst e1; subst e2
 exact loop _ rfl
theorem Inv.letGo {pins : List (Addr × Obj)} {σ : St} {H : Hp} {s s0 : Shared} {C : Addr} {h' : Heap} (I : Inv X pins σ H s) (I0 : ∃ σ0 H0, Inv X pins σ0 H0 s0) (hC : s0.heap.objs.size <= C) (hn : H C = none) (hs : Heap.SameBut C s.heap h') : Inv X pins σ H { s with heap := h' } := by
 obtain ⟨σ0, H0, I0⟩ := I0
 refine I.turned (t' := s.toks) (it := C) (fun b o hb e => (hs.2 b hb).trans e) hn (Nat.ne_of_gt (Nat.lt_of_lt_of_le I0.lt hC)) (.inr (Nat.le_trans I0.sz hC)) (fun x c e z => ?_) fun p hp z => ?_
 ·obtain ⟨v, q⟩ := I0.cell x c e
  exact absurd (Nat.lt_of_lt_of_le q.lt (by rw [z]; exact hC)) (Nat.lt_irrefl _)
 ·exact absurd (Nat.lt_of_lt_of_le (Heap.lt_size (I0.pin p hp).1) (by rw [z]; exact hC)) (Nat.lt_irrefl _)
theorem pe_comp {sc : Scope} {N : List Str} {src : List (Option Nat)} {tg elt iter : Expr} {ifs : List Expr} {pos : Pos} {wi : TI} {g : TG} {tc : TT} {te : TE} (B : Blk X sc N src) (hc : X.calm = true)
  (hi : PI X tg iter wi) (hg : ∀ C fp s H, PG (t9 X sc C N fp s H) tg g) (ht : ∀ C fp s H, PTs (t9 X sc C N fp s H) ifs tc) (he : ∀ C fp s H, PE (t9 X sc C N fp s H) elt te)
  (hs : ∀ x, foldedSetIterable iter X.env x = pure x := by intro _; rfl) :
  PE X (.ListComp elt [⟨tg, iter, ifs, 0⟩] sc pos) (tComp src wi g tc te) := by
 intro pins s σ H Q I h
 rw [eval_ListComp]
 refine wpAny_comprehension_free (use := none) rfl hs (B.cl I.ok) B.kind B.names (wpAny_mono (hi pins s σ H _ I h) (fun xv s₁ h₁ => wpAny_mono h₁ (fun itv s₂ h₂ => ?_) fun _ _ e => e) fun _ _ e => e)
 obtain ⟨it, fp, tn, J, H2, rfl, I2, T, st2, f2, hW⟩ := h₂
 refine E8 (RR := fun acc C => compPost (model X.prog X.w) X.A X.xe none (EP X pins σ Q) acc C) (Q := Q) B hc hg ht he I2 T st2 f2 hW ?_
 intro D C H' s' m' I' hn hC hCs q
 exact ⟨m', hn, fun h'' hs'' => ⟨.ref D, H', I'.letGo ⟨_, _, I2⟩ hCs hC hs'', rfl, q⟩⟩
theorem ps_setC {i : Nat} {y : Str} {py : Pos} {sc : Scope} {N : List Str} {src : List (Option Nat)} {tg elt iter : Expr} {ifs : List Expr} {pos spos : Pos} {wi : TI} {g : TG} {tc : TT} {te : TE} (hN : X.N.Nodup) (hi' : X.N[i]? = some y) (hx : Loc X.env.scope y)
  (B : Blk X sc N src) (hc : X.calm = true)
  (hi : PI X tg iter wi) (hg : ∀ C fp s H, PG (t9 X sc C N fp s H) tg g) (ht : ∀ C fp s H, PTs (t9 X sc C N fp s H) ifs tc) (he : ∀ C fp s H, PE (t9 X sc C N fp s H) elt te)
  (hsw : swapsWith (.ListComp elt [⟨tg, iter, ifs, 0⟩] sc pos) (some (.Name y py)) spos.line X.env = pure true := by rfl)
  (hs : ∀ x, foldedSetIterable iter X.env x = pure x := by intro _; rfl) (hf : X.fn y = true \/ X.env.scope.names.lookup y = some .local := by first | exact .inl rfl | exact .inr rfl | assumption) :
  PS X (.Assign [.Name y py] (.ListComp elt [⟨tg, iter, ifs, 0⟩] sc pos) spos) (tAsg (tComp src wi g tc te) (S8 i)) := by
 intro pins s σ H Dn I h
 rw [exec_Assign_Name_used _ _ _ _ hsw]
 refine wpAny_bind (wpAny_standAt (wpAny_bind ?_))
 show wpAny _ _ (do let _ ← comprehension (.ListComp elt [⟨tg, iter, ifs, 0⟩] sc pos) sc X.env _ (newList []) false (eval iter X.env) (some (assign (.Name y py) X.env))) _ _ s
 refine wpAny_bind (wpAny_mono (wpAny_comprehension_free (use := some (assign (.Name y py) X.env)) (Q := fun _ s' => SP X pins Dn .next s') rfl hs (B.cl I.ok) B.kind B.names
  (wpAny_mono (hi pins s σ H _ I h) (fun xv s₁ h₁ => wpAny_mono h₁ (fun itv s₂ h₂ => ?_) fun _ _ e => e) fun _ _ e => e)) (fun _ s' hq => wpAny_pure (wpAny_pure hq)) fun _ _ e => e)
 obtain ⟨it, fp, tn, J, H2, rfl, I2, T, st2, f2, hW⟩ := h₂
 refine E8 (RR := fun acc C => compPost (model X.prog X.w) X.A X.xe (some (assign (.Name y py) X.env)) (fun _ s' => SP X pins Dn .next s') acc C) (Q := fun x H1 => S8 i x σ H1 Dn.nx) B hc hg ht he I2 T st2 f2 hW ?_
 intro D C H' s' m' I' hn hC hCs q
 show wpAny _ _ (assign (.Name y py) X.env (.ref D)) _ _ _
 refine wpAny_assign_Name (T8 I' hN hi' hx (v := .ref D) rfl (fun s'' I'' hpat => ?_) hf)
 obtain ⟨a, hsb, ha⟩ := hpat
 have hCa : C ≠ a := fun z => by
  rcases ha with ha | ha
  ·have := I2.lt; rw [<- ha, <- z] at this
   exact absurd (Nat.lt_of_lt_of_le this hCs) (Nat.lt_irrefl _)
  ·obtain ⟨v, qv⟩ := I2.cell y a ha
   exact absurd (Nat.lt_of_lt_of_le qv.lt (by rw [<- z]; exact hCs)) (Nat.lt_irrefl _)
 exact ⟨m', hn.sameBut hsb hCa, fun h'' hs'' => ⟨_, H', I''.letGo ⟨_, _, I2⟩ hCs hC hs'', q⟩⟩
end
end
section
section
variable {X : Cx} {pins : List (Addr × Obj)} {σ : St} {H : Hp} {s : Shared} {h' : Heap}
theorem Inv.turnedL {t' : Nat} {fp : List Addr} (I : Inv X pins σ H s) (k : ∀ b o, b ∉ fp -> s.heap.get? b = some o -> h'.get? b = some o) (hf : ∀ b ∈ fp, FpOk X pins H b) : Inv X pins σ H { s with heap := h', toks := t' } := by
 have nit : ∀ b u, H b = some u -> b ∉ fp := fun b u e z => by rw [(hf b z).1] at e; cases e
 refine I.step (g' := s.gens) (d' := s.drawn) (ch := fp) (fun b hb => ⟨(hf b hb).2.2.2.1, (hf b hb).2.1, (hf b hb).2.2.2.2.1, (hf b hb).2.2.2.2.2⟩) (fun b o _ _ hc e _ => k b o hc e) (fun b o _ _ hc e _ => ⟨o.slots, k b o hc e⟩) (fun _ _ _ _ n => n)
  (fun b o hc e => ⟨o, k b o hc e⟩) (fun _ _ e => e) (fun _ _ _ e => e) (fun b ps e => ⟨#[], by rw [e]; simp⟩) (fun m hm => ?_) (fun b u e => ?_) I.bare
 ·obtain ⟨o, es, ep, ho, r⟩ := hm
  exact ⟨o, es, ep, k _ o (fun z => (hf _ z).2.1 rfl) ho, r⟩
 ·refine (I.hok b u e).stay (fun c v hc q => k c v ?_ q) (fun _ q => q) fun _ _ q => q
  rcases hc with z | z
  ·rw [z]; exact nit b u e
  ·exact nit c _ z
theorem Inv.turnedN {t' : Nat} {fp : List Addr} {T : Addr} {o : HO} (I : Inv X pins σ H s) (k : ∀ b o, b ∉ fp -> s.heap.get? b = some o -> h'.get? b = some o) (hf : ∀ b ∈ fp, FpOk X pins H b) (hT : s.heap.objs.size <= T)
  (new : ObjOk X.prog X.w (upd H T o) h' T o) : Inv X pins σ (upd H T o) { s with heap := h', toks := t' } := by
 have hn : H T = none := I.hok.fresh hT
 have ne : ∀ b u, s.heap.get? b = some u -> b ≠ T := fun b u e z => absurd (Nat.lt_of_lt_of_le (Heap.lt_size e) (by rw [z]; exact hT)) (Nat.lt_irrefl _)
 have nit : ∀ b u, H b = some u -> b ∉ fp := fun b u e z => by rw [(hf b z).1] at e; cases e
 refine I.step (g' := s.gens) (d' := s.drawn) (ch := fp) (fun b hb => ⟨(hf b hb).2.2.2.1, (hf b hb).2.1, (hf b hb).2.2.2.2.1, (hf b hb).2.2.2.2.2⟩) (fun b o _ _ hc e _ => k b o hc e) (fun b o _ _ hc e _ => ⟨o.slots, k b o hc e⟩) (fun b o _ e n => by rw [y0 (ne b o e)]; exact n)
  (fun b o hc e => ⟨o, k b o hc e⟩) (fun b xs e => by rw [y0 (t6 e hn)]; exact e) (fun b _ _ e => by rw [y0 (t6 e hn)]; exact e) (fun b ps e => ⟨#[], by rw [y0 (t6 e hn), e]; simp⟩) (fun m hm => ?_) (fun b u e => ?_) I.bare
 ·obtain ⟨o, es, ep, ho, r⟩ := hm
  exact ⟨o, es, ep, k _ o (fun z => (hf _ z).2.1 rfl) ho, r⟩
 ·by_cases hb : b = T
  ·subst hb; rw [y3] at e; cases e; exact new
  ·rw [y0 hb] at e
   refine (I.hok b u e).stay (fun c v hc q => k c v ?_ q) (fun c q => by rw [y0 (t6 q hn)]; exact q) fun c xs q => by rw [y0 (t6 q hn)]; exact q
   rcases hc with z | z
   ·rw [z]; exact nit b u e
   ·exact nit c _ z
end
def Itz2 (K : W.Frag) (l1 l2 : Addr) : It :=
 ⟨fun i H => ∃ xs ys x y, SqL K H l1 xs /\ SqL K H l2 ys /\ xs[i]? = some x /\ ys[i]? = some y,
  fun i H v H' => ∃ t x y, v = .ref t /\ H t = none /\ H' = upd H t (.tup [x, y]) /\ (∀ xs, SqL K H l1 xs -> xs[i]? = some x) /\ (∀ ys, SqL K H l2 ys -> ys[i]? = some y),
  fun i H => ∃ xs ys, SqL K H l1 xs /\ SqL K H l2 ys /\ (xs.length <= i \/ ys.length <= i)⟩
structure Zip2 (z TI TO i1 i2 : Addr) : Prop where
 TIz : TI ≠ z
 TOz : TO ≠ z
 i1z : i1 ≠ z
 i2z : i2 ≠ z
 TITO : TI ≠ TO
 TIi1 : TI ≠ i1
 TIi2 : TI ≠ i2
 TOi1 : TO ≠ i1
 TOi2 : TO ≠ i2
 i12 : i1 ≠ i2
theorem P7 {h : Heap} {a b : Addr} {o u : Obj} (e : h.get? a = some o) (e' : h.get? b = some u) (d : o.cls ≠ u.cls) : a ≠ b := by
 intro z; subst z; rw [e] at e'; exact d (congrArg Obj.cls (Option.some.inj e'))
theorem V5 {n : String} (h : ("list" == n) = false) : Value.type "list" ≠ Value.type n := fun e => by cases e; revert h; decide
theorem zip2_new (n : Nat) : Zip2 (n + 4) (n + 2) (n + 3) n (n + 1) := by
 constructor <;> (show ((_ : Nat) ≠ _); omega)
theorem G6 {h : Heap} {z TI TO i1 i2 l1 l2 : Addr} {its1 its2 : Array Value} {a b f0 : Value} {k1 k2 : Nat} (D : Zip2 z TI TO i1 i2) (hz : IsZip h z TI TO f0) (hTO : IsPair h TO a b) (h1 : h.IsListIter i1 l1 k1) (h2 : h.IsListIter i2 l2 k2)
  (p1 : h.IsList l1 its1) (p2 : h.IsList l2 its2) : ZipApart z TI TO i1 i2 l1 l2 := by
 obtain ⟨o1, e1, c1, _⟩ := h1
 obtain ⟨o2, e2, c2, _⟩ := h2
 obtain ⟨p1o, pe1, pc1, _⟩ := p1
 obtain ⟨p2o, pe2, pc2, _⟩ := p2
 exact ⟨D.TIz, D.TOz, D.i1z, D.i2z, D.TITO, D.TIi1, D.TIi2, D.TOi1, D.TOi2, D.i12,
  P7 pe1 hz (by rw [pc1]; exact V5 (by decide)), P7 pe1 hTO (by rw [pc1]; exact V5 (by decide)), P7 pe1 e1 (by rw [pc1, c1]; decide), P7 pe1 e2 (by rw [pc1, c2]; decide),
  P7 pe2 hz (by rw [pc2]; exact V5 (by decide)), P7 pe2 hTO (by rw [pc2]; exact V5 (by decide)), P7 pe2 e1 (by rw [pc2, c1]; decide), P7 pe2 e2 (by rw [pc2, c2]; decide)⟩
theorem turn_zip2 {P : Program} {w : World} {K : W.Frag} {es : List Expr} {tk : Nat} {tp : Pos} (z TI TO i1 i2 l1 l2 : Addr) (D : Zip2 z TI TO i1 i2) :
  Turn P w K (.Tuple es tk tp) (Itz2 K l1 l2) [z, TI, TO, i1, i2] z
   (fun i h => IsZip h z TI TO .none /\ IsPair h TI (.ref i1) (.ref i2) /\ (∃ a b, IsPair h TO a b) /\ h.IsListIter i1 l1 i /\ h.IsListIter i2 l2 i) where
 mem := by simp
 obj := fun i h st b hb => by
  obtain ⟨hz, hTI, ⟨a, c, hTO⟩, ⟨o1, e1, _, d1⟩, ⟨o2, e2, _, d2⟩⟩ := st
  simp only [mem_cons, not_mem_nil, or_false] at hb
  rcases hb with rfl | rfl | rfl | rfl | rfl
  ·exact ⟨_, hz, fun v q => by cases q⟩
  ·exact ⟨_, hTI, fun v q => by cases q⟩
  ·exact ⟨_, hTO, fun v q => by cases q⟩
  ·exact ⟨_, e1, fun v q => by rw [d1] at q; cases q⟩
  ·exact ⟨_, e2, fun v q => by rw [d2] at q; cases q⟩
 keep := fun i h h' st k => by
  obtain ⟨hz, hTI, ⟨a, c, hTO⟩, h1, h2⟩ := st
  exact ⟨k z (by simp) _ hz, k TI (by simp) _ hTI, ⟨a, c, k TO (by simp) _ hTO⟩, h1.at fun o e => k i1 (by simp) o e, h2.at fun o e => k i2 (by simp) o e⟩
 item := by
  intro X hP hw hK hc i pins s σ H E I hf st hg
  subst hP hw hK
  obtain ⟨xs, ys, x, y, hq1, hq2, hx, hy⟩ := hg
  obtain ⟨its1, rv1, p1, _⟩ := I.list hq1
  obtain ⟨its2, rv2, p2, _⟩ := I.list hq2
  obtain ⟨u, hu, ru⟩ := rv1.get hx
  obtain ⟨v, hv, rw'⟩ := rv2.get hy
  obtain ⟨hz, hTI, ⟨a, b, hTO⟩, h1, h2⟩ := st
  have Z := G6 D hz hTO h1 h2 p1.isList p2.isList
  refine wpAny_pyNext_zip_item Z hz hTI hTO h1 h2 p1.isList p2.isList (x := u) (y := v) (by simpa using hu) (by simpa using hv) fun h' a1 a2 a3 a4 a5 a6 hk => ?_
  refine ⟨_, rfl, ?_⟩
  refine wpAny_letOwnedTupleGo_zip a1 fun h'' hz'' hs'' => ?_
  have hzs : z < s.heap.objs.size := Heap.lt_size hz
  have kk : ∀ c o, c ∉ [z, TI, TO, i1, i2] -> s.heap.get? c = some o -> h''.get? c = some o := fun c o hc e => by
   simp only [mem_cons, not_mem_nil, or_false, not_or] at hc
   exact hs''.extBut _ _ hc.1 (hk c o hc.1 hc.2.2.1 hc.2.2.2.1 hc.2.2.2.2 e)
  have hT : h''.get? s.heap.objs.size = some { cls := .type "tuple", data := .seq #[u, v] } := hs''.extBut _ _ (Nat.ne_of_gt hzs) a5
  have I2 : Inv X pins σ (upd H s.heap.objs.size (.tup [x, y])) { s with heap := h'', toks := s.toks } :=
   I.turnedN (T := s.heap.objs.size) (o := .tup [x, y]) kk hf (Nat.le_refl _) ⟨by show 2 <= sizeLine; decide, [u, v], .cons ru (.cons rw' .nil), ⟨_, hT, rfl, _, rfl⟩⟩
  refine ⟨.ref s.heap.objs.size, _, I2, rfl, ⟨_, x, y, rfl, I.fresh, rfl, fun zs hzs' => by rw [I.list_inj hzs' hq1]; exact hx, fun zs hzs' => by rw [I.list_inj hzs' hq2]; exact hy⟩,
   ⟨hz'', hs''.extBut _ _ D.TIz (hk _ _ D.TIz D.TITO D.TIi1 D.TIi2 hTI), ⟨_, _, hs''.extBut _ _ D.TOz a2⟩, a3.extBut hs''.extBut D.i1z, a4.extBut hs''.extBut D.i2z⟩, fun c hc' => ?_⟩
  have hlt : c < s.heap.objs.size := by
   obtain ⟨o1, e1, _⟩ := h1
   obtain ⟨o2, e2, _⟩ := h2
   simp only [mem_cons, not_mem_nil, or_false] at hc'
   rcases hc' with rfl | rfl | rfl | rfl | rfl
   ·exact hzs
   ·exact Heap.lt_size hTI
   ·exact Heap.lt_size hTO
   ·exact Heap.lt_size e1
   ·exact Heap.lt_size e2
  rw [y0 (Nat.ne_of_lt hlt)]
  exact (hf c hc').1
 done := by
  intro X hP hw hK hc i pins s σ H E I hf st hg
  subst hP hw hK
  obtain ⟨xs, ys, hq1, hq2, hl⟩ := hg
  obtain ⟨its1, rv1, p1, _⟩ := I.list hq1
  obtain ⟨its2, rv2, p2, _⟩ := I.list hq2
  obtain ⟨hz, hTI, ⟨a, b, hTO⟩, h1, h2⟩ := st
  have Z := G6 D hz hTO h1 h2 p1.isList p2.isList
  have l1' := rv1.length
  have l2' := rv2.length
  refine wpAny_pyNext_zip_end (I.ok.hd hc) Z hz hTI hTO h1 h2 p1.isList p2.isList (hl.elim (fun q => .inl (by simp; omega)) fun q => .inr (by simp; omega)) fun h' hk => ⟨rfl, ?_⟩
  exact I.turnedL (t' := s.toks) (fun c o hc e => by
   simp only [mem_cons, not_mem_nil, or_false, not_or] at hc
   exact hk c o hc.1 hc.2.2.1 hc.2.2.2.1 hc.2.2.2.2 e) hf
 self := fun _ _ _ _ _ st h => wpAny_pyIter_zip st.1 h
section
variable {X : Cx}
def iZip2 (K : W.Frag) (ta : TA) : TI := fun σ H R => ta σ H fun vs H1 => ∃ a b xs ys, vs = [.ref a, .ref b] /\ SqL K H1 a xs /\ SqL K H1 b ys /\ R (Itz2 K a b) H1
theorem pi_zip2 {a b : Expr} {ta : TA} {p pos : Pos} {es : List Expr} {tk : Nat} {tp : Pos} (hg : Gl X "zip") (hm : X.mg "zip" = none) (ha : PA X [a, b] ta) (hs : starEach [a, b] X.env = [(false, eval a X.env), (false, eval b X.env)] := by rfl) (hs2 : starEach [b] X.env = [(false, eval b X.env)] := by rfl) :
  PI X (.Tuple es tk tp) (.Call (.Name "zip" p) [a, b] [] pos) (iZip2 X.K ta) := by
 intro pins s σ H R I h
 refine Call_ (X3 I hg hm boot_zip (PyProof.Rows.callWith_type1 (thn (ha pos pins s σ H _ I h) fun us s1 hpat => ?_) (by rw [hs, hs2]) (by rw [hs2]; rfl)))
 obtain ⟨vs, H1, I1, r1, q1⟩ := hpat
 obtain ⟨l1, l2, xs, ys, e, q1, q2, q⟩ := q1
 subst e
 cases r1 with
 | cons r rr =>
  cases rr with
  | cons r' rr =>
   cases rr
   cases r
   cases r'
   obtain ⟨its1, rv1, p1, _⟩ := I1.list q1
   obtain ⟨its2, rv2, p2, _⟩ := I1.list q2
   refine call_zip_2 p1.isList p2.isList fun h' hz hTI hTO hi1 hi2 hsz hk => ?_
   have I2 : Inv X pins σ H1 { s1 with heap := h', toks := s1.toks } := I1.kept hk
   refine wpAny_pyIter_zip (s := { s1 with heap := h' }) hz ?_
   refine ⟨_, [s1.heap.objs.size + 4, s1.heap.objs.size + 2, s1.heap.objs.size + 3, s1.heap.objs.size, s1.heap.objs.size + 1], _, _, H1, rfl, I2, turn_zip2 _ _ _ _ _ l1 l2 (zip2_new _),
    ⟨hz, hTI, ⟨_, _, hTO⟩, hi1, hi2⟩, fun b hb => ?_, q⟩
   have hb' : s1.heap.objs.size <= b := by
    simp only [mem_cons, not_mem_nil, or_false] at hb
    rcases hb with rfl | rfl | rfl | rfl | rfl
    ·exact Nat.le_add_right _ 4
    ·exact Nat.le_add_right _ 2
    ·exact Nat.le_add_right _ 3
    ·exact Nat.le_refl _
    ·exact Nat.le_add_right _ 1
   exact I1.fpOk hb' (I1.hok.fresh hb')
end
end
section
structure Zip3 (z TI TO i1 i2 i3 : Addr) : Prop where
 TIz : TI ≠ z
 TOz : TO ≠ z
 i1z : i1 ≠ z
 i2z : i2 ≠ z
 i3z : i3 ≠ z
 TITO : TI ≠ TO
 TIi1 : TI ≠ i1
 TIi2 : TI ≠ i2
 TIi3 : TI ≠ i3
 TOi1 : TO ≠ i1
 TOi2 : TO ≠ i2
 TOi3 : TO ≠ i3
 i12 : i1 ≠ i2
 i13 : i1 ≠ i3
 i23 : i2 ≠ i3
structure Apart3 (z TO i1 i2 i3 l : Addr) : Prop where
 lz : l ≠ z
 lTO : l ≠ TO
 l1 : l ≠ i1
 l2 : l ≠ i2
 l3 : l ≠ i3
section
variable {prog : Program} {w : World} {A : Around} {E : Value -> Shared -> Prop} {s : Shared}
end
section
variable {X : Cx}
end
def Ite (K : W.Frag) (l : Addr) : It :=
 ⟨fun i H => ∃ xs x, SqL K H l xs /\ xs[i]? = some x,
  fun i H v H' => ∃ t x, v = .ref t /\ H t = none /\ H' = upd H t (.tup [.int i, x]) /\ (∀ xs, SqL K H l xs -> xs[i]? = some x),
  fun i H => ∃ xs, SqL K H l xs /\ xs.length <= i⟩
theorem zz9 {P : Program} {w : World} {K : W.Frag} {es : List Expr} {tk : Nat} {tp : Pos} (e it l : Addr) (hne : e ≠ it) :
  Turn P w K (.Tuple es tk tp) (Ite K l) [e, it] e (fun i h => (∃ old, IsEnum h e it (i : Nat) old) /\ h.IsListIter it l i) where
 mem := by simp
 obj := fun i h st b hb => by
  obtain ⟨⟨old, he⟩, ⟨o1, e1, _, d1⟩⟩ := st
  simp only [mem_cons, not_mem_nil, or_false] at hb
  rcases hb with rfl | rfl
  ·exact ⟨_, he, fun v q => by cases q⟩
  ·exact ⟨_, e1, fun v q => by rw [d1] at q; cases q⟩
 keep := fun i h h' st k => by
  obtain ⟨⟨old, he⟩, h1⟩ := st
  exact ⟨⟨old, k e (by simp) _ he⟩, h1.at fun o q => k it (by simp) o q⟩
 item := by
  intro X hP hw hK hc i pins s σ H E I hf st hg
  subst hP hw hK
  obtain ⟨xs, x, hq1, hx⟩ := hg
  obtain ⟨its1, rv1, p1, _⟩ := I.list hq1
  obtain ⟨u1, hu1, ru1⟩ := rv1.get hx
  obtain ⟨⟨old, he⟩, h1⟩ := st
  refine wpAny_pyNext_enum_item he h1 p1.isList (x := u1) (by simpa using hu1) hne fun h' a1 a2 a3 a4 hk => ?_
  refine ⟨_, rfl, ?_⟩
  refine wpAny_letOwnedTupleGo_enum a1 fun h'' he'' hs'' => ?_
  have hzs : e < s.heap.objs.size := Heap.lt_size he
  have kk : ∀ c o, c ∉ [e, it] -> s.heap.get? c = some o -> h''.get? c = some o := fun c o hc q => by
   simp only [mem_cons, not_mem_nil, or_false, not_or] at hc
   exact hs''.extBut _ _ hc.1 (hk c o hc.1 hc.2 q)
  have hT : h''.get? s.heap.objs.size = some { cls := .type "tuple", data := .seq #[.int i s.toks, u1] } := hs''.extBut _ _ (Nat.ne_of_gt hzs) a3
  have I2 : Inv X pins σ (upd H s.heap.objs.size (.tup [.int i, x])) { s with heap := h'', toks := s.toks + 1 } :=
   I.turnedN (T := s.heap.objs.size) (o := .tup [.int i, x]) kk hf (Nat.le_refl _) ⟨by show 2 <= sizeLine; decide, [.int i s.toks, u1], .cons ⟨_, rfl⟩ (.cons ru1 .nil), ⟨_, hT, rfl, _, rfl⟩⟩
  refine ⟨.ref s.heap.objs.size, _, I2, rfl, ⟨_, x, rfl, I.fresh, rfl, fun zs hzs' => by rw [I.list_inj hzs' hq1]; exact hx⟩,
   ⟨⟨_, he''⟩, a2.extBut hs''.extBut hne.symm⟩, fun c hc' => ?_⟩
  have hlt : c < s.heap.objs.size := by
   obtain ⟨o1, e1, _⟩ := h1
   simp only [mem_cons, not_mem_nil, or_false] at hc'
   rcases hc' with rfl | rfl
   ·exact hzs
   ·exact Heap.lt_size e1
  rw [y0 (Nat.ne_of_lt hlt)]
  exact (hf c hc').1
 done := by
  intro X hP hw hK hc i pins s σ H E I hf st hg
  subst hP hw hK
  obtain ⟨xs, hq1, hl⟩ := hg
  obtain ⟨its1, rv1, p1, _⟩ := I.list hq1
  obtain ⟨⟨old, he⟩, h1⟩ := st
  have l1' := rv1.length
  refine wpAny_pyNext_enum_end (I.ok.hd hc) he h1 p1.isList (by simp; omega) fun h' hk => ⟨rfl, ?_⟩
  exact I.turnedL (t' := s.toks) (fun c o hc q => by
   simp only [mem_cons, not_mem_nil, or_false, not_or] at hc
   exact hk c o hc.2 q) hf
 self := fun A i s Q E st h => by
  obtain ⟨⟨old, he⟩, h1⟩ := st
  have hT : s.TypeIs (.ref e) "enumerate" := ⟨_, he, rfl⟩
  refine wpAny_pyIter_slot hT F.slot_enumerate_iter (wpAny_call_entry F.slot_enumerate_iter hT F.entry_enumerate_iter ?_ (F.args_enumerate_iter_1 _))
  show wpAny _ _ (ret (.ref e)) _ _ s
  exact wpAny_pure ⟨_, rfl, "enumerate", _, hT, F.slot_enumerate_next.lookup, h⟩
section
variable {X : Cx}
def iEnum (K : W.Frag) (ta : TA) : TI := fun σ H R => ta σ H fun vs H1 => ∃ a xs, vs = [.ref a] /\ SqL K H1 a xs /\ R (Ite K a) H1
theorem pi_enum {a : Expr} {ta : TA} {p pos : Pos} {es : List Expr} {tk : Nat} {tp : Pos} (hg : Gl X "enumerate") (hm : X.mg "enumerate" = none) (ha : PA X [a] ta) (hs : starEach [a] X.env = [(false, eval a X.env)] := by rfl) :
  PI X (.Tuple es tk tp) (.Call (.Name "enumerate" p) [a] [] pos) (iEnum X.K ta) := by
 intro pins s σ H R I h
 refine Call_ (X3 I hg hm boot_enumerate (PyProof.Rows.callWith_type1 (thn (ha pos pins s σ H _ I h) fun us s1 hpat => ?_) hs rfl))
 obtain ⟨vs, H1, I1, r1, q1⟩ := hpat
 obtain ⟨l, xs, e, q1, q⟩ := q1
 subst e
 cases r1 with
 | cons r rr =>
  cases rr
  cases r
  obtain ⟨its1, rv1, p1, _⟩ := I1.list q1
  refine call_enumerate_list p1.isList fun h' he hit hsz hk => ?_
  have I2 : Inv X pins σ H1 { s1 with heap := h', toks := s1.toks } := I1.kept hk
  have hT : ({ s1 with heap := h' } : Shared).TypeIs (.ref (s1.heap.objs.size + 1)) "enumerate" := ⟨_, he, rfl⟩
  refine (zz9 (P := X.prog) (w := X.w) (K := X.K) (es := es) (tk := tk) (tp := tp) (s1.heap.objs.size + 1) s1.heap.objs.size l (Nat.ne_of_gt (Nat.lt_succ_self _))).self X.A 0 { s1 with heap := h' } _ _ ⟨⟨_, he⟩, hit⟩ ?_
  refine ⟨_, [s1.heap.objs.size + 1, s1.heap.objs.size], _, _, H1, rfl, I2, zz9 _ _ l (Nat.ne_of_gt (Nat.lt_succ_self _)), ⟨⟨_, he⟩, hit⟩, fun b hb => ?_, q⟩
  have hb' : s1.heap.objs.size <= b := by
   simp only [mem_cons, not_mem_nil, or_false] at hb
   rcases hb with rfl | rfl
   ·exact Nat.le_succ _
   ·exact Nat.le_refl _
  exact I1.fpOk hb' (I1.hok.fresh hb')
end
end
section
def XAt (a C : Addr) (h : Heap) : Prop := ∃ o vs, h.get? a = some o /\ o.cls = .ref C /\ o.data = .fields vs
def xName (K : W.Frag) (C : Addr) : Option Str := match K.lookup C with
 | some ⟨_, _, .cls cd, _⟩ => some cd.name
 | _ => none
inductive D where
 | non | bl (b : Bool) | int (i : Int) | str (x : Str) | lst (ds : List D) | tup (ds : List D) | exc (c : Str)
 | ptr (a : Addr) | obj (c : Str) (ns : List Str) (ds : List D)
mutual
inductive Rep (K : W.Frag) (F : Hp) : V -> D -> Prop
 | non : Rep K F .non .non
 | bl (b : Bool) : Rep K F (.bl b) (.bl b)
 | int (i : Int) : Rep K F (.int i) (.int i)
 | str (x : Str) : Rep K F (.str x) (.str x)
 | lst {a : Addr} {xs : List V} {ds : List D} : SqL K F a xs -> Reps K F xs ds -> Rep K F (.ref a) (.lst ds)
 | tup {a : Addr} {xs : List V} {ds : List D} : SqT K F a xs -> Reps K F xs ds -> Rep K F (.ref a) (.tup ds)
 | exc {a C : Addr} {c : Str} : (W.nsIn K mainGlobals c = some (some (.ref C)) /\ xName K C = some c) -> F a = some (.ext (XAt a C)) -> Rep K F (.ref a) (.exc c)
 | ptr (a : Addr) : Rep K F (.ref a) (.ptr a)
 | obj {a dx C : Addr} {c : Str} {ns : List Str} {xs : List V} {ds : List D} : W.nsIn K mainGlobals c = some (some (.ref C)) -> ns.length = xs.length -> F a = some (.ins C dx (ns.zip xs)) -> F dx = some (.own a) -> Reps K F xs ds -> Rep K F (.ref a) (.obj c ns ds)
inductive Reps (K : W.Frag) (F : Hp) : List V -> List D -> Prop
 | nil : Reps K F [] []
 | cons {v : V} {d : D} {vs : List V} {ds : List D} : Rep K F v d -> Reps K F vs ds -> Reps K F (v :: vs) (d :: ds)
end
theorem Same.seqT {K : W.Frag} {H H' : Hp} {a : Addr} {xs : List V} (e : Same H H') (h : SqT K H a xs) : SqT K H' a xs := by
 rcases h with (h | ⟨o, h⟩) | h
 ·exact .inl (.inl (e _ _ h))
 ·exact .inl (.inr ⟨o, e _ _ h⟩)
 ·exact .inr h
section
variable {K : W.Frag} {F F' : Hp}
mutual
theorem Rep.mono (e : Same F F') : ∀ {v : V} {d : D}, Rep K F v d -> Rep K F' v d
 | _, _, .non => .non
 | _, _, .bl b => .bl b
 | _, _, .int i => .int i
 | _, _, .str x => .str x
 | _, _, .lst h r => .lst (e.seq h) (Reps.mono e r)
 | _, _, .tup h r => .tup (e.seqT h) (Reps.mono e r)
 | _, _, .exc h r => .exc h (e _ _ r)
 | _, _, .ptr a => .ptr a
 | _, _, .obj c l h h2 r => .obj c l (e _ _ h) (e _ _ h2) (Reps.mono e r)
theorem Reps.mono (e : Same F F') : ∀ {vs : List V} {ds : List D}, Reps K F vs ds -> Reps K F' vs ds
 | _, _, .nil => .nil
 | _, _, .cons h r => .cons (Rep.mono e h) (Reps.mono e r)
end
theorem Reps.length : ∀ {vs : List V} {ds : List D}, Reps K F vs ds -> vs.length = ds.length
 | _, _, .nil => rfl
 | _, _, .cons _ r => congrArg (· + 1) (Reps.length r)
theorem Reps.get : ∀ {vs : List V} {ds : List D} {i : Nat} {d : D}, Reps K F vs ds -> ds[i]? = some d -> ∃ v, vs[i]? = some v /\ Rep K F v d
 | _, _, _, _, .nil, e => by simp at e
 | _, _, 0, _, .cons h _, e => by simp at e; subst e; exact ⟨_, rfl, h⟩
 | _, _, i + 1, d, .cons _ r, e => by
  obtain ⟨v, h1, h2⟩ := Reps.get (i := i) (d := d) r (by simpa using e)
  exact ⟨v, by simpa using h1, h2⟩
theorem Reps.get' : ∀ {vs : List V} {ds : List D} {i : Nat} {v : V}, Reps K F vs ds -> vs[i]? = some v -> ∃ d, ds[i]? = some d /\ Rep K F v d
 | _, _, _, _, .nil, e => by simp at e
 | _, _, 0, _, .cons h _, e => by simp at e; subst e; exact ⟨_, rfl, h⟩
 | _, _, i + 1, d, .cons _ r, e => by
  obtain ⟨v, h1, h2⟩ := Reps.get' (i := i) (v := d) r (by simpa using e)
  exact ⟨v, by simpa using h1, h2⟩
theorem Reps.append : ∀ {vs ws : List V} {ds es : List D}, Reps K F vs ds -> Reps K F ws es -> Reps K F (vs ++ ws) (ds ++ es)
 | _, _, _, _, .nil, s => s
 | _, _, _, _, .cons h r, s => .cons h (Reps.append r s)
theorem Reps.take : ∀ {vs : List V} {ds : List D} (n : Nat), Reps K F vs ds -> Reps K F (vs.take n) (ds.take n)
 | _, _, 0, _ => .nil
 | _, _, _ + 1, .nil => .nil
 | _, _, n + 1, .cons h r => .cons h (Reps.take n r)
theorem Reps.drop : ∀ {vs : List V} {ds : List D} (n : Nat), Reps K F vs ds -> Reps K F (vs.drop n) (ds.drop n)
 | _, _, 0, r => r
 | _, _, _ + 1, .nil => .nil
 | _, _, n + 1, .cons _ r => Reps.drop n r
theorem Reps.set {v : V} {d : D} (h : Rep K F v d) : ∀ {vs : List V} {ds : List D} (i : Nat), Reps K F vs ds -> Reps K F (vs.set i v) (ds.set i d)
 | _, _, _, .nil => .nil
 | _, _, 0, .cons _ r => .cons h r
 | _, _, i + 1, .cons q r => .cons q (Reps.set h i r)
end
structure Ext (F H F' H' : Hp) : Prop where
 ff : Same F F'
 hh : Same H H'
 fh : Same F' H'
 new : ∀ b, F b = none -> F' b ≠ none -> H b = none
 nf : ∀ b o u, F' b = some (.frz o u) -> F b = some (.frz o u)
theorem Ext.refl {F H : Hp} (h : Same F H) : Ext F H F H := ⟨Same.refl _, Same.refl _, h, fun b e n => absurd e n, fun _ _ _ z => z⟩
theorem Ext.trans {F H F1 H1 F2 H2 : Hp} (a : Ext F H F1 H1) (b : Ext F1 H1 F2 H2) : Ext F H F2 H2 :=
 ⟨a.ff.trans b.ff, a.hh.trans b.hh, b.fh, fun c e n => by
  by_cases h : F1 c = none
  ·exact a.hh.free (b.new c h n)
  ·exact a.new c e h, fun c o u z => a.nf c o u (b.nf c o u z)⟩
theorem Same.put {F H : Hp} {p : Addr} {o : HO} (h : Same F H) (hp : F p = none) : Same F (upd H p o) := fun b u e => by
 rw [y0 (t6 e hp)]; exact h b u e
theorem Same.put2 {F H : Hp} {p : Addr} {o : HO} (h : Same F H) : Same (upd F p o) (upd H p o) := fun b u e => by
 by_cases hb : b = p
 ·subst hb; rw [y3] at e ⊢; exact e
 ·rw [y0 hb] at e ⊢; exact h b u e
theorem Ext.laid {F H : Hp} {p : Addr} {o : HO} (h : Same F H) (hp : H p = none) (hz : ∀ a u, o ≠ .frz a u := by intro _ _ z; cases z) : Ext F H (upd F p o) (upd H p o) :=
 ⟨(Same.refl F).put (h.free hp), (Same.refl H).put hp, h.put2, fun b e n => by
  by_cases hb : b = p
  ·subst hb; exact hp
  ·rw [y0 hb] at n; exact absurd e n, fun b a u z => by
  by_cases hb : b = p
  ·subst hb; rw [y3] at z; exact absurd (Option.some.inj z) (hz a u)
  ·rw [y0 hb] at z; exact z⟩
theorem Ext.own {F H : Hp} {p : Addr} {o : HO} (h : Same F H) (hp : H p = none) : Ext F H F (upd H p o) :=
 ⟨Same.refl F, (Same.refl H).put hp, h.put (h.free hp), fun b e n => absurd e n, fun _ _ _ z => z⟩
theorem Ext.freeze {F H F' H' : Hp} {p : Addr} {o : HO} (a : Ext F H F' H') (hp' : F' p = none) (hp : H p = none) (ho : H' p = some o) (hz : ∀ a u, o ≠ .frz a u := by intro _ _ z; cases z) : Ext F H (upd F' p o) H' :=
 ⟨a.ff.put (a.ff.free hp'), a.hh, fun b u e => by
   by_cases hb : b = p
   ·subst hb; rw [y3] at e; cases e; exact ho
   ·rw [y0 hb] at e; exact a.fh b u e, fun b e n => by
   by_cases hb : b = p
   ·subst hb; exact hp
   ·rw [y0 hb] at n; exact a.new b e n, fun b c u z => by
   by_cases hb : b = p
   ·subst hb; rw [y3] at z; exact absurd (Option.some.inj z) (hz c u)
   ·rw [y0 hb] at z; exact a.nf b c u z⟩
inductive S where
 | sh (d : D) | own (ds : List D) | ob (p : Addr) (ds : List D)
 | rd (p : Addr) (ds : List D)
abbrev Ro := List (Option S)
def RdF (F0 H0 : Hp) (q : Addr) (ds : List D) : Prop := F0 q = none /\ ∃ ns : List Int, ds = ns.map D.int /\ Rd H0 q (.lst (ns.map V.int))
structure Rl (K : W.Frag) (F0 H0 F H : Hp) (σ : St) (ρ : Ro) : Prop where
 ext : Ext F0 H0 F H
 len : σ.length = ρ.length
 sh : ∀ (i : Nat) d, ρ[i]? = some (some (.sh d)) -> ∃ v, σ[i]? = some (some v) /\ Rep K F v d
 own : ∀ (i : Nat) ds, ρ[i]? = some (some (.own ds)) -> ∃ p xs, σ[i]? = some (some (.ref p)) /\ F p = none /\ H p = some (.lst xs) /\ Reps K F xs ds /\ H0 p = none
 inj : ∀ (i j : Nat) p ds es, i ≠ j -> ρ[i]? = some (some (.own ds)) -> ρ[j]? = some (some (.own es)) -> σ[i]? = some (some (.ref p)) -> σ[j]? = some (some (.ref p)) -> False
 ob : ∀ (i : Nat) p ds, ρ[i]? = some (some (.ob p ds)) -> σ[i]? = some (some (.ref p)) /\ F p = none /\ H0 p = none /\ ∃ xs, H p = some (.lst xs) /\ Reps K F xs ds
 obn : ∀ (i j : Nat) p ds es, ρ[i]? = some (some (.ob p ds)) -> ρ[j]? = some (some (.own es)) -> σ[j]? = some (some (.ref p)) -> False
 ob1 : ∀ (i j : Nat) p q ds es, ρ[i]? = some (some (.ob p ds)) -> ρ[j]? = some (some (.ob q es)) -> i = j
 rd : ∀ (i : Nat) q ds, ρ[i]? = some (some (.rd q ds)) -> σ[i]? = some (some (.ref q)) /\ RdF F0 H0 q ds
def nrd : Option S -> Prop
 | some (.rd _ _) => False
 | _ => True
theorem S0 {ρ : Ro} {i j : Nat} {x : Option S} {p : Addr} {ds : List D} (e : (ρ.set i x)[j]? = some (some (.rd p ds))) (hx : nrd x := by exact True.intro) : i ≠ j /\ ρ[j]? = some (some (.rd p ds)) := by
 by_cases hj : i = j
 ·subst hj
  rcases Nat.lt_or_ge i ρ.length with z | z
  ·rw [getElem?_set_self z] at e; cases e; exact hx.elim
  ·rw [getElem?_eq_none (by simpa using z)] at e; cases e
 ·rw [getElem?_set_ne hj] at e; exact ⟨hj, e⟩
def nob : Option S -> Prop
 | some (.ob _ _) => False
 | _ => True
theorem m7 {ρ : Ro} {i j : Nat} {x : Option S} {p : Addr} {ds : List D} (e : (ρ.set i x)[j]? = some (some (.ob p ds))) (hx : nob x := by exact True.intro) : i ≠ j /\ ρ[j]? = some (some (.ob p ds)) := by
 by_cases hj : i = j
 ·subst hj
  rcases Nat.lt_or_ge i ρ.length with z | z
  ·rw [getElem?_set_self z] at e; cases e; exact hx.elim
  ·rw [getElem?_eq_none (by simpa using z)] at e; cases e
 ·rw [getElem?_set_ne hj] at e; exact ⟨hj, e⟩
section
variable {K : W.Frag} {F0 H0 F H F' H' : Hp} {σ : St} {ρ : Ro}
theorem Rl.fh (r : Rl K F0 H0 F H σ ρ) : Same F H := r.ext.fh
theorem Rl.go (r : Rl K F0 H0 F H σ ρ) (e : Ext F H F' H') : Rl K F0 H0 F' H' σ ρ where
 ext := r.ext.trans e
 len := r.len
 sh := fun i d h => let ⟨v, a, b⟩ := r.sh i d h; ⟨v, a, b.mono e.ff⟩
 own := fun i ds h => by
  obtain ⟨p, xs, a, b, c, d, z⟩ := r.own i ds h
  refine ⟨p, xs, a, ?_, e.hh _ _ c, d.mono e.ff, z⟩
  cases q : F' p with
  | none => rfl
  | some o => have := e.new p b (by rw [q]; simp); rw [this] at c; cases c
 inj := r.inj
 ob := fun i p ds h => by
  obtain ⟨a, b, c, xs, d, z⟩ := r.ob i p ds h
  refine ⟨a, ?_, c, xs, e.hh _ _ d, z.mono e.ff⟩
  cases q : F' p with
  | none => rfl
  | some o => have := e.new p b (by rw [q]; simp); rw [this] at d; cases d
 obn := r.obn
 ob1 := r.ob1
 rd := r.rd
theorem Rl.set (r : Rl K F0 H0 F H σ ρ) {i : Nat} {v : V} {d : D} (h : Rep K F v d) : Rl K F0 H0 F H (σ.set i (some v)) (ρ.set i (some (.sh d))) where
 ext := r.ext
 len := by simp [r.len]
 sh := fun j d' e => by
  by_cases hj : i = j
  ·subst hj
   have hl : i < ρ.length := by
    rcases Nat.lt_or_ge i ρ.length with z | z
    ·exact z
    ·rw [getElem?_eq_none (by simpa using z)] at e; cases e
   rw [getElem?_set_self hl] at e
   cases e
   exact ⟨v, by rw [getElem?_set_self (by rw [r.len]; exact hl)], h⟩
  ·rw [getElem?_set_ne hj] at e ⊢
   exact r.sh j d' e
 own := fun j ds e => by
  by_cases hj : i = j
  ·subst hj
   have hl : i < ρ.length := by
    rcases Nat.lt_or_ge i ρ.length with z | z
    ·exact z
    ·rw [getElem?_eq_none (by simpa using z)] at e; cases e
   rw [getElem?_set_self hl] at e
   cases e
  ·rw [getElem?_set_ne hj] at e ⊢
   exact r.own j ds e
 inj := fun j k p ds es hjk e1 e2 e3 e4 => by
  have n1 : i ≠ j := fun z => by
   subst z
   have hl : i < ρ.length := by
    rcases Nat.lt_or_ge i ρ.length with z | z
    ·exact z
    ·rw [getElem?_eq_none (by simpa using z)] at e1; cases e1
   rw [getElem?_set_self hl] at e1; cases e1
  have n2 : i ≠ k := fun z => by
   subst z
   have hl : i < ρ.length := by
    rcases Nat.lt_or_ge i ρ.length with z | z
    ·exact z
    ·rw [getElem?_eq_none (by simpa using z)] at e2; cases e2
   rw [getElem?_set_self hl] at e2; cases e2
  rw [getElem?_set_ne n1] at e1 e3
  rw [getElem?_set_ne n2] at e2 e4
  exact r.inj j k p ds es hjk e1 e2 e3 e4
 ob := fun j p ds e => by
  obtain ⟨n, e⟩ := m7 e
  rw [getElem?_set_ne n]; exact r.ob j p ds e
 obn := fun j k p ds es e1 e2 e3 => by
  obtain ⟨n, e1⟩ := m7 e1
  have n2 : i ≠ k := fun z => by
   subst z
   have hl : i < ρ.length := by
    rcases Nat.lt_or_ge i ρ.length with z | z
    ·exact z
    ·rw [getElem?_eq_none (by simpa using z)] at e2; cases e2
   rw [getElem?_set_self hl] at e2; cases e2
  rw [getElem?_set_ne n2] at e2 e3
  exact r.obn j k p ds es e1 e2 e3
 ob1 := fun j k p q ds es e1 e2 => r.ob1 j k p q ds es (m7 e1).2 (m7 e2).2
 rd := fun j q ds e => by
  obtain ⟨n, e⟩ := S0 e
  rw [getElem?_set_ne n]; exact r.rd j q ds e
theorem Rl.setOwn (r : Rl K F0 H0 F H σ ρ) {i : Nat} {p : Addr} {xs : List V} {ds : List D} (hF : F p = none) (hH : H p = some (.lst xs)) (h : Reps K F xs ds) (h0 : H0 p = none)
  (fr : ∀ (j : Nat) es, i ≠ j -> ρ[j]? = some (some (.own es)) -> σ[j]? = some (some (.ref p)) -> False) (fo : ∀ (j : Nat) q es, ρ[j]? = some (some (.ob q es)) -> q ≠ p) : Rl K F0 H0 F H (σ.set i (some (.ref p))) (ρ.set i (some (.own ds))) where
 ext := r.ext
 len := by simp [r.len]
 sh := fun j d' e => by
  by_cases hj : i = j
  ·subst hj
   have hl : i < ρ.length := by
    rcases Nat.lt_or_ge i ρ.length with z | z
    ·exact z
    ·rw [getElem?_eq_none (by simpa using z)] at e; cases e
   rw [getElem?_set_self hl] at e
   cases e
  ·rw [getElem?_set_ne hj] at e ⊢
   exact r.sh j d' e
 own := fun j es e => by
  by_cases hj : i = j
  ·subst hj
   have hl : i < ρ.length := by
    rcases Nat.lt_or_ge i ρ.length with z | z
    ·exact z
    ·rw [getElem?_eq_none (by simpa using z)] at e; cases e
   rw [getElem?_set_self hl] at e
   cases e
   exact ⟨p, xs, by rw [getElem?_set_self (by rw [r.len]; exact hl)], hF, hH, h, h0⟩
  ·rw [getElem?_set_ne hj] at e ⊢
   exact r.own j es e
 inj := fun j k q es es' hjk e1 e2 e3 e4 => by
  by_cases n1 : i = j
  ·subst n1
   rw [getElem?_set_ne hjk] at e2 e4
   have hl : i < σ.length := by
    rcases Nat.lt_or_ge i σ.length with z | z
    ·exact z
    ·rw [getElem?_eq_none (by simpa using z)] at e3; cases e3
   rw [getElem?_set_self hl] at e3
   cases e3
   exact fr k es' hjk e2 e4
  ·rw [getElem?_set_ne n1] at e1 e3
   by_cases n2 : i = k
   ·subst n2
    have hl : i < σ.length := by
     rcases Nat.lt_or_ge i σ.length with z | z
     ·exact z
     ·rw [getElem?_eq_none (by simpa using z)] at e4; cases e4
    rw [getElem?_set_self hl] at e4
    cases e4
    exact fr j es n1 e1 e3
   ·rw [getElem?_set_ne n2] at e2 e4
    exact r.inj j k q es es' hjk e1 e2 e3 e4
 ob := fun j q es e => by
  obtain ⟨n, e⟩ := m7 e
  rw [getElem?_set_ne n]; exact r.ob j q es e
 obn := fun j k q es es' e1 e2 e3 => by
  obtain ⟨n, e1⟩ := m7 e1
  by_cases n2 : i = k
  ·subst n2
   have hl : i < σ.length := by
    rcases Nat.lt_or_ge i σ.length with z | z
    ·exact z
    ·rw [getElem?_eq_none (by simpa using z)] at e3; cases e3
   rw [getElem?_set_self hl] at e3
   cases e3
   exact fo j p es e1 rfl
  ·rw [getElem?_set_ne n2] at e2 e3
   exact r.obn j k q es es' e1 e2 e3
 ob1 := fun j k p q ds es e1 e2 => r.ob1 j k p q ds es (m7 e1).2 (m7 e2).2
 rd := fun j q ds e => by
  obtain ⟨n, e⟩ := S0 e
  rw [getElem?_set_ne n]; exact r.rd j q ds e
theorem Rl.freeze (r : Rl K F0 H0 F H σ ρ) {i : Nat} {ds : List D} (h : ρ[i]? = some (some (.own ds))) : ∃ F', Rl K F0 H0 F' H σ (ρ.set i (some (.sh (.lst ds)))) /\ Same F F' := by
 obtain ⟨p, xs, a, b, c, d, z⟩ := r.own i ds h
 have hl : i < ρ.length := (List.getElem?_eq_some_iff.mp h).1
 have e : Ext F0 H0 (upd F p (.lst xs)) H := r.ext.freeze b z c
 have ff : Same F (upd F p (.lst xs)) := (Same.refl F).put b
 refine ⟨upd F p (.lst xs), ⟨e, by simp [r.len], fun j d' q => ?_, fun j es q => ?_, fun j k q es es' hjk e1 e2 e3 e4 => ?_, fun j q es e1 => ?_, fun j k q es es' e1 e2 e3 => ?_, fun j k q q' es es' e1 e2 => r.ob1 j k q q' es es' (m7 e1).2 (m7 e2).2, fun j q es e1 => r.rd j q es (S0 e1).2⟩, ff⟩
 ·by_cases hj : i = j
  ·subst hj
   rw [getElem?_set_self hl] at q
   cases q
   exact ⟨_, a, .lst (SqL.of y3) (d.mono ff)⟩
  ·rw [getElem?_set_ne hj] at q
   obtain ⟨v, v1, v2⟩ := r.sh j d' q
   exact ⟨v, v1, v2.mono ff⟩
 ·by_cases hj : i = j
  ·subst hj
   rw [getElem?_set_self hl] at q
   cases q
  ·rw [getElem?_set_ne hj] at q
   obtain ⟨p', xs', a', b', c', d', z'⟩ := r.own j es q
   have hp : p' ≠ p := fun w => r.inj i j p ds es hj h q a (by rw [<- w]; exact a')
   exact ⟨p', xs', a', by rw [y0 hp]; exact b', c', d'.mono ff, z'⟩
 ·have n1 : i ≠ j := fun w => by subst w; rw [getElem?_set_self hl] at e1; cases e1
  have n2 : i ≠ k := fun w => by subst w; rw [getElem?_set_self hl] at e2; cases e2
  rw [getElem?_set_ne n1] at e1
  rw [getElem?_set_ne n2] at e2
  exact r.inj j k q es es' hjk e1 e2 e3 e4
 ·obtain ⟨n, e1⟩ := m7 e1
  obtain ⟨o1, o2, o3, zs, o4, o5⟩ := r.ob j q es e1
  have hp : q ≠ p := fun w => r.obn j i q es ds e1 h (by rw [w]; exact a)
  exact ⟨o1, by rw [y0 hp]; exact o2, o3, zs, o4, o5.mono ff⟩
 ·obtain ⟨n, e1⟩ := m7 e1
  have n2 : i ≠ k := fun w => by subst w; rw [getElem?_set_self hl] at e2; cases e2
  rw [getElem?_set_ne n2] at e2
  exact r.obn j k q es es' e1 e2 e3
theorem Rl.write (r : Rl K F0 H0 F H σ ρ) {i : Nat} {p : Addr} {ys : List V} {ds es : List D} (h : ρ[i]? = some (some (.own ds))) (hp : σ[i]? = some (some (.ref p))) (hy : Reps K F ys es) :
  Rl K F0 H0 F (upd H p (.lst ys)) σ (ρ.set i (some (.own es))) := by
 obtain ⟨p', xs', a, b, c, d, z⟩ := r.own i ds h
 rw [hp] at a; cases a
 have hl : i < ρ.length := (List.getElem?_eq_some_iff.mp h).1
 refine ⟨⟨r.ext.ff, r.ext.hh.put z, r.ext.fh.put b, r.ext.new, r.ext.nf⟩, by simp [r.len], fun j d' q => ?_, fun j fs q => ?_, fun j k q fs fs' hjk e1 e2 e3 e4 => ?_, fun j q fs e1 => ?_, fun j k q fs fs' e1 e2 e3 => ?_, fun j k q q' es es' e1 e2 => r.ob1 j k q q' es es' (m7 e1).2 (m7 e2).2, fun j q es e1 => r.rd j q es (S0 e1).2⟩
 ·by_cases hj : i = j
  ·subst hj
   rw [getElem?_set_self hl] at q
   cases q
  ·rw [getElem?_set_ne hj] at q
   exact r.sh j d' q
 ·by_cases hj : i = j
  ·subst hj
   rw [getElem?_set_self hl] at q
   cases q
   exact ⟨p, ys, hp, b, y3, hy, z⟩
  ·rw [getElem?_set_ne hj] at q
   obtain ⟨p2, xs2, a2, b2, c2, d2, z2⟩ := r.own j fs q
   have hpp : p2 ≠ p := fun w => r.inj i j p ds fs hj h q hp (by rw [<- w]; exact a2)
   exact ⟨p2, xs2, a2, b2, by rw [y0 hpp]; exact c2, d2, z2⟩
 ·have back : ∀ (m : Nat) gs, (ρ.set i (some (S.own es)))[m]? = some (some (.own gs)) -> ∃ gs', ρ[m]? = some (some (.own gs')) := fun m gs e => by
   by_cases hm : i = m
   ·subst hm; exact ⟨ds, h⟩
   ·rw [getElem?_set_ne hm] at e; exact ⟨gs, e⟩
  obtain ⟨g1, e1⟩ := back j fs e1
  obtain ⟨g2, e2⟩ := back k fs' e2
  exact r.inj j k q g1 g2 hjk e1 e2 e3 e4
 ·obtain ⟨n, e1⟩ := m7 e1
  obtain ⟨o1, o2, o3, zs, o4, o5⟩ := r.ob j q fs e1
  have hpp : q ≠ p := fun w => r.obn j i q fs ds e1 h (by rw [w]; exact hp)
  exact ⟨o1, o2, o3, zs, by rw [y0 hpp]; exact o4, o5⟩
 ·obtain ⟨n, e1⟩ := m7 e1
  by_cases n2 : i = k
  ·subst n2; exact r.obn j i q fs ds e1 h e3
  ·rw [getElem?_set_ne n2] at e2
   exact r.obn j k q fs fs' e1 e2 e3
theorem Rl.writeB (r : Rl K F0 H0 F H σ ρ) {i : Nat} {p : Addr} {ys : List V} {ds es : List D} (h : ρ[i]? = some (some (.ob p ds))) (hy : Reps K F ys es) :
  Rl K F0 H0 F (upd H p (.lst ys)) σ (ρ.set i (some (.ob p es))) := by
 obtain ⟨a, b, z, xs', c, d⟩ := r.ob i p ds h
 have hl : i < ρ.length := (List.getElem?_eq_some_iff.mp h).1
 have back : ∀ (j : Nat) q fs, (ρ.set i (some (S.ob p es)))[j]? = some (some (.ob q fs)) -> j = i /\ q = p /\ fs = es := fun j q fs e => by
  by_cases hj : i = j
  ·subst hj; rw [getElem?_set_self hl] at e; cases e; exact ⟨rfl, rfl, rfl⟩
  ·rw [getElem?_set_ne hj] at e; exact absurd (r.ob1 i j p q ds fs h e) hj
 have other : ∀ (j : Nat) fs, (ρ.set i (some (S.ob p es)))[j]? = some (some (.own fs)) -> i ≠ j /\ ρ[j]? = some (some (.own fs)) := fun j fs e => by
  by_cases hj : i = j
  ·subst hj; rw [getElem?_set_self hl] at e; cases e
  ·rw [getElem?_set_ne hj] at e; exact ⟨hj, e⟩
 refine ⟨⟨r.ext.ff, r.ext.hh.put z, r.ext.fh.put b, r.ext.new, r.ext.nf⟩, by simp [r.len], fun j d' q => ?_, fun j fs q => ?_, fun j k q fs fs' hjk e1 e2 e3 e4 => r.inj j k q fs fs' hjk (other j fs e1).2 (other k fs' e2).2 e3 e4, fun j q fs e1 => ?_, fun j k q fs fs' e1 e2 e3 => ?_, fun j k q q' fs fs' e1 e2 => ?_, fun j q es e1 => r.rd j q es (S0 e1).2⟩
 ·by_cases hj : i = j
  ·subst hj; rw [getElem?_set_self hl] at q; cases q
  ·rw [getElem?_set_ne hj] at q; exact r.sh j d' q
 ·obtain ⟨n, e⟩ := other j fs q
  obtain ⟨p2, xs2, a2, b2, c2, d2, z2⟩ := r.own j fs e
  have hpp : p2 ≠ p := fun w => r.obn i j p ds fs h e (by rw [<- w]; exact a2)
  exact ⟨p2, xs2, a2, b2, by rw [y0 hpp]; exact c2, d2, z2⟩
 ·obtain ⟨e2, e3, e4⟩ := back j q fs e1
  subst e2 e3 e4
  exact ⟨a, b, z, ys, y3, hy⟩
 ·obtain ⟨e4, e5, _⟩ := back j q fs e1
  subst e4 e5
  exact r.obn j k q ds fs' h (other k fs' e2).2 e3
 ·rw [(back j q fs e1).1, (back k q' fs' e2).1]
end
theorem Rep.n' {K : W.Frag} {F : Hp} {x : V} (r : Rep K F x .non) : x = .non := by cases r; rfl
theorem Rep.b' {K : W.Frag} {F : Hp} {x : V} {i : Bool} (r : Rep K F x (.bl i)) : x = .bl i := by cases r; rfl
theorem Rep.i' {K : W.Frag} {F : Hp} {x : V} {i : Int} (r : Rep K F x (.int i)) : x = .int i := by cases r; rfl
theorem Rep.s' {K : W.Frag} {F : Hp} {x : V} {i : Str} (r : Rep K F x (.str i)) : x = .str i := by cases r; rfl
theorem Rl.rdF {K : W.Frag} {F0 H0 F H : Hp} {σ : St} {ρ : Ro} (r : Rl K F0 H0 F H σ ρ) {i : Nat} {q : Addr} {ds : List D} (h : ρ[i]? = some (some (.rd q ds))) : σ[i]? = some (some (.ref q)) /\ F q = none /\ ∃ ns : List Int, ds = ns.map D.int /\ Rd H q (.lst (ns.map V.int)) /\ H0 q ≠ none := by
 obtain ⟨a, b, ns, e, z⟩ := r.rd i q ds h
 have n0 : H0 q ≠ none := by rcases z with z | ⟨o, z⟩ <;> rw [z] <;> simp
 refine ⟨a, ?_, ns, e, ?_, n0⟩
 ·cases hF : F q with
  | none => rfl
  | some u => exact absurd (r.ext.new q b (by rw [hF]; simp)) n0
 ·rcases z with z | ⟨o, z⟩
  ·exact .inl (r.ext.hh _ _ z)
  ·exact .inr ⟨o, r.ext.hh _ _ z⟩
theorem C0 {K : W.Frag} {F : Hp} : ∀ ns : List Int, Reps K F (ns.map V.int) (ns.map D.int)
 | [] => .nil
 | n :: ns => .cons (.int n) (C0 ns)
theorem Rep.l' {K : W.Frag} {F : Hp} {x : V} {ds : List D} (r : Rep K F x (.lst ds)) : ∃ a xs, x = .ref a /\ SqL K F a xs /\ Reps K F xs ds := by cases r with | lst s r => exact ⟨_, _, rfl, s, r⟩
theorem Rep.t' {K : W.Frag} {F : Hp} {x : V} {ds : List D} (r : Rep K F x (.tup ds)) : ∃ a xs, x = .ref a /\ SqT K F a xs /\ Reps K F xs ds := by cases r with | tup s r => exact ⟨_, _, rfl, s, r⟩
end
section
abbrev ME := Ro -> Option D
abbrev ML := Ro -> Option (List D)
abbrev MB := Ro -> Option Bool
def TD (K : W.Frag) (m : ME) : TE := fun σ H Q => ∃ F0 H0 F ρ d, Rl K F0 H0 F H σ ρ /\ m ρ = some d /\ ∀ v F' H', Ext F H F' H' -> Rep K F' v d -> Q v H'
def TF (K : W.Frag) (m : ML) : TE := fun σ H Q => ∃ F0 H0 F ρ ds, Rl K F0 H0 F H σ ρ /\ m ρ = some ds /\ ∀ p xs F' H', Ext F H F' H' -> H p = none -> F' p = none -> H' p = some (.lst xs) -> Reps K F' xs ds -> Q (.ref p) H'
def TB (K : W.Frag) (m : ML) : TE := fun σ H Q => ∃ F0 H0 F ρ ds, Rl K F0 H0 F H σ ρ /\ m ρ = some ds /\ ∀ p xs F' H', Ext F H F' H' -> SqL K H' p xs -> Reps K F' xs ds -> Q (.ref p) H'
def TC (K : W.Frag) (c : MB) : TT := fun σ H Q => ∃ F0 H0 F ρ b, Rl K F0 H0 F H σ ρ /\ c ρ = some b /\ ∀ F' H', Ext F H F' H' -> Q b H'
def TAs (K : W.Frag) (m : ML) : TA := fun σ H Q => ∃ F0 H0 F ρ ds, Rl K F0 H0 F H σ ρ /\ m ρ = some ds /\ ∀ vs F' H', Ext F H F' H' -> Reps K F' vs ds -> Q vs H'
def PD (X : Cx) (e : Expr) (m : ME) : Prop := PE X e (TD X.K m)
def PF (X : Cx) (e : Expr) (m : ML) : Prop := PE X e (TF X.K m)
def PB (X : Cx) (e : Expr) (m : ML) : Prop := PE X e (TB X.K m)
def PC' (X : Cx) (e : Expr) (c : MB) : Prop := PT X e (TC X.K c)
def PCw (X : Cx) (e : Expr) (c : MB) : Prop := PW X e (TC X.K c)
def PAs (X : Cx) (es : List Expr) (m : ML) : Prop := PA X es (TAs X.K m)
section
variable {X : Cx} {a b c e : Expr} {ma mb : ME} {pos : Pos}
theorem PE.imp {t t' : TE} (h : PE X e t) (i : ∀ σ H Q, t' σ H Q -> t σ H Q) : PE X e t' := fun pins s σ H Q I q => h pins s σ H Q I (i σ H Q q)
theorem PT.imp {t t' : TT} (h : PT X e t) (i : ∀ σ H Q, t' σ H Q -> t σ H Q) : PT X e t' := fun pins s σ H Q I q => h pins s σ H Q I (i σ H Q q)
theorem PW.imp {t t' : TT} (h : PW X e t) (i : ∀ σ H Q, t' σ H Q -> t σ H Q) : PW X e t' := fun w pins s σ H Q I q => h w pins s σ H Q I (i σ H Q q)
theorem PA.imp {es : List Expr} {t t' : TA} (h : PA X es t) (i : ∀ σ H Q, t' σ H Q -> t σ H Q) : PA X es t' := fun pos pins s σ H Q I q => h pos pins s σ H Q I (i σ H Q q)
def mvar (i : Nat) : ME := fun ρ => match ρ[i]? with | some (some (.sh d)) => some d | _ => none
def bvar (i : Nat) : ML := fun ρ => match ρ[i]? with | some (some (.sh (.lst ds))) => some ds | some (some (.own ds)) => some ds | some (some (.ob _ ds)) => some ds | some (some (.rd _ ds)) => some ds | _ => none
def mc (d : D) : ME := fun _ => some d
theorem z3 (i : Nat) {x : Str} {pos : Pos} (h : PE X (.Name x pos) (tVar i)) : PD X (.Name x pos) (mvar i) := h.imp fun σ H Q hpat => by
 obtain ⟨F0, H0, F, ρ, d, r, e, q⟩ := hpat
 unfold mvar at e
 split at e
 ·rename_i h'
  cases e
  obtain ⟨v, e1, e2⟩ := r.sh i _ h'
  exact ⟨v, e1, q v F H (.refl r.fh) e2⟩
 ·cases e
theorem y8 (i : Nat) {x : Str} {pos : Pos} (h : PE X (.Name x pos) (tVar i)) : PB X (.Name x pos) (bvar i) := h.imp fun σ H Q hpat => by
 obtain ⟨F0, H0, F, ρ, d, r, e, q⟩ := hpat
 unfold bvar at e
 split at e
 ·rename_i ds h'
  cases e
  obtain ⟨v, e1, e2⟩ := r.sh i _ h'
  cases e2 with
  | lst s rs => exact ⟨_, e1, q _ _ F H (.refl r.fh) (r.fh.seq s) rs⟩
 ·rename_i ds h'
  cases e
  obtain ⟨p, xs, e1, e2, e3, e4, _⟩ := r.own i _ h'
  exact ⟨_, e1, q _ _ F H (.refl r.fh) (SqL.of e3) e4⟩
 ·rename_i p ds h'
  cases e
  obtain ⟨e1, e2, _, xs, e3, e4⟩ := r.ob i p _ h'
  exact ⟨_, e1, q _ _ F H (.refl r.fh) (SqL.of e3) e4⟩
 ·rename_i p ds h'
  cases e
  obtain ⟨e1, e2, ns, rfl, e3, _⟩ := r.rdF h'
  exact ⟨_, e1, q _ _ F H (.refl r.fh) (.inl e3) (C0 ns)⟩
 ·cases e
theorem z8 {i : Int} {j pos} : PD X (.Constant (.int i) j pos) (mc (.int i)) := pe_int.imp fun σ H Q hpat => by
 obtain ⟨F0, H0, F, ρ, d, r, e, q⟩ := hpat
 cases e; exact q _ F H (.refl r.fh) (.int i)
theorem zx5 {b : Bool} {j pos} : PD X (.Constant (.bool b) j pos) (mc (.bl b)) := pe_bl.imp fun σ H Q hpat => by
 obtain ⟨F0, H0, F, ρ, d, r, e, q⟩ := hpat
 cases e; exact q _ F H (.refl r.fh) (.bl b)
def mlst (m : ML) : ME := fun ρ => (m ρ).map .lst
def k0 (m : ME) : ML := fun ρ => match m ρ with | some (.lst ds) => some ds | _ => none
theorem i6 {m : ML} (h : PF X e m) : PD X e (mlst m) := h.imp fun σ H Q hpat => by
 obtain ⟨F0, H0, F, ρ, d, r, e, q⟩ := hpat
 unfold mlst at e
 cases hm : m ρ with
 | none => rw [hm] at e; cases e
 | some ds =>
  rw [hm] at e; cases e
  refine ⟨F0, H0, F, ρ, ds, r, hm, fun p xs F' H' x hp hF hH rs => ?_⟩
  exact q _ (upd F' p (.lst xs)) H' (x.freeze hF hp hH) (.lst (SqL.of y3) (rs.mono ((Same.refl F').put hF)))
theorem l5 {m : ML} (h : PF X e m) : PB X e m := h.imp fun σ H Q ⟨F0, H0, F, ρ, d, r, e, q⟩ =>
 ⟨F0, H0, F, ρ, d, r, e, fun p xs F' H' x hp hF hH rs => q p xs F' H' x (SqL.of hH) rs⟩
@[irreducible] def m2 (f : D -> D -> Option D) (x y : ME) : ME := fun ρ => (x ρ).bind fun d => (y ρ).bind fun e => f d e
def OpD (K : W.Frag) (r : R2) (f : D -> D -> Option D) : Prop := ∀ (F H : Hp) (x y : V) (d e g : D) (Q : VK), Same F H -> Rep K F x d -> Rep K F y e -> f d e = some g -> (∀ v F' H', Ext F H F' H' -> Rep K F' v g -> Q v H') -> r x y H Q
theorem m2_some {f : D -> D -> Option D} {ρ : Ro} {g : D} (h : m2 f ma mb ρ = some g) : ∃ d e, ma ρ = some d /\ mb ρ = some e /\ f d e = some g := by
 unfold m2 at h
 cases h1 : ma ρ with
 | none => rw [h1] at h; cases h
 | some d =>
  cases h2 : mb ρ with
  | none => rw [h1, h2] at h; cases h
  | some e => rw [h1, h2] at h; exact ⟨d, e, rfl, rfl, h⟩
theorem op_d {r : R2} {f : D -> D -> Option D} (hf : OpD X.K r f) {σ : St} {H : Hp} {Q : VK} (h : TD X.K (m2 f ma mb) σ H Q) : tOp r (TD X.K ma) (TD X.K mb) σ H Q := by
 obtain ⟨F0, H0, F, ρ, g, rl, e, q⟩ := h
 obtain ⟨d, e', h1, h2, h3⟩ := m2_some e
 refine ⟨F0, H0, F, ρ, d, rl, h1, fun x F1 H1 x1 r1 => ⟨F0, H0, F1, ρ, e', rl.go x1, h2, fun y F2 H2 x2 r2 => ?_⟩⟩
 exact hf F2 H2 x y d e' g Q x2.fh (r1.mono x2.ff) r2 h3 fun v F' H' x3 => q v F' H' ((x1.trans x2).trans x3)
theorem C6 {op : Operator} {r : R2} {f : D -> D -> Option D} (ho : OpR X (binaryOp op) r) (hf : OpD X.K r f) (ha : PD X a ma) (hb : PD X b mb) : PD X (.BinOp a op b pos) (m2 f ma mb) := (pe_op ho ha hb).imp fun _ _ _ h => op_d hf h
theorem P6 {op : CmpOp} {r : R2} {f : D -> D -> Option D} (ho : OpR X (compareOp op) r) (hf : OpD X.K r f) (ha : PD X a ma) (hb : PD X b mb) (hm : behindInMarks op b = false) : PD X (.Compare a [op] [b] pos) (m2 f ma mb) := (pe_cmpR ho ha hb hm).imp fun _ _ _ h => op_d hf h
def u6 (m : ME) : MB := fun ρ => match m ρ with | some (.bl b) => some b | _ => none
theorem k4 {op : CmpOp} {r : R2} {f : D -> D -> Option D} (ho : OpR X (compareOp op) r) (hf : OpD X.K r f) (ha : PD X a ma) (hb : PD X b mb) (hm : behindInMarks op b = false) : PC' X (.Compare a [op] [b] pos) (u6 (m2 f ma mb)) := (pt_cmpR ho ha hb hm).imp fun σ H Q hpat => by
 obtain ⟨F0, H0, F, ρ, g, rl, e, q⟩ := hpat
 unfold u6 at e
 split at e
 ·rename_i k hk
  cases e
  refine op_d hf ⟨F0, H0, F, ρ, .bl g, rl, hk, fun v F' H' x r => ?_⟩
  cases r
  exact ⟨_, rfl, q F' H' x⟩
 ·cases e
def int2 (g : Int -> Int -> Option D) : D -> D -> Option D
 | .int i, .int j => g i j
 | _, _ => none
theorem int2_inv {g : Int -> Int -> Option D} {d e w : D} (h : int2 g d e = some w) : ∃ i j, d = .int i /\ e = .int j /\ g i j = some w := by
 cases d with
 | int i =>
  cases e with
  | int j => exact ⟨i, j, rfl, rfl, h⟩
  | _ => cases h
 | _ => cases h
theorem Q2 {K : W.Frag} {g : Int -> Int -> V} {g' : Int -> Int -> D} (hg : ∀ F i j, Rep K F (g i j) (g' i j)) : OpD K (rI0 g) (int2 fun i j => some (g' i j)) := by
 intro F H x y d e w Q s r1 r2 h q
 obtain ⟨i, j, rfl, rfl, h'⟩ := int2_inv h
 clear h
 cases h'
 exact ⟨i, j, r1.i', r2.i', q _ F H (.refl s) (hg F i j)⟩
theorem E4 {K : W.Frag} {C : Int -> Int -> Prop} {ok : Int -> Int -> Bool} {g : Int -> Int -> V} {g' : Int -> Int -> D} (hC : ∀ i j, ok i j = true -> C i j) (hg : ∀ F i j, Rep K F (g i j) (g' i j)) :
  OpD K (rI C g) (int2 fun i j => if ok i j = true then some (g' i j) else none) := by
 intro F H x y d e w Q s r1 r2 h q
 obtain ⟨i, j, rfl, rfl, h'⟩ := int2_inv h
 clear h
 by_cases hk : ok i j = true
 ·rw [if_pos hk] at h'
  cases h'
  exact ⟨i, j, r1.i', r2.i', hC i j hk, q _ F H (.refl s) (hg F i j)⟩
 ·rw [if_neg hk] at h'
  cases h'
def subD : D -> D -> Option D := int2 fun i j => some (.int (i - j))
def S3 (i j : Int) : Bool := (decide (-(2 ^ 64) < i) && decide (i < 2 ^ 64)) || (decide (-(2 ^ 64) < j) && decide (j < 2 ^ 64))
def mulD : D -> D -> Option D := int2 fun i j => if S3 i j = true then some (.int (i * j)) else none
def O2 (_ j : Int) : Bool := decide (0 < j) && decide (j < 1073741824)
def S9 : D -> D -> Option D := int2 fun i j => if O2 i j = true then some (.int (i / j)) else none
def J9 (_ j : Int) : Bool := decide (0 < j)
def modD : D -> D -> Option D := int2 fun i j => if J9 i j = true then some (.int (i % j)) else none
def J7 (i j : Int) : Bool := decide (0 <= j) && decide (j <= 1000000) && decide (i.natAbs < 2 ^ 64)
def powD : D -> D -> Option D := int2 fun i j => if J7 i j = true then some (.int (i ^ j.toNat)) else none
def shlD : D -> D -> Option D := int2 fun i j => if J7 i j = true then some (.int (i * 2 ^ j.toNat)) else none
def shrOk (_ j : Int) : Bool := decide (0 <= j)
def shrD : D -> D -> Option D := int2 fun i j => if shrOk i j = true then some (.int (i / 2 ^ j.toNat)) else none
def andD : D -> D -> Option D := int2 fun i j => some (.int (Builtin.bitAnd i j))
def ltD : D -> D -> Option D := int2 fun i j => some (.bl (decide (i < j)))
def leD : D -> D -> Option D := int2 fun i j => some (.bl (decide (i <= j)))
def gtD : D -> D -> Option D := int2 fun i j => some (.bl (decide (j < i)))
def geD : D -> D -> Option D := int2 fun i j => some (.bl (decide (j <= i)))
theorem opd_sub {K : W.Frag} : OpD K (rI0 fun i j => .int (i - j)) subD := Q2 fun F i j => .int _
theorem opd_mul {K : W.Frag} : OpD K (rI CMul fun i j => .int (i * j)) mulD := E4 (fun i j h => by
 unfold S3 at h
 simp only [Bool.or_eq_true, Bool.and_eq_true, decide_eq_true_eq] at h
 exact h) fun F i j => .int _
theorem opd_fdiv {K : W.Frag} : OpD K (rI CDiv fun i j => .int (i / j)) S9 := E4 (fun i j h => by
 unfold O2 at h
 simp only [Bool.and_eq_true, decide_eq_true_eq] at h
 exact h) fun F i j => .int _
theorem opd_mod {K : W.Frag} : OpD K (rI (fun _ j => 0 < j) fun i j => .int (i % j)) modD := E4 (fun i j h => of_decide_eq_true h) fun F i j => .int _
theorem opd_pow {K : W.Frag} : OpD K (rI CPow fun i j => .int (i ^ j.toNat)) powD := E4 (fun i j h => by
 unfold J7 at h
 simp only [Bool.and_eq_true, decide_eq_true_eq] at h
 exact ⟨h.1.1, h.1.2, h.2⟩) fun F i j => .int _
theorem opd_shl {K : W.Frag} : OpD K (rI CPow fun i j => .int (i * 2 ^ j.toNat)) shlD := E4 (fun i j h => by
 unfold J7 at h
 simp only [Bool.and_eq_true, decide_eq_true_eq] at h
 exact ⟨h.1.1, h.1.2, h.2⟩) fun F i j => .int _
theorem opd_shr {K : W.Frag} : OpD K (rI (fun _ j => 0 <= j) fun i j => .int (i / 2 ^ j.toNat)) shrD := E4 (fun i j h => of_decide_eq_true h) fun F i j => .int _
theorem opd_and {K : W.Frag} : OpD K (rI0 fun i j => .int (Builtin.bitAnd i j)) andD := Q2 fun F i j => .int _
theorem opd_lt {K : W.Frag} : OpD K (rI0 fun i j => .bl (decide (i < j))) ltD := Q2 fun F i j => .bl _
theorem opd_le {K : W.Frag} : OpD K (rI0 fun i j => .bl (decide (i <= j))) leD := Q2 fun F i j => .bl _
theorem opd_gt {K : W.Frag} : OpD K (rI0 fun i j => .bl (decide (j < i))) gtD := Q2 fun F i j => .bl _
theorem E5 {K : W.Frag} : OpD K (rI0 fun i j => .bl (decide (j <= i))) geD := Q2 fun F i j => .bl _
def eqS : D -> D -> Option Bool
 | .non, .non => some true | .non, .int _ => some false | .int _, .non => some false | .non, .bl _ => some false | .bl _, .non => some false | .non, .str _ => some false | .str _, .non => some false
 | .int i, .int j => some (i == j) | .bl i, .bl j => some (i == j) | .str i, .str j => some (i == j)
 | .int _, .str _ => some false | .str _, .int _ => some false | .bl _, .str _ => some false | .str _, .bl _ => some false
 | _, _ => none
def eqSD (d e : D) : Option D := (eqS d e).map .bl
def neSD (d e : D) : Option D := (eqS d e).map fun b => .bl (!b)
def scV : D -> V
 | .bl b => .bl b | .int i => .int i | .str x => .str x | _ => .non
theorem eqS_inv {d e : D} {k : Bool} (h : eqS d e = some k) : scal (scV d) (scV e) = true /\ decide (scV d = scV e) = k := by
 cases d with
 | non => cases e <;> cases h <;> exact ⟨rfl, rfl⟩
 | bl i =>
  cases e <;> cases h
  ·exact ⟨rfl, rfl⟩
  ·exact ⟨rfl, dec_bl⟩
  ·exact ⟨rfl, rfl⟩
 | int i =>
  cases e <;> cases h
  ·exact ⟨rfl, rfl⟩
  ·exact ⟨rfl, dec_int⟩
  ·exact ⟨rfl, rfl⟩
 | str i =>
  cases e <;> cases h
  ·exact ⟨rfl, rfl⟩
  ·exact ⟨rfl, rfl⟩
  ·exact ⟨rfl, rfl⟩
  ·exact ⟨rfl, dec_str⟩
 | _ => cases h
theorem eqS_l {d e : D} {k : Bool} (h : eqS d e = some k) {K : W.Frag} {F : Hp} {x : V} (r : Rep K F x d) : x = scV d := by
 cases d with
 | non => exact r.n'
 | bl i => exact r.b'
 | int i => exact r.i'
 | str i => exact r.s'
 | _ => cases h
theorem eqS_sym (d e : D) (k : Bool) (h : eqS d e = some k) : ∃ k', eqS e d = some k' := by
 cases d with
 | non => cases e <;> cases h <;> exact ⟨_, rfl⟩
 | bl i => cases e <;> cases h <;> exact ⟨_, rfl⟩
 | int i => cases e <;> cases h <;> exact ⟨_, rfl⟩
 | str i => cases e <;> cases h <;> exact ⟨_, rfl⟩
 | _ => cases h
theorem a0 {K : W.Frag} : OpD K rEq eqSD := by
 intro F H x y d e w Q s r1 r2 h q
 unfold eqSD at h
 cases hk : eqS d e with
 | none => rw [hk] at h; cases h
 | some k =>
  rw [hk] at h
  cases h
  obtain ⟨k', hk'⟩ := eqS_sym d e k hk
  obtain ⟨h1, h2⟩ := eqS_inv hk
  rw [eqS_l hk r1, eqS_l hk' r2]
  refine ⟨h1, ?_⟩
  rw [h2]
  exact q _ F H (.refl s) (.bl _)
theorem B0 {K : W.Frag} : OpD K rNe neSD := by
 intro F H x y d e w Q s r1 r2 h q
 unfold neSD at h
 cases hk : eqS d e with
 | none => rw [hk] at h; cases h
 | some k =>
  rw [hk] at h
  cases h
  obtain ⟨k', hk'⟩ := eqS_sym d e k hk
  obtain ⟨h1, h2⟩ := eqS_inv hk
  rw [eqS_l hk r1, eqS_l hk' r2]
  refine ⟨h1, ?_⟩
  rw [h2]
  exact q _ F H (.refl s) (.bl _)
def m1 (f : D -> Option D) (x : ME) : ME := fun ρ => (x ρ).bind f
def negD : D -> Option D
 | .int i => some (.int (-i))
 | _ => none
theorem m1_some {f : D -> Option D} {ρ : Ro} {g : D} (h : m1 f ma ρ = some g) : ∃ d, ma ρ = some d /\ f d = some g := by
 unfold m1 at h
 cases h1 : ma ρ with
 | none => rw [h1] at h; cases h
 | some d => rw [h1] at h; exact ⟨d, rfl, h⟩
theorem zx4 (ha : PD X a ma) : PD X (.UnaryOp .USub a pos) (m1 negD ma) := (pe_un un_neg ha).imp fun σ H Q hpat => by
 obtain ⟨F0, H0, F, ρ, g, rl, e, q⟩ := hpat
 obtain ⟨d, h1, h2⟩ := m1_some e
 refine ⟨F0, H0, F, ρ, d, rl, h1, fun x F1 H1 x1 r1 => ?_⟩
 cases r1 <;> first | (cases h2; done) | skip
 cases h2
 exact ⟨_, rfl, q _ F1 H1 x1 (.int _)⟩
def notD : D -> Option D
 | .bl b => some (.bl (!b))
 | _ => none
theorem pd_not (ha : PD X a ma) : PD X (.UnaryOp .Not a pos) (m1 notD ma) := (pe_not ha).imp fun σ H Q hpat => by
 obtain ⟨F0, H0, F, ρ, g, rl, e, q⟩ := hpat
 obtain ⟨d, h1, h2⟩ := m1_some e
 refine ⟨F0, H0, F, ρ, d, rl, h1, fun x F1 H1 x1 r1 => ?_⟩
 cases r1 <;> first | (cases h2; done) | skip
 cases h2
 exact ⟨_, rfl, q _ F1 H1 x1 (.bl _)⟩
def mand (x y : ME) : ME := fun ρ => match x ρ with | some (.bl true) => y ρ | some (.bl false) => some (.bl false) | _ => none
theorem pd_one {op} (h : PD X a ma) : PD X (.BoolOp op [a] pos) ma := pe_one h
theorem E3 {rest : List Expr} (ha : PD X a ma) (hb : PD X (.BoolOp .And (b :: rest) pos) mb) : PD X (.BoolOp .And (a :: b :: rest) pos) (mand ma mb) := (pe_and ha hb).imp fun σ H Q hpat => by
 obtain ⟨F0, H0, F, ρ, g, rl, e, q⟩ := hpat
 unfold mand at e
 split at e
 ·rename_i h1
  refine ⟨F0, H0, F, ρ, _, rl, h1, fun x F1 H1 x1 r1 => ?_⟩
  cases r1
  refine ⟨true, rfl, ?_⟩
  refine iteT ?_
  exact ⟨F0, H0, F1, ρ, g, rl.go x1, e, fun y F2 H2 x2 r2 => q y F2 H2 (x1.trans x2) r2⟩
 ·rename_i h1
  cases e
  refine ⟨F0, H0, F, ρ, _, rl, h1, fun x F1 H1 x1 r1 => ?_⟩
  cases r1
  refine ⟨false, rfl, ?_⟩
  refine iteF ?_
  exact q _ F1 H1 x1 (.bl _)
 ·cases e
def truD : D -> Option Bool
 | .non => some false
 | .bl b => some b
 | .int i => some (i != 0)
 | .str y => if y.length <= sizeLine then some ((y.length : Int) != 0) else none
 | .lst ds => some (!ds.isEmpty)
 | .tup ds => some (!ds.isEmpty)
 | .exc _ => none
 | .ptr _ => none
 | .obj _ _ _ => none
def mtru (m : ME) : MB := fun ρ => (m ρ).bind truD
theorem O1 {K : W.Frag} {F : Hp} {vs : List V} {ds : List D} (h : Reps K F vs ds) : (!ds.isEmpty) = !vs.isEmpty := by cases h <;> rfl
theorem c6 (ha : PD X a ma) (he : ∀ whole, isTrue a X.env whole = (do let v ← whole; standAt a.pos; holding [v] (truthy v)) := by intro _; rfl) : PC' X a (mtru ma) := (pt_truth ha he).imp fun σ H Q hpat => by
 obtain ⟨F0, H0, F, ρ, b, rl, e, q⟩ := hpat
 unfold mtru at e
 cases h1 : ma ρ with
 | none => rw [h1] at e; cases e
 | some d =>
  rw [h1] at e
  refine ⟨F0, H0, F, ρ, d, rl, h1, fun x F1 H1 x1 r1 => ⟨b, ?_, q F1 H1 x1⟩⟩
  cases r1 with
  | non => cases e; rfl
  | bl => cases e; rfl
  | int => cases e; rfl
  | str x =>
   have e : (if x.length <= sizeLine then some ((x.length : Int) != 0) else none) = some b := e
   split at e
   ·rename_i hz
    cases e
    exact ⟨hz, rfl⟩
   ·cases e
  | lst s rs => cases e; exact .inl ⟨_, x1.fh.seq s, O1 rs⟩
  | tup s rs => cases e; exact .inr (.inl ⟨_, x1.fh.seqT s, O1 rs⟩)
  | exc => cases e
  | ptr => cases e
  | obj => cases e
variable {ca cb : MB}
def cor (x y : MB) : MB := fun ρ => match x ρ with | some true => some true | some false => y ρ | none => none
def cnot (x : MB) : MB := fun ρ => (x ρ).map (!·)
theorem pc_w (h : PCw X a ca) : PC' X a ca := h.pt
theorem E2 (h : PC' X a ca) : PCw X (.BoolOp .Or [a] pos) ca := pw_or1 h
theorem L6 {rest : List Expr} (ha : PC' X a ca) (hb : PCw X (.BoolOp .Or (b :: rest) pos) cb) : PCw X (.BoolOp .Or (a :: b :: rest) pos) (cor ca cb) := (pw_or ha hb).imp fun σ H Q hpat => by
 obtain ⟨F0, H0, F, ρ, g, rl, e, q⟩ := hpat
 unfold cor at e
 split at e
 ·rename_i h1
  cases e
  refine ⟨F0, H0, F, ρ, _, rl, h1, fun F1 H1 x1 => ?_⟩
  refine iteT ?_
  exact q F1 H1 x1
 ·rename_i h1
  refine ⟨F0, H0, F, ρ, _, rl, h1, fun F1 H1 x1 => ?_⟩
  refine iteF ?_
  exact ⟨F0, H0, F1, ρ, g, rl.go x1, e, fun F2 H2 x2 => q F2 H2 (x1.trans x2)⟩
 ·cases e
theorem zx6 (ha : PC' X a ca) : PC' X (.UnaryOp .Not a pos) (cnot ca) := (pt_not ha).imp fun σ H Q hpat => by
 obtain ⟨F0, H0, F, ρ, g, rl, e, q⟩ := hpat
 unfold cnot at e
 cases h1 : ca ρ with
 | none => rw [h1] at e; cases e
 | some k =>
  rw [h1] at e; cases e
  exact ⟨F0, H0, F, ρ, k, rl, h1, fun F1 H1 x1 => q F1 H1 x1⟩
def mite (c : MB) (x y : ME) : ME := fun ρ => match c ρ with | some true => x ρ | some false => y ρ | none => none
theorem pd_ite (hc : PC' X c ca) (ha : PD X a ma) (hb : PD X b mb) : PD X (.IfExp c a b pos) (mite ca ma mb) := (pe_ifExp hc ha hb).imp fun σ H Q hpat => by
 obtain ⟨F0, H0, F, ρ, g, rl, e, q⟩ := hpat
 unfold mite at e
 split at e
 ·rename_i h1
  refine ⟨F0, H0, F, ρ, _, rl, h1, fun F1 H1 x1 => ?_⟩
  refine iteT ?_
  exact ⟨F0, H0, F1, ρ, g, rl.go x1, e, fun v F2 H2 x2 => q v F2 H2 (x1.trans x2)⟩
 ·rename_i h1
  refine ⟨F0, H0, F, ρ, _, rl, h1, fun F1 H1 x1 => ?_⟩
  refine iteF ?_
  exact ⟨F0, H0, F1, ρ, g, rl.go x1, e, fun v F2 H2 x2 => q v F2 H2 (x1.trans x2)⟩
 ·cases e
def anil : ML := fun _ => some []
@[irreducible] def z5 (x : ME) (r : ML) : ML := fun ρ => (x ρ).bind fun d => (r ρ).bind fun ds => some (d :: ds)
theorem D1 {r : ML} {ρ : Ro} {gs : List D} (h : z5 ma r ρ = some gs) : ∃ d ds, ma ρ = some d /\ r ρ = some ds /\ gs = d :: ds := by
 unfold z5 at h
 cases h1 : ma ρ with
 | none => rw [h1] at h; cases h
 | some d =>
  cases h2 : r ρ with
  | none => rw [h1, h2] at h; cases h
  | some ds => rw [h1, h2] at h; cases h; exact ⟨d, ds, rfl, rfl, rfl⟩
theorem z6 : PAs X [] anil := pa_nil.imp fun σ H Q hpat => by
 obtain ⟨F0, H0, F, ρ, g, rl, e, q⟩ := hpat
 cases e; exact q [] F H (.refl rl.fh) .nil
theorem z0 {es : List Expr} {m : ML} (ha : PD X a ma) (hr : PAs X es m) (hs : starEach (a :: es) X.env = (false, eval a X.env) :: starEach es X.env := by rfl) : PAs X (a :: es) (z5 ma m) := (u8 ha hr hs).imp fun σ H Q hpat => by
 obtain ⟨F0, H0, F, ρ, g, rl, e, q⟩ := hpat
 obtain ⟨d, ds, h1, h2, rfl⟩ := D1 e
 refine ⟨F0, H0, F, ρ, d, rl, h1, fun x F1 H1 x1 r1 => ⟨F0, H0, F1, ρ, ds, rl.go x1, h2, fun xs F2 H2 x2 r2 => ?_⟩⟩
 exact q _ F2 H2 (x1.trans x2) (.cons (r1.mono x2.ff) r2)
@[irreducible] def w6 (m : ML) : ML := fun ρ => match m ρ with | some ds => if ds.length <= sizeLine then some ds else none | none => none
theorem G8 {m : ML} {ρ : Ro} {gs : List D} (h : w6 m ρ = some gs) : m ρ = some gs /\ gs.length <= sizeLine := by
 unfold w6 at h
 cases h1 : m ρ with
 | none => rw [h1] at h; cases h
 | some ds =>
  rw [h1] at h
  have h : (if ds.length <= sizeLine then some ds else none) = some gs := h
  split at h
  ·rename_i hz; cases h; exact ⟨rfl, hz⟩
  ·cases h
theorem v6 {es : List Expr} {m : ML} (h : PAs X es m) : PF X (.List es pos) (w6 m) := (pe_lst h).imp fun σ H Q hpat => by
 obtain ⟨F0, H0, F, ρ, g, rl, e, q⟩ := hpat
 obtain ⟨h1, h2⟩ := G8 e
 refine ⟨F0, H0, F, ρ, g, rl, h1, fun vs F1 H1 x1 r1 => ⟨by rw [r1.length]; exact h2, fun p hp => ?_⟩⟩
 exact q p vs F1 _ (x1.trans (Ext.own x1.fh hp)) (x1.hh.free hp) (x1.fh.free hp) y3 r1
def mtup (m : ML) : ME := fun ρ => (w6 m ρ).map .tup
theorem zx2 {es : List Expr} {m : ML} {k : Nat} (h : PAs X es m) : PD X (.Tuple es k pos) (mtup m) := (pe_tup h).imp fun σ H Q hpat => by
 obtain ⟨F0, H0, F, ρ, g, rl, e, q⟩ := hpat
 unfold mtup at e
 cases h1 : w6 m ρ with
 | none => rw [h1] at e; cases e
 | some ds =>
  rw [h1] at e; cases e
  obtain ⟨h1, h2⟩ := G8 h1
  refine ⟨F0, H0, F, ρ, ds, rl, h1, fun vs F1 H1 x1 r1 => ⟨by rw [r1.length]; exact h2, fun p hp => ?_⟩⟩
  exact q _ _ _ (x1.trans (Ext.laid x1.fh hp)) (.tup (SqT.of y3) (r1.mono ((Same.refl F1).put (x1.fh.free hp))))
def mlen (m : ML) : ME := fun ρ => (m ρ).map fun ds => .int ds.length
@[irreducible] def mix (m : ML) (i : ME) : ME := fun ρ => (m ρ).bind fun ds => (i ρ).bind fun | .int k => atI ds k | _ => none
theorem atI_reps {K : W.Frag} {F : Hp} {vs : List V} {ds : List D} {k : Int} {d : D} (r : Reps K F vs ds) (h : atI ds k = some d) : ∃ v, atI vs k = some v /\ Rep K F v d := by
 unfold atI at h ⊢
 rw [r.length]
 cases q : ixN ds.length k with
 | none => rw [q] at h; cases h
 | some j =>
  rw [q] at h
  exact r.get h
theorem Z3 {ml : ML} (ha : PB X a ml) (hb : PD X b mb) (hs : PlainIx b := by exact fun _ _ => rfl) : PD X (.Subscript a b pos) (mix ml mb) := (pe_ix ix_list ha hb hs).imp fun σ H Q hpat => by
 obtain ⟨F0, H0, F, ρ, g, rl, e, q⟩ := hpat
 unfold mix at e
 cases h1 : ml ρ with
 | none => rw [h1] at e; cases e
 | some ds =>
  cases h2 : mb ρ with
  | none => rw [h1, h2] at e; cases e
  | some i =>
   rw [h1, h2] at e
   refine ⟨F0, H0, F, ρ, ds, rl, h1, fun p xs F1 H1 x1 s1 r1 => ⟨F0, H0, F1, ρ, i, rl.go x1, h2, fun y F2 H2 x2 r2 => ?_⟩⟩
   cases r2 <;> first | (cases e; done) | skip
   rename_i k
   obtain ⟨v, h3, h4⟩ := atI_reps (r1.mono x2.ff) (show atI ds k = some g from e)
   exact ⟨p, xs, k, v, rfl, rfl, x2.hh.seq s1, h3, q v F2 H2 (x1.trans x2) h4⟩
theorem cut_reps {K : W.Frag} {F : Hp} {vs : List V} {ds : List D} (r : Reps K F vs ds) (lo hi : Option Int) : Reps K F (cutV vs lo hi) ((ds.drop (HT.sIx ds.length 0 lo)).take (HT.sIx ds.length ds.length hi - HT.sIx ds.length 0 lo)) := by
 unfold cutV
 rw [r.length]
 exact (r.drop _).take _
def cutL (ds : List D) (lo hi : Option Int) : List D := (ds.drop (HT.sIx ds.length 0 lo)).take (HT.sIx ds.length ds.length hi - HT.sIx ds.length 0 lo)
abbrev MO := Ro -> Option (Option Int)
def c0 : MO := fun _ => some none
def e9 (m : ME) : MO := fun ρ => (m ρ).bind fun | .int i => some (some i) | _ => none
def TOs (K : W.Frag) (m : MO) : TO := fun σ H Q => ∃ F0 H0 F ρ i, Rl K F0 H0 F H σ ρ /\ m ρ = some i /\ ∀ F' H', Ext F H F' H' -> Q i H'
def POs (X : Cx) (e : Option Expr) (m : MO) : Prop := PO X e (TOs X.K m)
theorem PO.imp {e : Option Expr} {t t' : TO} (h : PO X e t) (i : ∀ σ H Q, t' σ H Q -> t σ H Q) : PO X e t' := fun pins s σ H Q I q => h pins s σ H Q I (i σ H Q q)
theorem c5 : POs X none c0 := PO.imp po_none fun σ H Q hpat => by obtain ⟨F0, H0, F, ρ, i, rl, e, q⟩ := hpat; cases e; exact q F H (.refl rl.fh)
theorem c4 (h : PD X a ma) : POs X (some a) (e9 ma) := PO.imp (po_some h) fun σ H Q hpat => by
 obtain ⟨F0, H0, F, ρ, i, rl, e, q⟩ := hpat
 unfold e9 at e
 cases h1 : ma ρ with
 | none => rw [h1] at e; cases e
 | some d =>
  rw [h1] at e
  refine ⟨F0, H0, F, ρ, d, rl, h1, fun v F1 H1 x1 r1 => ?_⟩
  cases r1 <;> first | (cases e; done) | skip
  cases e
  exact ⟨_, rfl, q F1 H1 x1⟩
@[irreducible] def mcut (m : ML) (lo hi : MO) : ML := fun ρ => (m ρ).bind fun ds => (lo ρ).bind fun l => (hi ρ).bind fun h => some (cutL ds l h)
theorem pf_cut {ml : ML} {lo hi : Option Expr} {l h : MO} (ha : PB X a ml) (hl : POs X lo l) (hh : POs X hi h) (hE : PE X e (tSl (rSlL X.K) (TB X.K ml) (TOs X.K l) (TOs X.K h))) : PF X e (mcut ml l h) := hE.imp fun σ H Q hpat => by
 obtain ⟨F0, H0, F, ρ, g, rl, e, q⟩ := hpat
 unfold mcut at e
 cases h1 : ml ρ with
 | none => rw [h1] at e; cases e
 | some ds =>
  cases h2 : l ρ with
  | none => rw [h1, h2] at e; cases e
  | some i =>
   cases h3 : h ρ with
   | none => rw [h1, h2, h3] at e; cases e
   | some j =>
    rw [h1, h2, h3] at e; cases e
    refine ⟨F0, H0, F, ρ, ds, rl, h1, fun p xs F1 H1 x1 s1 r1 => ⟨F0, H0, F1, ρ, i, rl.go x1, h2, fun F2 H2 x2 => ⟨F0, H0, F2, ρ, j, (rl.go x1).go x2, h3, fun F3 H3 x3 => ?_⟩⟩⟩
    refine ⟨p, xs, rfl, x3.hh.seq (x2.hh.seq s1), fun w hw => ?_⟩
    have xx := (x1.trans x2).trans x3
    exact q w _ F3 _ (xx.trans (Ext.own x3.fh hw)) (xx.hh.free hw) (x3.fh.free hw) y3 (cut_reps (r1.mono (x2.ff.trans x3.ff)) i j)
end
end
section
theorem zw4 (l : Addr) (items : Array Value) (n : Nat) (b : Addr) (items2 : Array Value) (n2 : Nat) (dd dd2 : Option Addr) (sl sl2 : Array (Option Value)) (hc0 : items.size + items2.size <= sizeLine) :
  Meets (Builtin.«list.__add__» ⟨[.ref l, .ref b], []⟩) (fun _ R s => s.heap.get? l = some { cls := .type "list", dict := dd, data := .seq items n, slots := sl } /\ s.heap.get? b = some { cls := .type "list", dict := dd2, data := .seq items2 n2, slots := sl2 } /\ R (.ok (.ret (Value.ref s.heap.objs.size))) { s with heap := s.heap.push { cls := Value.type "list", data := Data.seq (items ++ items2) }, toks := s.toks }) :=
 .of_wp fun prog w A R s h => by obtain ⟨hp, g, d, tk, os⟩ := s; obtain ⟨hl, hb, h⟩ := h; have f1 := AutoSeq1.idx_int; have f2 := AutoSeq1.sub_tuple_tuple; have f3 := AutoSeq1.sub_list_list; have f4 := AutoSeq1.sub_tuple_list; have f5 := AutoSeq1.sub_list_tuple; wp_walk using AutoSeq1.wpAny_loadPart' hl, AutoSeq1.wpAny_loadPart' hb; exact ⟨_, rfl, h⟩
section
variable {X : Cx} {a b c e : Expr} {ma mb : ME} {pos : Pos}
def rCatS (K : W.Frag) : R2 := fun x y H Q => ∃ l b xs zs, x = .ref l /\ y = .ref b /\ SqL K H l xs /\ SqL K H b zs /\ xs.length + zs.length <= sizeLine /\ ∀ p, H p = none -> Q (.ref p) (upd H p (.lst (xs ++ zs)))
theorem op_catS : OpR X (binaryOp .Add) (rCatS X.K) := by
 intro pins s σ H x y v u Q I rx ry h
 obtain ⟨l, b, xs, zs, rfl, rfl, hH, hB, hz, q⟩ := h
 cases rx
 cases ry
 obtain ⟨its, r, ⟨⟨cl, dd, dt, sl⟩, n, e, hc, hd, hs⟩, z⟩ := I.list hH
 obtain ⟨its2, r2, ⟨⟨cl2, dd2, dt2, sl2⟩, n2, e2, hc2, hd2, hs2⟩, z2⟩ := I.list hB
 simp only at hc hd hs hc2 hd2 hs2
 subst hc hd hs hc2 hd2 hs2
 have l1 := r.length
 have l2 := r2.length
 refine concat_meets (T := "list") ⟨_, e, rfl⟩ ⟨_, e2, rfl⟩ PySem.noFill_list_add PySem.seq_list_add F.slot_list_add F.entry_list_add (F.args_list_add_2 _ _) (zw4 l its.toArray n b its2.toArray n2 none none sl sl2 (by rw [size_toArray, size_toArray]; omega)) ⟨e, e2, ?_⟩
 have ea : its.toArray ++ its2.toArray = (its ++ its2).toArray := by simp
 rw [ea]
 exact ⟨.ref _, _, I.lnew (t' := s.toks) (r.append r2) (by rw [length_append]; omega), rfl, q _ I.fresh⟩
@[irreducible] def mcat (x y : ML) : ML := fun ρ => (x ρ).bind fun ds => (y ρ).bind fun es => if ds.length + es.length <= sizeLine then some (ds ++ es) else none
theorem mcat_some {x y : ML} {ρ : Ro} {gs : List D} (h : mcat x y ρ = some gs) : ∃ ds es, x ρ = some ds /\ y ρ = some es /\ ds.length + es.length <= sizeLine /\ gs = ds ++ es := by
 unfold mcat at h
 cases h1 : x ρ with
 | none => rw [h1] at h; cases h
 | some ds =>
  cases h2 : y ρ with
  | none => rw [h1, h2] at h; cases h
  | some es =>
   rw [h1, h2] at h
   have h : (if ds.length + es.length <= sizeLine then some (ds ++ es) else none) = some gs := h
   split at h
   ·rename_i hz; cases h; exact ⟨ds, es, rfl, rfl, hz, rfl⟩
   ·cases h
theorem W0 {x y : ML} (ha : PB X a x) (hb : PB X b y) : PF X (.BinOp a .Add b pos) (mcat x y) := (pe_op op_catS ha hb).imp fun σ H Q hpat => by
 obtain ⟨F0, H0, F, ρ, g, rl, e, q⟩ := hpat
 obtain ⟨ds, es, h1, h2, hz, rfl⟩ := mcat_some e
 refine ⟨F0, H0, F, ρ, ds, rl, h1, fun p xs F1 H1 x1 s1 r1 => ⟨F0, H0, F1, ρ, es, rl.go x1, h2, fun p2 ys F2 H2 x2 s2 r2 => ?_⟩⟩
 refine ⟨p, p2, xs, ys, rfl, rfl, x2.hh.seq s1, s2, by rw [r1.length, r2.length]; exact hz, fun w hw => ?_⟩
 have xx := x1.trans x2
 exact q w _ F2 _ (xx.trans (Ext.own x2.fh hw)) (xx.hh.free hw) (x2.fh.free hw) y3 ((r1.mono x2.ff).append r2)
def addD : D -> D -> Option D
 | .int i, .int j => some (.int (i + j))
 | .lst ds, .lst es => if ds.length + es.length <= sizeLine then some (.lst (ds ++ es)) else none
 | _, _ => none
theorem opd_add {K : W.Frag} : OpD K (fun x y H Q => (rI0 fun i j => V.int (i + j)) x y H Q \/ rCatS K x y H Q) addD := by
 intro F H x y d e w Q s r1 r2 h q
 cases d with
 | int i =>
  cases e with
  | int j =>
   cases h
   exact .inl ⟨_, _, r1.i', r2.i', q _ F H (.refl s) (.int _)⟩
  | _ => cases h
 | lst ds1 =>
  cases e with
  | lst ds2 =>
   obtain ⟨p1, xs1, e1, s1, t1⟩ := r1.l'
   obtain ⟨p2, xs2, e2, s2, t2⟩ := r2.l'
   have h : (if ds1.length + ds2.length <= sizeLine then some (D.lst (ds1 ++ ds2)) else none) = some w := h
   by_cases hz : ds1.length + ds2.length <= sizeLine
   ·rw [if_pos hz] at h
    cases h
    refine .inr ⟨_, _, _, _, e1, e2, s.seq s1, s.seq s2, by rw [t1.length, t2.length]; exact hz, fun p hp => ?_⟩
    exact q _ _ _ (Ext.laid s hp) (.lst (SqL.of y3) ((t1.append t2).mono ((Same.refl F).put (s.free hp))))
   ·rw [if_neg hz] at h; cases h
  | _ => cases h
 | _ => cases h
theorem j1 (ha : PD X a ma) (hb : PD X b mb) : PD X (.BinOp a .Add b pos) (m2 addD ma mb) := C6 (OpR.or op_add op_catS) opd_add ha hb
theorem Z2 (ha : PD X a ma) (hb : PD X b mb) : PD X (.BinOp a .Sub b pos) (m2 subD ma mb) := C6 op_sub opd_sub ha hb
theorem P5 (ha : PD X a ma) (hb : PD X b mb) : PD X (.BinOp a .Mult b pos) (m2 mulD ma mb) := C6 op_mul opd_mul ha hb
theorem W1 (ha : PD X a ma) (hb : PD X b mb) : PD X (.BinOp a .FloorDiv b pos) (m2 S9 ma mb) := C6 op_fdiv opd_fdiv ha hb
theorem f9 (ha : PD X a ma) (hb : PD X b mb) : PD X (.BinOp a .Mod b pos) (m2 modD ma mb) := C6 op_mod opd_mod ha hb
theorem zx3 (ha : PD X a ma) (hb : PD X b mb) : PD X (.BinOp a .Pow b pos) (m2 powD ma mb) := C6 op_pow opd_pow ha hb
theorem pd_shl (ha : PD X a ma) (hb : PD X b mb) : PD X (.BinOp a .LShift b pos) (m2 shlD ma mb) := C6 op_shl opd_shl ha hb
theorem pd_shr (ha : PD X a ma) (hb : PD X b mb) : PD X (.BinOp a .RShift b pos) (m2 shrD ma mb) := C6 op_shr opd_shr ha hb
theorem pd_band (ha : PD X a ma) (hb : PD X b mb) : PD X (.BinOp a .BitAnd b pos) (m2 andD ma mb) := C6 op_and opd_and ha hb
@[irreducible] def d9 (f : List D -> Option D) (m : ML) : ME := fun ρ => (m ρ).bind f
def CallD (K : W.Frag) (r : List V -> Hp -> VK -> Prop) (f : List D -> Option D) : Prop := ∀ (F H : Hp) (vs : List V) (ds : List D) (g : D) (Q : VK), Same F H -> Reps K F vs ds -> f ds = some g -> (∀ v F' H', Ext F H F' H' -> Rep K F' v g -> Q v H') -> r vs H Q
theorem call_d {r : List V -> Hp -> VK -> Prop} {f : List D -> Option D} {m : ML} (hf : CallD X.K r f) {σ : St} {H : Hp} {Q : VK} (h : TD X.K (d9 f m) σ H Q) : tCB r (TAs X.K m) σ H Q := by
 obtain ⟨F0, H0, F, ρ, g, rl, e, q⟩ := h
 unfold d9 at e
 cases h1 : m ρ with
 | none => rw [h1] at e; cases e
 | some ds =>
  rw [h1] at e
  exact ⟨F0, H0, F, ρ, ds, rl, h1, fun vs F1 H1 x1 r1 => hf F1 H1 vs ds g Q x1.fh r1 e fun v F' H' x2 => q v F' H' (x1.trans x2)⟩
def lenF : List D -> Option D
 | [.lst ds] => some (.int ds.length)
 | [.tup ds] => some (.int ds.length)
 | [.str x] => if x.length <= sizeLine then some (.int x.length) else none
 | _ => none
theorem calld_len {K : W.Frag} : CallD K (fun xs H Q => (∃ p ys, xs = [.ref p] /\ (SqL K H p ys \/ SqT K H p ys) /\ Q (.int ys.length) H) \/ (∃ z, xs = [.str z] /\ z.length <= sizeLine /\ Q (.int z.length) H)) lenF := by
 intro F H vs ds g Q s r h q
 cases r with
 | nil => cases h
 | cons r rr =>
  cases rr with
  | cons _ _ => revert h; unfold lenF; intro h; split at h <;> simp_all
  | nil =>
   cases r with
   | lst s1 t1 => cases h; exact .inl ⟨_, _, rfl, .inl (s.seq s1), by rw [t1.length]; exact q _ F H (.refl s) (.int _)⟩
   | tup s1 t1 => cases h; exact .inl ⟨_, _, rfl, .inr (s.seqT s1), by rw [t1.length]; exact q _ F H (.refl s) (.int _)⟩
   | str x =>
    have h : (if x.length <= sizeLine then some (D.int x.length) else none) = some g := h
    split at h
    ·rename_i hz; cases h; exact .inr ⟨_, rfl, hz, q _ F H (.refl s) (.int _)⟩
    ·cases h
   | _ => cases h
theorem pd_len {e : Expr} {p : Pos} {m : ML} (hg : Gl X "len") (hm : X.mg "len" = none) (ha : PAs X [e] m) (he : starEach [e] X.env = (false, eval e X.env) :: starEach [] X.env := by rfl) (hpl : (backTo pos (starEach [] X.env)).any (·.1) = false := by rfl) : PD X (.Call (.Name "len" p) [e] [] pos) (d9 lenF m) :=
 (l7 (CallR.or O6 zu1) hg hm PySem.boot_len ha (by decide) (by decide) he hpl).imp fun _ _ _ h => call_d calld_len h
theorem t5 {e : Expr} {p : Pos} {m : ML} (hg : Gl X "len") (hm : X.mg "len" = none) (ha : PB X e m) (hs : starEach (e :: []) X.env = (false, eval e X.env) :: starEach [] X.env := by rfl) (he : starEach [e] X.env = (false, eval e X.env) :: starEach [] X.env := by rfl) (hpl : (backTo pos (starEach [] X.env)).any (·.1) = false := by rfl) : PD X (.Call (.Name "len" p) [e] [] pos) (mlen m) :=
 (l7 O6 hg hm PySem.boot_len (u8 ha pa_nil hs) (by decide) (by decide) he hpl).imp fun σ H Q hpat => by
  obtain ⟨F0, H0, F, ρ, g, rl, e, q⟩ := hpat
  unfold mlen at e
  cases h1 : m ρ with
  | none => rw [h1] at e; cases e
  | some ds =>
   rw [h1] at e; cases e
   refine ⟨F0, H0, F, ρ, ds, rl, h1, fun p xs F1 H1 x1 s1 r1 => ⟨p, xs, rfl, .inl s1, ?_⟩⟩
   rw [r1.length]
   exact q _ F1 H1 x1 (.int _)
def absF : List D -> Option D
 | [.int i] => some (.int (if i < 0 then -i else i))
 | _ => none
theorem calld_abs {K : W.Frag} : CallD K (fun xs H Q => ∃ i, xs = [.int i] /\ Q (.int (if i < 0 then -i else i)) H) absF := by
 intro F H vs ds g Q s r h q
 cases r with
 | nil => cases h
 | cons r rr =>
  cases rr with
  | cons _ _ => revert h; unfold absF; intro h; split at h <;> simp_all
  | nil =>
   cases r with
   | int i => cases h; exact ⟨_, rfl, q _ F H (.refl s) (.int _)⟩
   | _ => cases h
theorem pd_abs {e : Expr} {p : Pos} {m : ML} (hg : Gl X "abs") (hm : X.mg "abs" = none) (ha : PAs X [e] m) (he : starEach [e] X.env = (false, eval e X.env) :: starEach [] X.env := by rfl) (hpl : (backTo pos (starEach [] X.env)).any (·.1) = false := by rfl) : PD X (.Call (.Name "abs" p) [e] [] pos) (d9 absF m) :=
 (l7 call_abs hg hm PyProof.Rows.boot_abs ha (by decide) (by decide) he hpl).imp fun _ _ _ h => call_d calld_abs h
def two2 (k : Int -> Int -> Int) : List D -> Option D
 | [.int i, .int j] => some (.int (k i j))
 | _ => none
theorem two2_inv {k : Int -> Int -> Int} {ds : List D} {g : D} (h : two2 k ds = some g) : ∃ i j, ds = [.int i, .int j] /\ g = .int (k i j) := by
 cases ds with
 | nil => cases h
 | cons d ds =>
  cases ds with
  | nil => cases d <;> cases h
  | cons e ds =>
   cases ds with
   | cons f ds => cases d <;> first | (cases h; done) | (cases e <;> cases h)
   | nil =>
    cases d with
    | int i =>
     cases e with
     | int j => cases h; exact ⟨i, j, rfl, rfl⟩
     | _ => cases h
    | _ => cases h
theorem zv9 {K : W.Frag} {k : Int -> Int -> Int} : CallD K (fun xs H Q => ∃ i j, xs = [.int i, .int j] /\ Q (.int (k i j)) H) (two2 k) := by
 intro F H vs ds g Q s r h q
 obtain ⟨i, j, rfl, rfl⟩ := two2_inv h
 cases r with
 | cons r rr =>
  cases rr with
  | cons r2 rr =>
   cases rr
   rw [r.i', r2.i']
   exact ⟨_, _, rfl, q _ F H (.refl s) (.int _)⟩
def max2F : List D -> Option D := two2 fun i j => if j > i then j else i
def min2F : List D -> Option D := two2 fun i j => if j < i then j else i
theorem pd_max2 {x y : Expr} {p : Pos} {m : ML} (hc : X.calm = true) (hg : Gl X "max") (hm : X.mg "max" = none) (ha : PAs X [x, y] m) (he : starEach [x, y] X.env = (false, eval x X.env) :: starEach [y] X.env := by rfl) (hpl : (backTo pos (starEach [y] X.env)).any (·.1) = false := by rfl) : PD X (.Call (.Name "max" p) [x, y] [] pos) (d9 max2F m) :=
 (l7 (call_max2 hc) hg hm PyProof.Rows.boot_max ha (by decide) (by decide) he hpl).imp fun _ _ _ h => call_d (zv9 (k := fun i j => if j > i then j else i)) h
theorem pd_min2 {x y : Expr} {p : Pos} {m : ML} (hc : X.calm = true) (hg : Gl X "min") (hm : X.mg "min" = none) (ha : PAs X [x, y] m) (he : starEach [x, y] X.env = (false, eval x X.env) :: starEach [y] X.env := by rfl) (hpl : (backTo pos (starEach [y] X.env)).any (·.1) = false := by rfl) : PD X (.Call (.Name "min" p) [x, y] [] pos) (d9 min2F m) :=
 (l7 (call_min2 hc) hg hm PyProof.Rows.boot_min ha (by decide) (by decide) he hpl).imp fun _ _ _ h => call_d (zv9 (k := fun i j => if j < i then j else i)) h
def intF : List D -> Option D
 | [.int i] => some (.int i)
 | [.bl k] => some (.int (if k then 1 else 0))
 | _ => none
theorem pf_list {e : Expr} {p : Pos} {m : ML} (hg : Gl X "list") (hm : X.mg "list" = none) (ha : PB X e m) (hv : bootBuiltins "list" = some (.type "list")) (hs : starEach (e :: []) X.env = (false, eval e X.env) :: starEach [] X.env := by rfl) (hpl : (backTo pos (starEach [] X.env)).any (·.1) = false := by rfl) : PF X (.Call (.Name "list" p) [e] [] pos) m :=
 (L5 zu0 hg hm hv (u8 ha pa_nil hs) (by decide) (by decide) hs hpl).imp fun σ H Q hpat => by
  obtain ⟨F0, H0, F, ρ, ds, rl, e, q⟩ := hpat
  refine ⟨F0, H0, F, ρ, ds, rl, e, fun p xs F1 H1 x1 s1 r1 => ⟨p, xs, rfl, .inl s1, fun w hw => ?_⟩⟩
  exact q w _ F1 _ (x1.trans (Ext.own x1.fh hw)) (x1.hh.free hw) (x1.fh.free hw) y3 r1
end
end
section
inductive Out where
 | nx (ρ : Ro) | bk (ρ : Ro) | ct (ρ : Ro) | rt (d : D) | rf (ds : List D) | rp (d : D) (ds : List D) | rg (d : D) (p : Addr) (r : List D) | rgf (ds : List D) (p : Addr) (r : List D)
abbrev MS := Ro -> Option Out
def okO (K : W.Frag) (F0 H0 Fb : Hp) (Dn : Ends) : Out -> Prop
 | .nx ρ => ∀ F H σ, Rl K F0 H0 F H σ ρ -> Same Fb F -> Dn.nx σ H
 | .bk ρ => ∀ F H σ, Rl K F0 H0 F H σ ρ -> Same Fb F -> Dn.bk σ H
 | .ct ρ => ∀ F H σ, Rl K F0 H0 F H σ ρ -> Same Fb F -> Dn.ct σ H
 | .rt d => ∀ v F H, Ext F0 H0 F H -> Rep K F v d -> Dn.rt v H
 | .rf ds => ∀ p xs F H, Ext F0 H0 F H -> H0 p = none -> F p = none -> H p = some (.lst xs) -> Reps K F xs ds -> Dn.rt (.ref p) H
 | .rp d ds => ∀ t v p xs F H, Ext F0 H0 F H -> H0 t = none -> H0 p = none -> t ≠ p -> F t = none -> F p = none -> H t = some (.tup [v, .ref p]) -> H p = some (.lst xs) -> Rep K F v d -> Reps K F xs ds -> Dn.rt (.ref t) H
 | .rg d p r => ∀ v F H xs, Ext F0 H0 F H -> Rep K F v d -> F p = none -> H p = some (.lst xs) -> Reps K F xs r -> Dn.rt v H
 | .rgf ds p r => ∀ q ys F H xs, Ext F0 H0 F H -> H0 q = none -> F q = none -> q ≠ p -> H q = some (.lst ys) -> Reps K F ys ds -> F p = none -> H p = some (.lst xs) -> Reps K F xs r -> Dn.rt (.ref q) H
def TSd (K : W.Frag) (m : MS) : TS := fun Dn σ H => ∃ F0 H0 F ρ o, Rl K F0 H0 F H σ ρ /\ m ρ = some o /\ okO K F0 H0 F Dn o
theorem okO.mono {K : W.Frag} {F0 H0 Fb Fb' : Hp} {Dn : Ends} (s : Same Fb Fb') : ∀ {o : Out}, okO K F0 H0 Fb Dn o -> okO K F0 H0 Fb' Dn o
 | .nx _, h => fun F H σ rl q => h F H σ rl (s.trans q)
 | .bk _, h => fun F H σ rl q => h F H σ rl (s.trans q)
 | .ct _, h => fun F H σ rl q => h F H σ rl (s.trans q)
 | .rt _, h => h
 | .rf _, h => h
 | .rp _ _, h => h
 | .rg _ _ _, h => h
 | .rgf _ _ _, h => h
def PSd (X : Cx) (st : Stmt) (m : MS) : Prop := PS X st (TSd X.K m)
def PSsd (X : Cx) (st : List Stmt) (m : MS) : Prop := PSs X st (TSd X.K m)
section
variable {X : Cx} {a b c e : Expr} {ma mb : ME} {pos : Pos} {st : Stmt} {rest : List Stmt} {m1 m2' : MS}
theorem PS.imp {t t' : TS} (h : PS X st t) (i : ∀ D σ H, t' D σ H -> t D σ H) : PS X st t' := fun pins s σ H D I q => h pins s σ H D I (i D σ H q)
theorem PSs.imp {sts : List Stmt} {t t' : TS} (h : PSs X sts t) (i : ∀ D σ H, t' D σ H -> t D σ H) : PSs X sts t' := fun pins s σ H D I q => h pins s σ H D I (i D σ H q)
def X4 : MS := fun ρ => some (.nx ρ)
def mseq (x y : MS) : MS := fun ρ => match x ρ with | some (.nx ρ') => y ρ' | o => o
theorem n4 : PSsd X [] X4 := pss_nil.imp fun D σ H hpat => by obtain ⟨F0, H0, F, ρ, o, rl, e, ok⟩ := hpat; cases e; exact ok F H σ rl (Same.refl _)
theorem z4 (h1 : PSd X st m1) (h2 : PSsd X rest m2') : PSsd X (st :: rest) (mseq m1 m2') := (pss_cons h1 h2).imp fun D σ H hpat => by
 obtain ⟨F0, H0, F, ρ, o, rl, e, ok⟩ := hpat
 unfold mseq at e
 cases h : m1 ρ with
 | none => rw [h] at e; cases e
 | some o1 =>
  rw [h] at e
  cases o1 with
  | nx ρ1 => exact ⟨F0, H0, F, ρ, _, rl, h, fun F' H' σ' rl' sf => ⟨F0, H0, F', ρ1, o, rl', e, ok.mono sf⟩⟩
  | bk ρ1 => cases e; exact ⟨F0, H0, F, ρ, _, rl, h, ok⟩
  | ct ρ1 => cases e; exact ⟨F0, H0, F, ρ, _, rl, h, ok⟩
  | rt d => cases e; exact ⟨F0, H0, F, ρ, _, rl, h, ok⟩
  | rf d => cases e; exact ⟨F0, H0, F, ρ, _, rl, h, ok⟩
  | rp d ds => cases e; exact ⟨F0, H0, F, ρ, _, rl, h, ok⟩
  | rg d p r => cases e; exact ⟨F0, H0, F, ρ, _, rl, h, ok⟩
  | rgf d p r => cases e; exact ⟨F0, H0, F, ρ, _, rl, h, ok⟩
theorem y4 (h1 : PSd X st m1) : PSsd X [st] m1 := pss_one h1
def mif (c : MB) (x y : MS) : MS := fun ρ => match c ρ with | some true => x ρ | some false => y ρ | none => none
theorem f7 {ca : MB} {x y : List Stmt} {mx my : MS} (hc : PC' X c ca) (hx : PSsd X x mx) (hy : PSsd X y my) : PSd X (.If c x y pos) (mif ca mx my) := (ps_if hc hx hy).imp fun D σ H hpat => by
 obtain ⟨F0, H0, F, ρ, o, rl, e, ok⟩ := hpat
 unfold mif at e
 split at e
 ·rename_i h1
  refine ⟨F0, H0, F, ρ, _, rl, h1, fun F1 H1 x1 => iteT ⟨F0, H0, F1, ρ, o, rl.go x1, e, ok.mono x1.ff⟩⟩
 ·rename_i h1
  refine ⟨F0, H0, F, ρ, _, rl, h1, fun F1 H1 x1 => iteF ⟨F0, H0, F1, ρ, o, rl.go x1, e, ok.mono x1.ff⟩⟩
 ·cases e
def mnever : MS := fun _ => none
theorem zx0 : PSd X st mnever := ps_never.imp fun D σ H hpat => by obtain ⟨F0, H0, F, ρ, o, rl, e, ok⟩ := hpat; cases e
def mset (i : Nat) (x : ME) : MS := fun ρ => (x ρ).map fun d => .nx (ρ.set i (some (.sh d)))
def a8 (i : Nat) (x : ML) : MS := fun ρ => (x ρ).map fun ds => .nx (ρ.set i (some (.own ds)))
theorem asg_d {t : TE} {i : Nat} (h : PS X st (tAsg t (S8 i))) (ht : ∀ σ H Q, TD X.K ma σ H Q -> t σ H Q) : PSd X st (mset i ma) := h.imp fun D σ H hpat => by
 obtain ⟨F0, H0, F, ρ, o, rl, e, ok⟩ := hpat
 unfold mset at e
 cases h1 : ma ρ with
 | none => rw [h1] at e; cases e
 | some d =>
  rw [h1] at e; cases e
  exact ht _ _ _ ⟨F0, H0, F, ρ, d, rl, h1, fun v F1 H1 x1 r1 => ok F1 H1 _ ((rl.go x1).set r1) x1.ff⟩
theorem asg_f {t : TE} {i : Nat} {mf : ML} (h : PS X st (tAsg t (S8 i))) (ht : ∀ σ H Q, TF X.K mf σ H Q -> t σ H Q) : PSd X st (a8 i mf) := h.imp fun D σ H hpat => by
 obtain ⟨F0, H0, F, ρ, o, rl, e, ok⟩ := hpat
 unfold a8 at e
 cases h1 : mf ρ with
 | none => rw [h1] at e; cases e
 | some ds =>
  rw [h1] at e; cases e
  refine ht _ _ _ ⟨F0, H0, F, ρ, ds, rl, h1, fun p xs F1 H1 x1 hp hF hH r1 => ok F1 H1 _ ?_ x1.ff⟩
  refine (rl.go x1).setOwn hF hH r1 (rl.ext.hh.free hp) (fun j es hj e1 e2 => ?_) fun j q es e1 z => ?_
  ·obtain ⟨q, ys, a1, a2, a3, _⟩ := rl.own j es e1
   rw [a1] at e2; cases e2
   rw [hp] at a3; cases a3
  ·obtain ⟨_, _, _, ys, a3, _⟩ := rl.ob j q es e1
   rw [z, hp] at a3; cases a3
theorem w4 {i : Nat} {x : Str} {pos' : Pos} (hN : X.N.Nodup) (hi : X.N[i]? = some x) (hx : Loc X.env.scope x) (he : PD X e ma) (hs : swapsWith e (some (.Name x pos')) pos.line X.env = pure false := by rfl) (hf : X.fn x = true \/ X.env.scope.names.lookup x = some .local := by first | exact .inl rfl | exact .inr rfl | assumption) :
  PSd X (.Assign [.Name x pos'] e pos) (mset i ma) := asg_d (ps_set hN hi hx he hs hf) fun _ _ _ h => h
theorem k7 {i : Nat} {x : Str} {pos' : Pos} {mf : ML} (hN : X.N.Nodup) (hi : X.N[i]? = some x) (hx : Loc X.env.scope x) (he : PF X e mf) (hs : swapsWith e (some (.Name x pos')) pos.line X.env = pure false := by rfl) (hf : X.fn x = true \/ X.env.scope.names.lookup x = some .local := by first | exact .inl rfl | exact .inr rfl | assumption) :
  PSd X (.Assign [.Name x pos'] e pos) (a8 i mf) := asg_f (ps_set hN hi hx he hs hf) fun _ _ _ h => h
def mexpr (x : ME) : MS := fun ρ => (x ρ).map fun _ => .nx ρ
theorem psd_expr (he : PD X e ma) (hs : swapsWith e none pos.line X.env = pure false := by rfl) : PSd X (.Expr e pos) (mexpr ma) := (ps_expr he hs).imp fun D σ H hpat => by
 obtain ⟨F0, H0, F, ρ, o, rl, e, ok⟩ := hpat
 unfold mexpr at e
 cases h1 : ma ρ with
 | none => rw [h1] at e; cases e
 | some d =>
  rw [h1] at e; cases e
  exact ⟨F0, H0, F, ρ, d, rl, h1, fun v F1 H1 x1 r1 => ok F1 H1 _ (rl.go x1) x1.ff⟩
def mret (x : ME) : MS := fun ρ => (x ρ).map .rt
def mretF (x : ML) : MS := fun ρ => (x ρ).map .rf
def B5 (i : Nat) : MS := fun ρ => match ρ[i]? with | some (some (.own ds)) => some (.rf ds) | some (some (.sh d)) => some (.rt d) | _ => none
theorem u5 (he : PD X e ma) : PSd X (.Return (some e) pos) (mret ma) := (ps_ret he).imp fun D σ H hpat => by
 obtain ⟨F0, H0, F, ρ, o, rl, e, ok⟩ := hpat
 unfold mret at e
 cases h1 : ma ρ with
 | none => rw [h1] at e; cases e
 | some d =>
  rw [h1] at e; cases e
  exact ⟨F0, H0, F, ρ, d, rl, h1, fun v F1 H1 x1 r1 => ok v F1 H1 (rl.ext.trans x1) r1⟩
theorem psd_retF {mf : ML} (he : PF X e mf) : PSd X (.Return (some e) pos) (mretF mf) := (ps_ret he).imp fun D σ H hpat => by
 obtain ⟨F0, H0, F, ρ, o, rl, e, ok⟩ := hpat
 unfold mretF at e
 cases h1 : mf ρ with
 | none => rw [h1] at e; cases e
 | some ds =>
  rw [h1] at e; cases e
  exact ⟨F0, H0, F, ρ, ds, rl, h1, fun p xs F1 H1 x1 hp hF hH r1 => ok p xs F1 H1 (rl.ext.trans x1) (rl.ext.hh.free hp) hF hH r1⟩
theorem N6 (i : Nat) {x : Str} {pos' : Pos} (h : PE X (.Name x pos') (tVar i)) : PSd X (.Return (some (.Name x pos')) pos) (B5 i) := (ps_ret h).imp fun D σ H hpat => by
 obtain ⟨F0, H0, F, ρ, o, rl, e, ok⟩ := hpat
 unfold B5 at e
 split at e
 ·rename_i ds h1
  cases e
  obtain ⟨p, xs, e1, e2, e3, e4, e5⟩ := rl.own i _ h1
  exact ⟨_, e1, ok p xs F H rl.ext e5 e2 e3 e4⟩
 ·rename_i d h1
  cases e
  obtain ⟨v, e1, e2⟩ := rl.sh i _ h1
  exact ⟨_, e1, ok v F H rl.ext e2⟩
 ·cases e
def mapp (i : Nat) (x : ME) : MS := fun ρ => match ρ[i]? with | some (some (.own ds)) => (x ρ).bind fun d => if ds.length < sizeLine then some (.nx (ρ.set i (some (.own (ds ++ [d]))))) else none | _ => none
theorem k3 {i : Nat} {x : Str} {e : Expr} {px apos cpos : Pos} (hv : PE X (.Name x px) (tVar i)) (he : PD X e ma)
  (hE : ∀ t, PA X [e] t -> PE X (.Call (.Attribute (.Name x px) "append" apos) [e] [] cpos) (tBM X.K "list" rAppend (tVar i) t)) (hA : PAs X [e] (z5 ma anil)) (hs : swapsWith (.Call (.Attribute (.Name x px) "append" apos) [e] [] cpos) none pos.line X.env = pure false := by rfl) :
  PSd X (.Expr (.Call (.Attribute (.Name x px) "append" apos) [e] [] cpos) pos) (mapp i ma) := (ps_expr (hE _ hA) hs).imp fun D σ H hpat => by
 obtain ⟨F0, H0, F, ρ, o, rl, e, ok⟩ := hpat
 unfold mapp at e
 split at e
 ·rename_i ds h1
  obtain ⟨p, xs, e1, e2, e3, e4, e5⟩ := rl.own i _ h1
  cases h2 : ma ρ with
  | none => rw [h2] at e; cases e
  | some d =>
   rw [h2] at e
   have e : (if ds.length < sizeLine then some (Out.nx (ρ.set i (some (.own (ds ++ [d]))))) else none) = some o := e
   split at e
   ·rename_i hz
    cases e
    refine ⟨_, e1, .inl ⟨rfl, _, SqL.of e3⟩, F0, H0, F, ρ, [d], rl, by unfold z5 anil; rw [h2]; rfl, fun vs F1 H1 x1 r1 => ?_⟩
    cases r1 with
    | cons r rr =>
     cases rr
     have hp : H1 p = some (.lst xs) := x1.hh _ _ e3
     exact ⟨p, xs, _, rfl, rfl, hp, by rw [e4.length]; exact hz, ok F1 _ σ ((rl.go x1).write h1 e1 ((e4.mono x1.ff).append (.cons r .nil))) x1.ff⟩
   ·cases e
 ·cases e
def L8 (i : Nat) (ix v : ME) : MS := fun ρ => (v ρ).bind fun d => match ρ[i]? with
 | some (some (.own ds)) => (ix ρ).bind (fun x => match x with | .int k => (ixN ds.length k).map fun j => .nx (ρ.set i (some (.own (ds.set j d)))) | _ => none)
 | some (some (.ob p ds)) => (ix ρ).bind (fun x => match x with | .int k => (ixN ds.length k).map fun j => .nx (ρ.set i (some (.ob p (ds.set j d)))) | _ => none)
 | _ => none
theorem zy8 {i : Nat} (hE : PS X st (tAsg (TD X.K mb) (gSub (tVar i) (TD X.K ma) rSetL))) : PSd X st (L8 i ma mb) := hE.imp fun D σ H hpat => by
 obtain ⟨F0, H0, F, ρ, o, rl, e, ok⟩ := hpat
 unfold L8 at e
 cases h1 : mb ρ with
 | none => rw [h1] at e; cases e
 | some d =>
  rw [h1] at e
  refine ⟨F0, H0, F, ρ, d, rl, h1, fun y F1 H1 x1 r1 => ?_⟩
  dsimp only [Option.bind] at e
  split at e
  ·rename_i ds h2
   obtain ⟨p, xs, e1, e2, e3, e4, e5⟩ := (rl.go x1).own i _ h2
   cases h3 : ma ρ with
   | none => rw [h3] at e; cases e
   | some k' =>
    rw [h3] at e
    refine ⟨_, e1, F0, H0, F1, ρ, k', rl.go x1, h3, fun z F2 H2 x2 r2 => ?_⟩
    cases r2 <;> first | (cases e; done) | skip
    rename_i k
    have e : (ixN ds.length k).map (fun j => Out.nx (ρ.set i (some (.own (ds.set j d))))) = some o := e
    cases h4 : ixN ds.length k with
    | none => rw [h4] at e; cases e
    | some j =>
     rw [h4] at e; cases e
     have rl2 := (rl.go x1).go x2
     refine ⟨p, xs, k, j, rfl, rfl, x2.hh _ _ e3, by rw [e4.length]; exact h4, ok F2 _ σ (rl2.write h2 e1 (Reps.set (r1.mono x2.ff) j (e4.mono x2.ff))) (x1.ff.trans x2.ff)⟩
  ·rename_i p ds h2
   obtain ⟨e1, e2, e5, xs, e3, e4⟩ := (rl.go x1).ob i p _ h2
   cases h3 : ma ρ with
   | none => rw [h3] at e; cases e
   | some k' =>
    rw [h3] at e
    refine ⟨_, e1, F0, H0, F1, ρ, k', rl.go x1, h3, fun z F2 H2 x2 r2 => ?_⟩
    cases r2 <;> first | (cases e; done) | skip
    rename_i k
    have e : (ixN ds.length k).map (fun j => Out.nx (ρ.set i (some (.ob p (ds.set j d))))) = some o := e
    cases h4 : ixN ds.length k with
    | none => rw [h4] at e; cases e
    | some j =>
     rw [h4] at e; cases e
     have rl2 := (rl.go x1).go x2
     refine ⟨p, xs, k, j, rfl, rfl, x2.hh _ _ e3, by rw [e4.length]; exact h4, ok F2 _ σ (rl2.writeB h2 (Reps.set (r1.mono x2.ff) j (e4.mono x2.ff))) (x1.ff.trans x2.ff)⟩
  ·cases e
def W4 (i : Nat) (m : MS) : MS := fun ρ => match ρ[i]? with | some (some (.own ds)) => m (ρ.set i (some (.sh (.lst ds)))) | _ => m ρ
theorem U9 (i : Nat) {sts : List Stmt} {m : MS} (h : PSsd X sts m) : PSsd X sts (W4 i m) := h.imp fun D σ H hpat => by
 obtain ⟨F0, H0, F, ρ, o, rl, e, ok⟩ := hpat
 unfold W4 at e
 split at e
 ·rename_i ds h1
  obtain ⟨F', rl', sf⟩ := rl.freeze h1
  exact ⟨F0, H0, F', _, o, rl', e, ok.mono sf⟩
 ·exact ⟨F0, H0, F, ρ, o, rl, e, ok⟩
inductive Tg where
 | nm (i : Nat) | tp (is : List Nat) | nt (i : Nat) (is : List Nat)
def P3 : List Nat -> List D -> Ro -> Option Ro
 | [], [], ρ => some ρ
 | i :: is, d :: ds, ρ => P3 is ds (ρ.set i (some (.sh d)))
 | _, _, _ => none
def tgD : Tg -> D -> Ro -> Option Ro
 | .nm i, d, ρ => some (ρ.set i (some (.sh d)))
 | .tp is, .tup ds, ρ => P3 is ds ρ
 | .nt i is, .tup [d, .tup ds], ρ => P3 is ds (ρ.set i (some (.sh d)))
 | _, _, _ => none
def TGd (K : W.Frag) (g : Tg) : TG := fun v σ H Q => ∃ F0 H0 F ρ d ρ', Rl K F0 H0 F H σ ρ /\ Rep K F v d /\ tgD g d ρ = some ρ' /\ ∀ F' H' σ', Rl K F0 H0 F' H' σ' ρ' -> Ext F H F' H' -> Q σ' H'
def PGd (X : Cx) (tg : Expr) (g : Tg) : Prop := PG X tg (TGd X.K g)
theorem PG.imp {tg : Expr} {t t' : TG} (h : PG X tg t) (i : ∀ v σ H Q, t' v σ H Q -> t v σ H Q) : PG X tg t' := fun pins s σ H v u Q I r q => h pins s σ H v u Q I r (i v σ H Q q)
theorem x9 {i : Nat} {x : Str} {pos : Pos} (h : PG X (.Name x pos) (S8 i)) : PGd X (.Name x pos) (.nm i) := PG.imp h fun v σ H Q hpat => by
 obtain ⟨F0, H0, F, ρ, d, ρ', rl, r, e, q⟩ := hpat
 cases e; exact q F H _ (rl.set r) (.refl rl.fh)
def gAll : List Nat -> TGs
 | [] => gNil
 | i :: is => gCons (S8 i) (gAll is)
theorem gAll_ok {K : W.Frag} {F0 H0 F H : Hp} {Q : St -> Hp -> Prop} : ∀ (is : List Nat) (vs : List V) (ds : List D) (σ : St) (ρ ρ' : Ro), Rl K F0 H0 F H σ ρ -> Reps K F vs ds -> P3 is ds ρ = some ρ' -> (∀ σ', Rl K F0 H0 F H σ' ρ' -> Q σ' H) -> gAll is vs σ H Q
 | [], _, [], σ, ρ, ρ', rl, r, e, q => by cases r; cases e; exact ⟨rfl, q σ rl⟩
 | [], _, _ :: _, _, _, _, _, _, e, _ => by cases e
 | _ :: _, _, [], _, _, _, _, _, e, _ => by cases e
 | i :: is, _, d :: ds, σ, ρ, ρ', rl, r, e, q => by
  cases r with
  | cons r rr => exact ⟨_, _, rfl, gAll_ok is _ ds _ _ ρ' (rl.set r) rr e q⟩
theorem G9 : ∀ (is : List Nat) (ds : List D) (ρ ρ' : Ro), P3 is ds ρ = some ρ' -> ds.length = is.length
 | [], [], _, _, _ => rfl
 | [], _ :: _, _, _, e => by cases e
 | _ :: _, [], _, _, e => by cases e
 | _ :: is, _ :: ds, ρ, ρ', e => congrArg (· + 1) (G9 is ds _ ρ' e)
theorem T1 {es : List Expr} {k n : Nat} {is : List Nat} {pos : Pos} (h : PG X (.Tuple es k pos) (gTup X.K n (gAll is))) (hn : is.length = n := by rfl) : PGd X (.Tuple es k pos) (.tp is) := PG.imp h fun v σ H Q hpat => by
 obtain ⟨F0, H0, F, ρ, d, ρ', rl, r, e, q⟩ := hpat
 cases r with
 | tup s t => exact ⟨_, _, rfl, rl.fh.seqT s, by rw [t.length, G9 _ _ _ _ e, hn], gAll_ok is _ _ σ ρ ρ' rl t e fun σ' rl' => q F H σ' rl' (.refl rl.fh)⟩
 | _ => cases e
def masg (g : Tg) (x : ME) : MS := fun ρ => (x ρ).bind fun d => (tgD g d ρ).map .nx
theorem psd_asg {g : Tg} (h : PS X st (tAsg (TD X.K ma) (TGd X.K g))) : PSd X st (masg g ma) := h.imp fun D σ H hpat => by
 obtain ⟨F0, H0, F, ρ, o, rl, e, ok⟩ := hpat
 unfold masg at e
 cases h1 : ma ρ with
 | none => rw [h1] at e; cases e
 | some d =>
  rw [h1] at e
  have e : (tgD g d ρ).map Out.nx = some o := e
  cases h2 : tgD g d ρ with
  | none => rw [h2] at e; cases e
  | some ρ' =>
   rw [h2] at e; cases e
   exact ⟨F0, H0, F, ρ, d, rl, h1, fun v F1 H1 x1 r1 => ⟨F0, H0, F1, ρ, d, ρ', rl.go x1, r1, h2, fun F' H' σ' rl' x2 => ok F' H' σ' rl' (x1.ff.trans x2.ff)⟩⟩
structure ItD (K : W.Frag) (F : Hp) (J : It) (its : List D) : Prop where
 go : ∀ (i : Nat) F1 H1, Same F F1 -> Same F1 H1 -> i < its.length -> J.go i H1
 yld : ∀ (i : Nat) F1 H1 x H2 d, Same F F1 -> Same F1 H1 -> its[i]? = some d -> J.yld i H1 x H2 -> ∃ F2, Ext F1 H1 F2 H2 /\ Rep K F2 x d
 stop : ∀ F1 H1, Same F F1 -> Same F1 H1 -> J.stop its.length H1
def TId (K : W.Frag) (mi : ML) : TI := fun σ H R => ∃ F0 H0 F ρ its, Rl K F0 H0 F H σ ρ /\ mi ρ = some its /\ ∀ J F' H', Ext F H F' H' -> ItD K F' J its -> R J H'
def PId (X : Cx) (tg iter : Expr) (mi : ML) : Prop := PI X tg iter (TId X.K mi)
theorem PI.imp {tg it : Expr} {t t' : TI} (h : PI X tg it t) (i : ∀ σ H R, t' σ H R -> t σ H R) : PI X tg it t' := fun pins s σ H R I q => h pins s σ H R I (i σ H R q)
theorem itd_list {K : W.Frag} {F : Hp} {p : Addr} {xs : List V} {ds : List D} (s : SqL K F p xs) (r : Reps K F xs ds) : ItD K F (Itl K p) ds where
 go := fun i F1 H1 a b hi => by
  obtain ⟨v, e, _⟩ := r.get (getElem?_eq_getElem hi)
  exact ⟨xs, v, b.seq (a.seq s), e⟩
 yld := fun i F1 H1 x H2 d a b e y => by
  obtain ⟨rfl, y⟩ := y
  obtain ⟨v, e1, e2⟩ := r.get e
  have := y xs (b.seq (a.seq s))
  rw [e1] at this; cases this
  exact ⟨F1, .refl b, e2.mono a⟩
 stop := fun F1 H1 a b => ⟨xs, b.seq (a.seq s), by rw [r.length]; exact Nat.le_refl _⟩
theorem l8 {tg : Expr} (hd : PD X e ma) : PId X tg e (k0 ma) := PI.imp (pi_list hd) fun σ H R hpat => by
 obtain ⟨F0, H0, F, ρ, its, rl, e, q⟩ := hpat
 unfold k0 at e
 split at e
 ·rename_i ds h1
  cases e
  refine ⟨F0, H0, F, ρ, _, rl, h1, fun v F1 H1 x1 r1 => ?_⟩
  cases r1 with
  | lst s t => exact ⟨_, rfl, ⟨_, x1.fh.seq s⟩, q _ F1 H1 x1 (itd_list s t)⟩
 ·cases e
def X8 (lo : Int) (n : Nat) : List D := (List.range n).map fun (i : Nat) => D.int (lo + (i : Int))
theorem S2 (lo : Int) (n : Nat) : (X8 lo n).length = n := by unfold X8; simp
theorem zw8 {K : W.Frag} {F : Hp} {lo : Int} {n : Nat} : ItD K F (Itr lo n) (X8 lo n) where
 go := fun i F1 H1 a b hi => by rw [S2] at hi; exact hi
 yld := fun i F1 H1 x H2 d a b e y => by
  obtain ⟨rfl, rfl⟩ := y
  unfold X8 at e
  rw [getElem?_map] at e
  have hi : i < n := by
   rcases Nat.lt_or_ge i n with h | h
   ·exact h
   ·rw [getElem?_eq_none (by simpa using h)] at e; cases e
  rw [getElem?_range hi] at e
  cases e
  exact ⟨F1, .refl b, .int _⟩
 stop := fun F1 H1 a b => by rw [S2]; exact Nat.le_refl n
def okR (j : Int) : Bool := decide (-(2 ^ 62) <= j) && decide (j < 2 ^ 62)
def rng1 : List D -> Option (List D)
 | [.int j] => if okR j = true then some (X8 0 j.toNat) else none
 | _ => none
def rng2 : List D -> Option (List D)
 | [.int i, .int j] => if (okR i && okR j) = true then some (X8 i (j - i).toNat) else none
 | _ => none
@[irreducible] def v5 (f : List D -> Option (List D)) (m : ML) : ML := fun ρ => (m ρ).bind f
theorem Z5 {f : List D -> Option (List D)} {m : ML} {ρ : Ro} {gs : List D} (h : v5 f m ρ = some gs) : ∃ ds, m ρ = some ds /\ f ds = some gs := by
 unfold v5 at h
 cases h1 : m ρ with
 | none => rw [h1] at h; cases h
 | some ds => rw [h1] at h; exact ⟨ds, rfl, h⟩
theorem l4 {tg a : Expr} {m : ML} {p pos : Pos} (hg : Gl X "range") (hm : X.mg "range" = none) (ha : PAs X [a] m) (hs : starEach [a] X.env = [(false, eval a X.env)] := by rfl) : PId X tg (.Call (.Name "range" p) [a] [] pos) (v5 rng1 m) := PI.imp (pi_range1 hg hm ha hs) fun σ H R hpat => by
 obtain ⟨F0, H0, F, ρ, its, rl, e, q⟩ := hpat
 obtain ⟨ds, h1, h2⟩ := Z5 e
 refine ⟨F0, H0, F, ρ, ds, rl, h1, fun vs F1 H1 x1 r1 => ?_⟩
 unfold rng1 at h2
 split at h2
 ·rename_i j
  split at h2
  ·rename_i hk
   cases h2
   unfold okR at hk
   simp only [Bool.and_eq_true, decide_eq_true_eq] at hk
   cases r1 with
   | cons r rr =>
    cases rr; cases r
    exact ⟨j, rfl, hk.1, hk.2, q _ F1 H1 x1 zw8⟩
  ·cases h2
 ·cases h2
theorem V1 {tg a b : Expr} {m : ML} {p pos : Pos} (hg : Gl X "range") (hm : X.mg "range" = none) (ha : PAs X [a, b] m) (hs : starEach [a, b] X.env = [(false, eval a X.env), (false, eval b X.env)] := by rfl) (hs2 : starEach [b] X.env = [(false, eval b X.env)] := by rfl) : PId X tg (.Call (.Name "range" p) [a, b] [] pos) (v5 rng2 m) := PI.imp (pi_range2 hg hm ha hs hs2) fun σ H R hpat => by
 obtain ⟨F0, H0, F, ρ, its, rl, e, q⟩ := hpat
 obtain ⟨ds, h1, h2⟩ := Z5 e
 refine ⟨F0, H0, F, ρ, ds, rl, h1, fun vs F1 H1 x1 r1 => ?_⟩
 unfold rng2 at h2
 split at h2
 ·rename_i i j
  split at h2
  ·rename_i hk
   cases h2
   unfold okR at hk
   simp only [Bool.and_eq_true, decide_eq_true_eq] at hk
   cases r1 with
   | cons r rr =>
    cases rr with
    | cons r2 rr =>
     cases rr; cases r; cases r2
     exact ⟨i, j, rfl, ⟨hk.1.1, hk.1.2, hk.2.1, hk.2.2⟩, q _ F1 H1 x1 zw8⟩
  ·cases h2
 ·cases h2
def zip2 : List D -> Option (List D)
 | [.lst ds, .lst es] => some (List.zipWith (fun d e => .tup [d, e]) ds es)
 | _ => none
theorem itd_zip2 {K : W.Frag} {F : Hp} {p q : Addr} {xs ys : List V} {ds es : List D} (s : SqL K F p xs) (r : Reps K F xs ds) (s' : SqL K F q ys) (r' : Reps K F ys es) : ItD K F (Itz2 K p q) (List.zipWith (fun d e => D.tup [d, e]) ds es) where
 go := fun i F1 H1 a b hi => by
  rw [length_zipWith] at hi
  obtain ⟨v, e, _⟩ := r.get (getElem?_eq_getElem (show i < ds.length by omega))
  obtain ⟨w, e', _⟩ := r'.get (getElem?_eq_getElem (show i < es.length by omega))
  exact ⟨xs, ys, v, w, b.seq (a.seq s), b.seq (a.seq s'), e, e'⟩
 yld := fun i F1 H1 x H2 d a b e y => by
  obtain ⟨t, u, v, rfl, ht, rfl, y1, y2⟩ := y
  have y1 := y1 xs (b.seq (a.seq s))
  have y2 := y2 ys (b.seq (a.seq s'))
  obtain ⟨d1, e1, r1⟩ := r.get' y1
  obtain ⟨d2, e2, r2⟩ := r'.get' y2
  rw [getElem?_zipWith, e1, e2] at e
  cases e
  refine ⟨upd F1 t (.tup [u, v]), Ext.laid b ht, .tup (SqT.of y3) ?_⟩
  have mm : Same F (upd F1 t (.tup [u, v])) := a.trans ((Same.refl F1).put (b.free ht))
  exact .cons (r1.mono mm) (.cons (r2.mono mm) .nil)
 stop := fun F1 H1 a b => ⟨xs, ys, b.seq (a.seq s), b.seq (a.seq s'), by rw [r.length, r'.length, length_zipWith]; omega⟩
theorem pid_zip2 {es : List Expr} {tk : Nat} {tp : Pos} {a b : Expr} {m : ML} {p pos : Pos} (hg : Gl X "zip") (hm : X.mg "zip" = none) (ha : PAs X [a, b] m) (hs : starEach [a, b] X.env = [(false, eval a X.env), (false, eval b X.env)] := by rfl) (hs2 : starEach [b] X.env = [(false, eval b X.env)] := by rfl) : PId X (.Tuple es tk tp) (.Call (.Name "zip" p) [a, b] [] pos) (v5 zip2 m) := PI.imp (pi_zip2 hg hm ha hs hs2) fun σ H R hpat => by
 obtain ⟨F0, H0, F, ρ, its, rl, e, q⟩ := hpat
 obtain ⟨ds, h1, h2⟩ := Z5 e
 refine ⟨F0, H0, F, ρ, ds, rl, h1, fun vs F1 H1 x1 r1 => ?_⟩
 unfold zip2 at h2
 split at h2
 ·cases h2
  cases r1 with
  | cons r rr =>
   cases rr with
   | cons r2 rr =>
    cases rr
    cases r with
    | lst s t =>
     cases r2 with
     | lst s2 t2 => exact ⟨_, _, _, _, rfl, x1.fh.seq s, x1.fh.seq s2, q _ F1 H1 x1 (itd_zip2 s t s2 t2)⟩
 ·cases h2
def P1 : Nat -> List D -> List D
 | _, [] => []
 | i, d :: ds => .tup [.int i, d] :: P1 (i + 1) ds
theorem l0 : ∀ i ds, (P1 i ds).length = ds.length
 | _, [] => rfl
 | i, _ :: ds => by simp [P1, l0 (i + 1) ds]
theorem R0 : ∀ (k : Nat) ds (i : Nat) d, ds[i]? = some d -> (P1 k ds)[i]? = some (.tup [.int ((k + i : Nat) : Int), d])
 | _, [], _, _, h => by simp at h
 | k, _ :: ds, 0, d, h => by simp at h; subst h; rfl
 | k, _ :: ds, i + 1, d, h => by
  have := R0 (k + 1) ds i d (by simpa using h)
  have e : k + 1 + i = k + (i + 1) := by omega
  rw [e] at this
  simpa [P1] using this
end
end
section
def forD (g : Tg) (body : MS) : List D -> MS
 | [], ρ => some (.nx ρ)
 | d :: ds, ρ => match tgD g d ρ with
  | some ρ1 => match body ρ1 with
   | some (.nx ρ2) => forD g body ds ρ2
   | some (.ct ρ2) => forD g body ds ρ2
   | some (.bk ρ2) => some (.nx ρ2)
   | o => o
  | none => none
def mfor (mi : ML) (g : Tg) (body : MS) : MS := fun ρ => (mi ρ).bind fun its => forD g body its ρ
theorem g6 {α : Type} {xs : List α} {i : Nat} {d : α} (h : xs[i]? = some d) : xs.drop i = d :: xs.drop (i + 1) := by
 obtain ⟨hl, e⟩ := List.getElem?_eq_some_iff.mp h
 rw [drop_eq_getElem_cons hl, e]
section
variable {X : Cx} {a b c e : Expr} {ma mb : ME} {pos : Pos} {st : Stmt} {rest : List Stmt}
theorem i5 {tg iter : Expr} {body : List Stmt} {mi : ML} {g : Tg} {mb : MS} (hp : PassesOwn (model X.prog X.w) X.A X.env X.xe) (hc : X.calm = true) (hi : PId X tg iter mi) (hg : PGd X tg g) (hb : PSsd X body mb)
  (hs : ∀ x, foldedSetIterable iter X.env x = pure x := by intro _; rfl) : PSd X (.For tg iter body [] pos) (mfor mi g mb) := (ps_for hp hc hi hg hb hs).imp fun Dn σ H hpat => by
 obtain ⟨F0, H0, F, ρ, o, rl, e, ok⟩ := hpat
 unfold mfor at e
 cases h1 : mi ρ with
 | none => rw [h1] at e; cases e
 | some its =>
  rw [h1] at e
  have e : forD g mb its ρ = some o := e
  refine ⟨F0, H0, F, ρ, its, rl, h1, fun J F1 H1 x1 I => ?_⟩
  refine ⟨fun i m σ' H' => ∃ F' ρ', Rl X.K F0 H0 F' H' σ' ρ' /\ Same F1 F' /\ i <= its.length /\ m = its.length - i /\ forD g mb (its.drop i) ρ' = some o, ⟨_, F1, ρ, rl.go x1, Same.refl _, Nat.zero_le _, rfl, e⟩, ?_⟩
  rintro i m σ' H' ⟨F', ρ', rl', sf, hi', rfl, e'⟩
  by_cases hlt : i < its.length
  ·right
   have hd := getElem?_eq_getElem hlt
   refine ⟨I.go i F' H' sf rl'.fh hlt, fun σ2 H2 => ∃ F2 ρ2, Rl X.K F0 H0 F2 H2 σ2 ρ2 /\ Same F1 F2 /\ forD g mb (its.drop (i + 1)) ρ2 = some o, ?_, fun x H2 y => ?_⟩
   ·rintro σ2 H2 ⟨F2, ρ2, rl2, sf2, e2⟩
    exact ⟨its.length - (i + 1), by omega, F2, ρ2, rl2, sf2, hlt, rfl, e2⟩
   ·obtain ⟨F2, x2, r2⟩ := I.yld i F' H' x H2 _ sf rl'.fh hd y
    rw [g6 hd] at e'
    unfold forD at e'
    cases h2 : tgD g its[i] ρ' with
    | none => simp only [h2] at e'; cases e'
    | some ρ1 =>
     simp only [h2] at e'
     refine ⟨F0, H0, F2, ρ', _, ρ1, rl'.go x2, r2, h2, fun F3 H3 σ3 rl3 x3 => ?_⟩
     have s3 : Same F1 F3 := (sf.trans x2.ff).trans x3.ff
     cases h3 : mb ρ1 with
     | none => simp only [h3] at e'; cases e'
     | some o1 =>
      simp only [h3] at e'
      refine ⟨F0, H0, F3, ρ1, o1, rl3, h3, ?_⟩
      cases o1 with
      | nx ρ2 => exact fun F4 H4 σ4 rl4 s4 => ⟨F4, ρ2, rl4, s3.trans s4, e'⟩
      | ct ρ2 => exact fun F4 H4 σ4 rl4 s4 => ⟨F4, ρ2, rl4, s3.trans s4, e'⟩
      | bk ρ2 =>
       cases e'
       exact fun F4 H4 σ4 rl4 s4 => ok F4 H4 σ4 rl4 ((x1.ff.trans s3).trans s4)
      | rt d => cases e'; exact ok
      | rf d => cases e'; exact ok
      | rp d ds => cases e'; exact ok
      | rg d p r => cases e'; exact ok
      | rgf d p r => cases e'; exact ok
  ·left
   have hieq : i = its.length := by omega
   subst hieq
   rw [drop_length] at e'
   have e' : some (Out.nx ρ') = some o := e'
   cases e'
   exact ⟨I.stop F' H' sf rl'.fh, ok F' H' σ' rl' (x1.ff.trans sf)⟩
end
end
section
def A5 (src : List (Option Nat)) (ρ : Ro) : Ro := src.map fun o => o.bind fun i => match ρ[i]? with | some (some (.sh d)) => some (.sh d) | _ => none
def g7 (g : Tg) (c : MB) (elt : ME) : List D -> Ro -> List D -> Option (List D)
 | [], _, acc => some acc
 | d :: ds, ρ, acc => match tgD g d ρ with
  | some ρ1 => match c ρ1 with
   | some true => match elt ρ1 with
    | some x => if acc.length < sizeLine then g7 g c elt ds ρ1 (acc ++ [x]) else none
    | none => none
   | some false => g7 g c elt ds ρ1 acc
   | none => none
  | none => none
@[irreducible] def u9 (src : List (Option Nat)) (mi : ML) (g : Tg) (c : MB) (elt : ME) : ML := fun ρ => (mi ρ).bind fun its => g7 g c elt its (A5 src ρ) []
def NoOwn (ρ : Ro) : Prop := ∀ (i : Nat) ds, ρ[i]? ≠ some (some (.own ds)) /\ (∀ p, ρ[i]? ≠ some (some (.ob p ds))) /\ ∀ p, ρ[i]? ≠ some (some (.rd p ds))
theorem Rl.blk {K : W.Frag} {F0 H0 F H : Hp} {σ : St} {ρ : Ro} (r : Rl K F0 H0 F H σ ρ) (src : List (Option Nat)) : Rl K F H F H (blk0 src σ) (A5 src ρ) /\ NoOwn (A5 src ρ) := by
 have no1 : ∀ (i : Nat) x, (A5 src ρ)[i]? = some (some x) -> ∃ d, x = S.sh d := fun i x e => by
  unfold A5 at e
  rw [getElem?_map] at e
  cases h : src[i]? with
  | none => rw [h] at e; cases e
  | some o =>
   rw [h] at e
   cases o with
   | none => cases e
   | some k =>
    simp only [Option.map_some, Option.bind_some] at e
    split at e
    ·cases e; exact ⟨_, rfl⟩
    ·cases e
 have no : NoOwn (A5 src ρ) := fun i ds => ⟨fun e => (by obtain ⟨d, z⟩ := no1 i _ e; cases z), fun p e => (by obtain ⟨d, z⟩ := no1 i _ e; cases z), fun p e => (by obtain ⟨d, z⟩ := no1 i _ e; cases z)⟩
 refine ⟨⟨.refl r.fh, by unfold blk0 A5; simp, fun i d e => ?_, fun i ds e => absurd e (no i ds).1, fun i j p ds es _ e => absurd e (no i ds).1, fun i p ds e => absurd e ((no i ds).2.1 p), fun i j p ds es e => absurd e ((no i ds).2.1 p), fun i j p q ds es e => absurd e ((no i ds).2.1 p), fun i q ds e => absurd e ((no i ds).2.2 q)⟩, no⟩
 unfold A5 at e
 unfold blk0
 rw [getElem?_map] at e ⊢
 cases h : src[i]? with
 | none => rw [h] at e; cases e
 | some o =>
  rw [h] at e
  cases o with
  | none => cases e
  | some k =>
   simp only [Option.map_some, Option.bind_some] at e ⊢
   split at e
   ·rename_i d' h'
    cases e
    obtain ⟨v, e1, e2⟩ := r.sh k _ h'
    exact ⟨v, by rw [e1]; rfl, e2⟩
   ·cases e
def NoRd (ρ : Ro) : Prop := ∀ (i : Nat) q ds, ρ[i]? ≠ some (some (.rd q ds))
theorem NoRd.set {ρ : Ro} (h : NoRd ρ) (i : Nat) (d : D) : NoRd (ρ.set i (some (.sh d))) := fun j q ds e => h j q ds (S0 e).2
theorem NoRd.all : ∀ (is : List Nat) (ds : List D) {ρ ρ' : Ro}, NoRd ρ -> P3 is ds ρ = some ρ' -> NoRd ρ'
 | [], [], ρ, ρ', h, e => by cases e; exact h
 | [], _ :: _, _, _, _, e => by cases e
 | _ :: _, [], _, _, _, e => by cases e
 | i :: is, d :: ds, ρ, ρ', h, e => NoRd.all is ds (h.set i d) e
theorem NoRd.tg {g : Tg} {d : D} {ρ ρ' : Ro} (h : NoRd ρ) (e : tgD g d ρ = some ρ') : NoRd ρ' := by
 cases g with
 | nm i => cases e; exact h.set i d
 | tp is => cases d <;> first | (cases e; done) | exact NoRd.all is _ h e
 | nt i is =>
  cases d with
  | tup ds =>
   match ds, e with
   | [d, .tup ds], e => exact NoRd.all is _ (h.set i d) e
  | _ => cases e
theorem Rl.rebase {K : W.Frag} {F1 F H : Hp} {σ : St} {ρ : Ro} {p : Addr} {xs ys : List V} (r : Rl K F1 (upd F1 p (.lst xs)) F H σ ρ) (hF : F p = none) (hF1 : F1 p = none) (nr : NoRd ρ) : Rl K F1 (upd F1 p (.lst ys)) F (upd H p (.lst ys)) σ ρ := by
 have ne : ∀ q, upd F1 p (.lst xs) q = none -> q ≠ p := fun q z w => by rw [w, y3] at z; cases z
 refine ⟨⟨r.ext.ff, fun b u e => ?_, r.fh.put hF, fun b e n => ?_, r.ext.nf⟩, r.len, r.sh, fun i ds e => ?_, r.inj, fun i q ds e => ?_, r.obn, r.ob1, fun i q ds e => absurd e (nr i q ds)⟩
 ·by_cases hb : b = p
  ·subst hb; rw [y3] at e ⊢; exact e
  ·rw [y0 hb] at e ⊢
   exact r.ext.hh b u (by rw [y0 hb]; exact e)
 ·have hb : b ≠ p := fun w => by rw [w, hF] at n; exact n rfl
  rw [y0 hb]; exact e
 ·obtain ⟨q, zs, a, b, c, d, z⟩ := r.own i ds e
  have hq := ne q z
  rw [y0 hq] at z
  exact ⟨q, zs, a, b, by rw [y0 hq]; exact c, d, by rw [y0 hq]; exact z⟩
 ·obtain ⟨a, b, z, zs, c, d⟩ := r.ob i q ds e
  have hq := ne q z
  rw [y0 hq] at z
  exact ⟨a, b, by rw [y0 hq]; exact z, zs, by rw [y0 hq]; exact c, d⟩
theorem Ext.acc {F H F' H' : Hp} {p : Addr} {o : HO} (x : Ext F H F' H') (hp : H p = none) (hF : F' p = none) : Ext F H F' (upd H' p o) := ⟨x.ff, x.hh.put hp, x.fh.put hF, x.new, x.nf⟩
theorem Ext.stay {F' H' F3 H3 : Hp} {p : Addr} {o : HO} (x3 : Ext F' H' F3 H3) (hF' : F' p = none) (hH' : H' p = some o) : F3 p = none := by
 cases qq : F3 p with
 | none => rfl
 | some u => have := x3.new p hF' (by rw [qq]; simp); rw [this] at hH'; cases hH'
theorem Rl.noB {K : W.Frag} {F H : Hp} {σ : St} {ρ : Ro} {p : Addr} (r : Rl K F H F H σ ρ) (no : NoOwn ρ) (hp : H p = none) : Rl K F (upd F p (.lst [])) F (upd H p (.lst [])) σ ρ :=
 ⟨⟨Same.refl F, r.fh.put2, r.fh.put (r.fh.free hp), fun b e n => absurd e n, fun _ _ _ z => z⟩, r.len, r.sh, fun i ds e => absurd e (no i ds).1, r.inj, fun i p ds e => absurd e ((no i ds).2.1 p), r.obn, r.ob1, fun i q ds e => absurd e ((no i ds).2.2 q)⟩
theorem E9 {g : Tg} {c : MB} {elt : ME} {d : D} {ds acc out : List D} {ρ : Ro} (h : g7 g c elt (d :: ds) ρ acc = some out) : ∃ ρ1, tgD g d ρ = some ρ1 /\ ((c ρ1 = some false /\ g7 g c elt ds ρ1 acc = some out) \/ ∃ x, c ρ1 = some true /\ elt ρ1 = some x /\ acc.length < sizeLine /\ g7 g c elt ds ρ1 (acc ++ [x]) = some out) := by
 rw [g7] at h
 cases h2 : tgD g d ρ with
 | none => rw [h2] at h; cases h
 | some ρ1 =>
  rw [h2] at h
  simp only at h
  refine ⟨ρ1, rfl, ?_⟩
  cases h3 : c ρ1 with
  | none => rw [h3] at h; cases h
  | some k =>
   rw [h3] at h
   cases k with
   | false => exact .inl ⟨rfl, h⟩
   | true =>
    simp only at h
    cases h4 : elt ρ1 with
    | none => rw [h4] at h; cases h
    | some x =>
     rw [h4] at h
     simp only at h
     by_cases hz : acc.length < sizeLine
     ·rw [if_pos hz] at h; exact .inr ⟨x, rfl, rfl, hz, h⟩
     ·rw [if_neg hz] at h; cases h
theorem comp_loop {K : PySem.W.Frag} {src : List (Option Nat)} {g : Tg} {c : MB} {elt : ME} {its out : List D} {F1 H1 : Hp} {σ : St} {ρb : Ro} {p : Addr} {J : It} {Q : VK} (f1 : Same F1 H1) (hp : H1 p = none) (rb : Rl K F1 (upd F1 p (.lst [])) F1 (upd H1 p (.lst [])) (blk0 src σ) ρb) (nr : NoRd ρb) (I : ItD K F1 J its) (e : g7 g c elt its ρb [] = some out)
  (q : ∀ xs F' H', Ext F1 H1 F' H' -> F' p = none -> H' p = some (.lst xs) -> Reps K F' xs out -> Q (.ref p) H') :
  ∃ W : Nat -> Nat -> St -> Hp -> Prop, (∃ m, W 0 m (blk0 src σ) (upd H1 p (.lst []))) /\ ∀ i m σ' H', W i m σ' H' ->
   (J.stop i H' /\ Q (.ref p) H') \/ (J.go i H' /\ ∃ N : St -> Hp -> Prop, (∀ σ2 H2, N σ2 H2 -> ∃ m', m' < m /\ W (i + 1) m' σ2 H2) /\ ∀ x H2, J.yld i H' x H2 -> TGd K g x σ' H2 fun σ3 H3 => TC K c σ3 H3 fun b H4 =>
    if b = true then TD K elt σ3 H4 fun y H5 => ∃ xs, H5 p = some (.lst xs) /\ xs.length < sizeLine /\ N σ3 (upd H5 p (.lst (xs ++ [y]))) else N σ3 H4) := by
 have hF1 : F1 p = none := f1.free hp
 refine ⟨fun i m σ' H' => ∃ F' ρ' acc xs, Rl K F1 (upd F1 p (.lst xs)) F' H' σ' ρ' /\ Ext F1 H1 F' H' /\ H' p = some (.lst xs) /\ F' p = none /\ Reps K F' xs acc /\ i <= its.length /\ m = its.length - i /\ g7 g c elt (its.drop i) ρ' acc = some out /\ NoRd ρ',
  ⟨_, F1, ρb, [], [], rb, (Ext.refl f1).acc hp hF1, y3, hF1, .nil, Nat.zero_le _, rfl, e, nr⟩, ?_⟩
 clear rb e nr
 rintro i m σ' H' ⟨F', ρ', acc, xs, rl', xe, hH', hF', ra, hi', rfl, e', nr'⟩
 by_cases hlt : i < its.length
 ·right
  have hd := getElem?_eq_getElem hlt
  refine ⟨I.go i F' H' xe.ff rl'.fh hlt, fun σ2 H2 => ∃ F2 ρ2 acc2 xs2, Rl K F1 (upd F1 p (.lst xs2)) F2 H2 σ2 ρ2 /\ Ext F1 H1 F2 H2 /\ H2 p = some (.lst xs2) /\ F2 p = none /\ Reps K F2 xs2 acc2 /\ g7 g c elt (its.drop (i + 1)) ρ2 acc2 = some out /\ NoRd ρ2, ?_, fun x H2 y => ?_⟩
  ·rintro σ2 H2 ⟨F2, ρ2, acc2, xs2, b1, b2, b3, b4, b5, b6, b7⟩
   exact ⟨its.length - (i + 1), Nat.sub_lt_sub_left hlt (Nat.lt_succ_self i), F2, ρ2, acc2, xs2, b1, b2, b3, b4, b5, hlt, rfl, b6, b7⟩
  ·obtain ⟨F2, x2, r2⟩ := I.yld i F' H' x H2 _ xe.ff rl'.fh hd y
   rw [g6 hd] at e'
   obtain ⟨ρ1, h2, e3⟩ := E9 e'
   have nr1 := nr'.tg h2
   clear e' I q y hd
   refine ⟨F1, _, F2, ρ', _, ρ1, rl'.go x2, r2, h2, fun F3 H3 σ3 rl3 x3 => ?_⟩
   have x23 := x2.trans x3
   rcases e3 with ⟨h3, e4⟩ | ⟨d, h3, h4, hz, e4⟩
   ·refine ⟨F1, _, F3, ρ1, false, rl3, h3, fun F4 H4 x4 => ?_⟩
    have x24 := x23.trans x4
    exact iteF ⟨F4, ρ1, acc, xs, rl3.go x4, xe.trans x24, x24.hh _ _ hH', x24.stay hF' hH', ra.mono x24.ff, e4, nr1⟩
   ·refine ⟨F1, _, F3, ρ1, true, rl3, h3, fun F4 H4 x4 => iteT ⟨F1, _, F4, ρ1, d, rl3.go x4, h4, fun v F5 H5 x5 r5 => ?_⟩⟩
    have x25 := (x23.trans x4).trans x5
    have pn := x25.stay hF' hH'
    exact ⟨xs, x25.hh _ _ hH', by rw [ra.length]; exact hz, F5, ρ1, acc ++ [d], xs ++ [v], ((rl3.go x4).go x5).rebase pn hF1 nr1, (xe.trans x25).acc hp pn, y3, pn, (ra.mono x25.ff).append (.cons r5 .nil), e4, nr1⟩
 ·left
  have hieq : i = its.length := Nat.le_antisymm hi' (Nat.le_of_not_lt hlt)
  subst hieq
  rw [drop_length] at e'
  have e' : some acc = some out := e'
  cases e'
  exact ⟨I.stop F' H' xe.ff rl'.fh, q xs F' H' xe hF' hH' ra⟩
section
variable {X : Cx} {a b c e : Expr} {ma mb : ME} {pos : Pos} {st : Stmt} {rest : List Stmt}
def PTsd (X : Cx) (ifs : List Expr) (c : MB) : Prop := PTs X ifs (TC X.K c)
def cyes : MB := fun _ => some true
theorem j4 : PTsd X [] cyes := fun pins s σ H Q I hpat => by
 obtain ⟨F0, H0, F, ρ, b, rl, e, q⟩ := hpat
 cases e
 exact pts_nil pins s σ H Q I (q F H (.refl rl.fh))
theorem j3 {ca : MB} (h : PC' X c ca) : PTsd X [c] ca := pts_one h
theorem comp_tf {K : W.Frag} {src : List (Option Nat)} {mi : ML} {g : Tg} {c : MB} {elt : ME} {σ : St} {H : Hp} {Q : VK} (h : TF K (u9 src mi g c elt) σ H Q) : tComp src (TId K mi) (TGd K g) (TC K c) (TD K elt) σ H Q := by
 obtain ⟨F0, H0, F, ρ, out, rl, e, q⟩ := h
 unfold u9 at e
 cases h1 : mi ρ with
 | none => rw [h1] at e; cases e
 | some its =>
  rw [h1] at e
  refine ⟨F0, H0, F, ρ, its, rl, h1, fun J F1 H1 x1 I p hp => ?_⟩
  obtain ⟨rb, no⟩ := (rl.go x1).blk src
  exact comp_loop x1.fh hp (rb.noB no hp) (fun i q ds => (no i ds).2.2 q) I e fun xs F' H' xe hF' hH' ra => q p xs F' H' (x1.trans xe) (x1.hh.free hp) hF' hH' ra
theorem k8 {sc : Scope} {N : List Str} {src : List (Option Nat)} {tg elt iter : Expr} {ifs : List Expr} {mi : ML} {g : Tg} {cc : MB} {me : ME} (B : Blk X sc N src) (hc : X.calm = true)
  (hi : PId X tg iter mi) (hg : ∀ C fp s H, PGd (t9 X sc C N fp s H) tg g) (ht : ∀ C fp s H, PTsd (t9 X sc C N fp s H) ifs cc) (he : ∀ C fp s H, PD (t9 X sc C N fp s H) elt me)
  (hs : ∀ x, foldedSetIterable iter X.env x = pure x := by intro _; rfl) :
  PF X (.ListComp elt [⟨tg, iter, ifs, 0⟩] sc pos) (u9 src mi g cc me) := (pe_comp (g := TGd X.K g) (tc := TC X.K cc) (te := TD X.K me) B hc hi (fun C fp s H => hg C fp s H) (fun C fp s H => ht C fp s H) (fun C fp s H => he C fp s H) hs).imp fun _ _ _ h => comp_tf h
theorem pf_imp {mf : ML} {σ : St} {H : Hp} {Q : VK} (h : TD X.K (mlst mf) σ H Q) : TF X.K mf σ H Q := by
 obtain ⟨F0, H0, F, ρ, d, r, e, q⟩ := h
 unfold mlst at e
 cases hm : mf ρ with
 | none => rw [hm] at e; cases e
 | some ds =>
  rw [hm] at e; cases e
  refine ⟨F0, H0, F, ρ, ds, r, hm, fun p xs F' H' x hp hF hH rs => ?_⟩
  exact q _ (upd F' p (.lst xs)) H' (x.freeze hF hp hH) (.lst (SqL.of y3) (rs.mono ((Same.refl F').put hF)))
theorem zy9 {i : Nat} {src : List (Option Nat)} {mi : ML} {g : Tg} {cc : MB} {me : ME} (h : PS X st (tAsg (tComp src (TId X.K mi) (TGd X.K g) (TC X.K cc) (TD X.K me)) (S8 i))) : PSd X st (mset i (mlst (u9 src mi g cc me))) := asg_d h fun _ _ _ q => comp_tf (pf_imp q)
def Y6 (c : MB) (body : MS) : Nat -> MS
 | 0, _ => none
 | n + 1, ρ => match c ρ with
  | some true => match body ρ with
   | some (.nx ρ2) => Y6 c body n ρ2
   | some (.ct ρ2) => Y6 c body n ρ2
   | some (.bk ρ2) => some (.nx ρ2)
   | o => o
  | some false => some (.nx ρ)
  | none => none
theorem zy7 {body : List Stmt} {ca : MB} {mb : MS} (n : Nat) (hp : PassesOwn (model X.prog X.w) X.A X.env X.xe) (hc : PC' X c ca) (hb : PSsd X body mb) : PSd X (.While c body [] pos) (Y6 ca mb n) := (ps_while hp hc hb).imp fun Dn σ H hpat => by
 obtain ⟨F0, H0, F, ρ, o, rl, e, ok⟩ := hpat
 refine ⟨fun m σ' H' => ∃ F' ρ', Rl X.K F0 H0 F' H' σ' ρ' /\ Same F F' /\ Y6 ca mb m ρ' = some o, ⟨n, F, ρ, rl, Same.refl _, e⟩, ?_⟩
 rintro m σ' H' ⟨F', ρ', rl', sf, e'⟩
 cases m with
 | zero => cases e'
 | succ m =>
  unfold Y6 at e'
  cases h1 : ca ρ' with
  | none => simp only [h1] at e'; cases e'
  | some k =>
   refine ⟨F0, H0, F', ρ', k, rl', h1, fun F1 H1 x1 => ?_⟩
   cases k with
   | false =>
    simp only [h1] at e'
    cases e'
    exact iteF (ok F1 H1 σ' (rl'.go x1) (sf.trans x1.ff))
   | true =>
    simp only [h1] at e'
    refine iteT ⟨fun σ2 H2 => ∃ F2 ρ2, Rl X.K F0 H0 F2 H2 σ2 ρ2 /\ Same F F2 /\ Y6 ca mb m ρ2 = some o, fun σ2 H2 ⟨F2, ρ2, a1, a2, a3⟩ => ⟨m, Nat.lt_succ_self m, F2, ρ2, a1, a2, a3⟩, ?_⟩
    cases h2 : mb ρ' with
    | none => simp only [h2] at e'; cases e'
    | some o1 =>
     simp only [h2] at e'
     refine ⟨F0, H0, F1, ρ', o1, rl'.go x1, h2, ?_⟩
     have s1 := sf.trans x1.ff
     cases o1 with
     | nx ρ2 => exact fun F4 H4 σ4 rl4 s4 => ⟨F4, ρ2, rl4, s1.trans s4, e'⟩
     | ct ρ2 => exact fun F4 H4 σ4 rl4 s4 => ⟨F4, ρ2, rl4, s1.trans s4, e'⟩
     | bk ρ2 => cases e'; exact fun F4 H4 σ4 rl4 s4 => ok F4 H4 σ4 rl4 (s1.trans s4)
     | rt d => cases e'; exact ok
     | rf d => cases e'; exact ok
     | rp d ds => cases e'; exact ok
     | rg d p r => cases e'; exact ok
     | rgf d p r => cases e'; exact ok
inductive Rt where
 | sh (d : D) | fr (ds : List D) | pr (d : D) (ds : List D)
abbrev MF := List D -> Option Rt
def okT (K : W.Frag) (F H : Hp) (Q : VK) : Rt -> Prop
 | .sh d => ∀ v F' H', Ext F H F' H' -> Rep K F' v d -> Q v H'
 | .fr ds => ∀ p xs F' H', Ext F H F' H' -> H p = none -> F' p = none -> H' p = some (.lst xs) -> Reps K F' xs ds -> Q (.ref p) H'
 | .pr d ds => ∀ t v p xs F' H', Ext F H F' H' -> H t = none -> H p = none -> t ≠ p -> F' t = none -> F' p = none -> H' t = some (.tup [v, .ref p]) -> H' p = some (.lst xs) -> Rep K F' v d -> Reps K F' xs ds -> Q (.ref t) H'
def spR (K : W.Frag) (n : Nat) (m : MF) : Sp := fun vs H Q _ => vs.length = n /\ ∃ F ds r, Same F H /\ Reps K F vs ds /\ m ds = some r /\ okT K F H Q r
def g9 (n : Nat) (ds : List D) : Ro := ds.map (fun d => some (.sh d)) ++ List.replicate (n - ds.length) none
def runB (n : Nat) (m : MS) : MF := fun ds => match m (g9 n ds) with
 | some (.nx _) => some (.sh .non)
 | some (.rt d) => some (.sh d)
 | some (.rf es) => some (.fr es)
 | some (.rp d es) => some (.pr d es)
 | _ => none
theorem rl_start {K : W.Frag} {F H : Hp} {N : List Str} {vs : List V} {ds : List D} (s : Same F H) (r : Reps K F vs ds) : Rl K F H F H (start N vs) (g9 N.length ds) := by
 have get : ∀ (i : Nat) x, (g9 N.length ds)[i]? = some (some x) -> ∃ d, x = S.sh d /\ ds[i]? = some d := fun i x e => by
  unfold g9 at e
  by_cases hi : i < ds.length
  ·rw [getElem?_append_left (by simpa using hi), getElem?_map] at e
   cases q : ds[i]? with
   | none => rw [q] at e; cases e
   | some d => rw [q] at e; cases e; exact ⟨d, rfl, rfl⟩
  ·rw [getElem?_append_right (by simpa using hi), getElem?_replicate] at e
   split at e <;> cases e
 refine ⟨.refl s, ?_, fun i d e => ?_, fun i ds e => ?_, fun i j p ds es _ e => ?_, fun i p ds e => ?_, fun i j p ds es e => ?_, fun i j p q ds es e => ?_, fun i q ds e => (by obtain ⟨d', e1, _⟩ := get i _ e; cases e1)⟩
 ·unfold start g9; simp [r.length]
 ·obtain ⟨d', e1, e2⟩ := get i _ e
  cases e1
  obtain ⟨v, e3, e4⟩ := r.get e2
  have hl : i < vs.length := (List.getElem?_eq_some_iff.mp e3).1
  refine ⟨v, ?_, e4⟩
  unfold start
  rw [getElem?_append_left (by simpa using hl), getElem?_map, e3]; rfl
 ·obtain ⟨d', e1, _⟩ := get i _ e
  cases e1
 ·obtain ⟨d', e1, _⟩ := get i _ e
  cases e1
 ·obtain ⟨d', e1, _⟩ := get i _ e
  cases e1
 ·obtain ⟨d', e1, _⟩ := get i _ e
  cases e1
 ·obtain ⟨d', e1, _⟩ := get i _ e
  cases e1
theorem Fun.okD {P : Program} {w : World} {K : W.Frag} {mg : Str -> Option Value} {base : Heap} {x qual : Str} {st : Stmt} {f : Addr} {fd : FuncData} {N ps : List Str} {k : Nat} {m : MS} (Fn : Fun K x qual st f fd) (Sc : FnScope N ps (z9 st))
  (hbody : ∀ (cdv : Value) (A : Around) (outer : List Env) (s : Shared) (H : Hp) (E : XK), Room k (A.deeper (envOfC qual (z9 st) s.heap.objs.size f cdv)) -> PSsd (cxOf CX0 P w K mg base N qual (z9 st) f cdv A outer s H E).nox (i9 st) m) :
  FnOk P w K mg base CX0 (k + 1) f fd ps (spR K ps.length (runB N.length m)) := by
 refine Fn.ok Sc (fun vs H Q E h => h.1) fun cdv A outer s H vs Q E hr h => ?_
 obtain ⟨hl, F, ds, r, sf, rs, e, ok⟩ := h
 unfold runB at e
 cases h1 : m (g9 N.length ds) with
 | none => rw [h1] at e; cases e
 | some o =>
  rw [h1] at e
  refine ⟨_, hbody cdv A outer s H E hr, F, H, F, g9 N.length ds, o, rl_start sf rs, h1, ?_⟩
  cases o with
  | nx ρ => cases e; exact fun F' H' σ' rl _ => ok .non F' H' rl.ext .non
  | rt d => cases e; exact ok
  | rf es => cases e; exact ok
  | rp d es => cases e; exact ok
  | rg d p r => cases e
  | rgf d p r => cases e
  | bk ρ => cases e
  | ct ρ => cases e
@[irreducible] def t8 (f : MF) (m : ML) : ME := fun ρ => (m ρ).bind fun ds => match f ds with | some (.sh d) => some d | some (.fr es) => some (.lst es) | some (.pr d es) => some (.tup [d, .lst es]) | none => none
@[irreducible] def K2 (f : MF) (m : ML) : ML := fun ρ => (m ρ).bind fun ds => match f ds with | some (.fr es) => some es | _ => none
variable {E : XK} {es : List Expr} {mf : MF} {m : ML}
theorem w8 {n : Nat} (h : ∀ t, PA X es t -> PE X e (tCall (spR X.K n mf) [] E t)) (hl : es.length = n) (ha : PAs X es m) (hm : ∀ ρ ds, m ρ = some ds -> ds.length = es.length) : PD X e (t8 mf m) := (h _ ha).imp fun σ H Q hpat => by
 obtain ⟨F0, H0, F, ρ, d, rl, e, q⟩ := hpat
 unfold t8 at e
 cases h1 : m ρ with
 | none => rw [h1] at e; cases e
 | some ds =>
  rw [h1] at e
  refine ⟨F0, H0, F, ρ, ds, rl, h1, fun vs F1 H1 x1 r1 => ?_⟩
  dsimp only [Option.bind] at e
  show spR X.K n mf (vs ++ []) H1 Q E
  rw [append_nil]
  refine ⟨by rw [r1.length, hm ρ ds h1, hl], F1, ds, ?_⟩
  split at e
  ·rename_i d' h2
   cases e
   exact ⟨_, x1.fh, r1, h2, fun v F2 H2 x2 r2 => q v F2 H2 (x1.trans x2) r2⟩
  ·rename_i es' h2
   cases e
   exact ⟨_, x1.fh, r1, h2, fun p xs F2 H2 x2 hp hF hH r2 => q _ (upd F2 p (.lst xs)) H2 (x1.trans (x2.freeze hF hp hH)) (.lst (SqL.of y3) (r2.mono ((Same.refl F2).put hF)))⟩
  ·rename_i d' es' h2
   cases e
   refine ⟨_, x1.fh, r1, h2, fun t v p xs F2 H2 x2 ht hp hne hFt hFp hHt hHp rv rs => ?_⟩
   have x3 := x2.freeze hFp hp hHp
   have hFt' : upd F2 p (.lst xs) t = none := by rw [y0 hne]; exact hFt
   have s2 : Same F2 (upd F2 p (.lst xs)) := (Same.refl F2).put hFp
   have s3 : Same (upd F2 p (.lst xs)) (upd (upd F2 p (.lst xs)) t (.tup [v, .ref p])) := (Same.refl _).put hFt'
   exact q _ (upd (upd F2 p (.lst xs)) t (.tup [v, .ref p])) H2 (x1.trans (x3.freeze hFt' ht hHt)) (.tup (SqT.of y3) (.cons (rv.mono (s2.trans s3)) (.cons (.lst (SqL.of (by rw [y0 (Ne.symm hne)]; exact y3)) (rs.mono (s2.trans s3))) .nil)))
  ·cases e
theorem pf_call {n : Nat} (h : ∀ t, PA X es t -> PE X e (tCall (spR X.K n mf) [] E t)) (hl : es.length = n) (ha : PAs X es m) (hm : ∀ ρ ds, m ρ = some ds -> ds.length = es.length) : PF X e (K2 mf m) := (h _ ha).imp fun σ H Q hpat => by
 obtain ⟨F0, H0, F, ρ, d, rl, e, q⟩ := hpat
 unfold K2 at e
 cases h1 : m ρ with
 | none => rw [h1] at e; cases e
 | some ds =>
  rw [h1] at e
  refine ⟨F0, H0, F, ρ, ds, rl, h1, fun vs F1 H1 x1 r1 => ?_⟩
  dsimp only [Option.bind] at e
  show spR X.K n mf (vs ++ []) H1 Q E
  rw [append_nil]
  refine ⟨by rw [r1.length, hm ρ ds h1, hl], F1, ds, ?_⟩
  split at e
  ·rename_i es' h2
   cases e
   exact ⟨_, x1.fh, r1, h2, fun p xs F2 H2 x2 hp hF hH r2 => q p xs F2 H2 (x1.trans x2) (x1.hh.free hp) hF hH r2⟩
  ·cases e
theorem anil_len (ρ : Ro) (ds : List D) (h : anil ρ = some ds) : ds.length = 0 := by cases h; rfl
theorem J4 {x : ME} {r : ML} {n : Nat} (hr : ∀ ρ ds, r ρ = some ds -> ds.length = n) (ρ : Ro) (ds : List D) (h : z5 x r ρ = some ds) : ds.length = n + 1 := by
 obtain ⟨d, es, _, h2, rfl⟩ := D1 h
 rw [length_cons, hr ρ es h2]
end
end
section
section
variable {X : Cx} {a b c e : Expr} {ma mb : ME} {pos : Pos}
def bl2 (g : Bool -> Bool -> Bool) : D -> D -> Option D
 | .bl i, .bl j => some (.bl (g i j))
 | _, _ => none
def rRng2 : List V -> Hp -> VK -> Prop := fun vs H Q => ∃ i j : Int, vs = [.int i, .int j] /\ ∀ p, H p = none -> Q (.ref p) (upd H p (.rng i j))
theorem call_rng2 : CallR X (.type "range") rRng2 := by
 intro pins s σ H xs us Q I r h
 obtain ⟨i, j, rfl, q⟩ := h
 obtain ⟨u, w, rfl, ⟨t, rfl⟩, ⟨t', rfl⟩⟩ := vals2 r
 refine call_range_2 ⟨.ref s.heap.objs.size, _, I.laid (o := .rng i j) (fun b o e => Heap.get?_push_of_some _ e) (Nat.le_refl _) ⟨_, _, _, Heap.get?_push_size _ rfl⟩, rfl, q _ I.fresh⟩
theorem M9 {K : W.Frag} {F : Hp} : ∀ ns : List Int, Reps K F (ns.map V.int) (ns.map D.int)
 | [] => .nil
 | n :: ns => .cons (.int n) (M9 ns)
theorem sp_Z17 {K : W.Frag} {m : MF} (h : ∀ ns : List Int, ns.length <= 63 -> m [.lst (ns.map .int)] = some (.sh (.bl true))) (H : Hp) (a : Addr) (ns : List Int) (hl : ns.length <= 63) (hS : SqL K H a (ns.map V.int)) (E : XK) :
  spR K 1 m [.ref a] H (fun v _ => v = .bl true) E :=
 ⟨rfl, H, _, _, Same.refl H, .cons (.lst hS (M9 ns)) .nil, h ns hl, fun v F' H' _ r => by cases r; rfl⟩
end
end
section
def blkOk (fsc : Scope) (fN : List Str) (sc : Scope) (N : List Str) (src : List (Option Nat)) : Bool :=
 (sc.kind == .function) && sc.names.all (fun y => y.2 != .cell) && sc.names.all (fun y => y.2 != .local || sc.names.lookup y.1 == some .local)
  && sc.names.all (fun y => y.2 != .free || (fsc.names.lookup y.1 == some .cell || fsc.names.lookup y.1 == some .free)) && (src.length == N.length)
  && (List.range src.length).all fun j => match src[j]? with
   | some (some i) => match N[j]? with
    | some x => fN[i]? == some x && sc.names.lookup x == some .free
    | none => false
   | _ => true
theorem k5 {X : Cx} {sc : Scope} {N : List Str} {src : List (Option Nat)} (fsc : Scope) (fN : List Str) (h1 : X.env.scope = fsc) (h2 : X.N = fN) (h : blkOk fsc fN sc N src = true) : Blk X sc N src := by
 unfold blkOk at h
 simp only [Bool.and_eq_true, all_eq_true, beq_iff_eq, Bool.or_eq_true, bne_iff_ne, ne_eq] at h
 obtain ⟨⟨⟨⟨⟨a1, a2⟩, a3⟩, a4⟩, a5⟩, a6⟩ := h
 refine ⟨a1, a2, fun y hy hk => ?_, fun y hy hk => ?_, fun j i e => ?_, a5⟩
 ·rcases a3 y hy with z | z
  ·exact absurd hk z
  ·exact z
 ·have k : ∀ x, X.env.kindOf x = fsc.names.lookup x := fun x => by rw [<- h1]; rfl
  rw [k]
  rcases a4 y hy with z | z
  ·exact absurd hk z
  ·exact z
 ·have hj : j < src.length := (List.getElem?_eq_some_iff.mp e).1
  have := a6 j (List.mem_range.mpr hj)
  rw [e] at this
  simp only at this
  cases hx : N[j]? with
  | none => rw [hx] at this; cases this
  | some x =>
   rw [hx] at this
   simp only [Bool.and_eq_true, beq_iff_eq] at this
   exact ⟨x, rfl, by rw [h2]; exact this.1, this.2⟩
end
section
theorem zx1 {X : Cx} {a : Expr} {ml : ML} {lo hi : Option Expr} {l h : MO} {p2 pos : Pos} (ha : PB X a ml) (hl : POs X lo l) (hh : POs X hi h) : PF X (.Subscript a (.Slice lo hi none p2) pos) (mcut ml l h) := pf_cut ha hl hh (pe_slice sl_list ha hl hh)
end
section
def zipE (f : D -> D -> Option Bool) : List D -> List D -> Option Bool
 | d :: ds, e :: es => (f d e).bind fun a => (zipE f ds es).bind fun b => some (a && b)
 | _, _ => some true
def eqF : Nat -> D -> D -> Option Bool
 | 0, _, _ => none
 | n + 1, .lst ds, .lst es => if ds.length = es.length then zipE (eqF n) ds es else some false
 | n + 1, .tup ds, .tup es => (zipE (eqF n) ds es).map fun b => b && ds.length == es.length
 | _ + 1, d, e => eqS d e
theorem D2 {f : D -> D -> Option Bool} : ∀ {ds es : List D} {k : Bool}, zipE f ds es = some k -> ∃ g : Nat -> Bool, (∀ j d e, ds[j]? = some d -> es[j]? = some e -> f d e = some (g j)) /\ k = (List.range (min ds.length es.length)).all g
 | [], es, k, h => by
  have h : some true = some k := by simpa [zipE] using h
  cases h
  exact ⟨fun _ => true, by simp, by simp⟩
 | _ :: _, [], k, h => by
  have h : some true = some k := by simpa [zipE] using h
  cases h
  exact ⟨fun _ => true, by simp, by simp⟩
 | d :: ds, e :: es, k, h => by
  unfold zipE at h
  cases h1 : f d e with
  | none => rw [h1] at h; cases h
  | some a =>
   rw [h1] at h
   cases h2 : zipE f ds es with
   | none => rw [h2] at h; cases h
   | some b =>
    rw [h2] at h
    have h : some (a && b) = some k := h
    cases h
    obtain ⟨g, q1, q2⟩ := D2 h2
    refine ⟨fun j => match j with | 0 => a | j + 1 => g j, ?_, ?_⟩
    ·intro j d' e' hd he
     cases j with
     | zero => simp at hd he; subst hd he; exact h1
     | succ j => exact q1 j d' e' (by simpa using hd) (by simpa using he)
    ·rw [q2, length_cons, length_cons, Nat.add_min_add_right, range_succ_eq_map, all_cons, all_map]
     rfl
section
variable {X : Cx} {pins : List (Addr × Obj)} {σ : St} {H : Hp} {s : Shared}
theorem M4 {f : D -> D -> Option Bool} (hf : ∀ {v : V} {d e : D} {k : Bool}, Rep X.K H v d -> Rep X.K H v e -> f d e = some k -> k = true) : ∀ {vs : List V} {ds es : List D} {k : Bool}, Reps X.K H vs ds -> Reps X.K H vs es -> zipE f ds es = some k -> k = true
 | _, _, _, _, .nil, .nil, h => by simp [zipE] at h; exact h
 | _ :: _, d :: ds, e :: es, k, .cons r1 s1, .cons r2 s2, h => by
  unfold zipE at h
  cases h1 : f d e with
  | none => rw [h1] at h; cases h
  | some a =>
   rw [h1] at h
   cases h2 : zipE f ds es with
   | none => rw [h2] at h; cases h
   | some b =>
    rw [h2] at h
    have h : some (a && b) = some k := h
    cases h
    rw [hf r1 r2 h1, M4 hf s1 s2 h2]; rfl
theorem Rep.eqT (I : Inv X pins σ H s) : ∀ (n : Nat) {v : V} {d e : D} {k : Bool}, Rep X.K H v d -> Rep X.K H v e -> eqF n d e = some k -> k = true
 | 0, _, _, _, _, _, _, h => by simp [eqF] at h
 | n + 1, v, d, e, k, r1, r2, h => by
  cases r1 with
  | non => cases r2; exact (Option.some.inj (show some true = some k from h)).symm
  | bl b => cases r2; exact (Option.some.inj (show some (b == b) = some k from h)).symm.trans (beq_self_eq_true b)
  | int b => cases r2; exact (Option.some.inj (show some (b == b) = some k from h)).symm.trans (beq_self_eq_true b)
  | str b => cases r2; exact (Option.some.inj (show some (b == b) = some k from h)).symm.trans (beq_self_eq_true b)
  | lst sq rs =>
   cases r2 with
   | lst sq2 rs2 =>
    have e := I.list_inj sq sq2
    subst e
    simp only [eqF] at h
    split at h
    ·exact M4 (fun a b c => Rep.eqT I n a b c) rs rs2 h
    ·rename_i hl; exact absurd (rs.length.symm.trans rs2.length) hl
   | _ => cases h
  | tup sq rs =>
   cases r2 with
   | tup sq2 rs2 =>
    have e := I.tuple_inj sq sq2
    subst e
    simp only [eqF] at h
    cases hz : zipE (eqF n) _ _ with
    | none => rw [hz] at h; cases h
    | some kk =>
     rw [hz] at h
     have h := Option.some.inj h
     rw [<- h, M4 (fun a b c => Rep.eqT I n a b c) rs rs2 hz, rs.length.symm.trans rs2.length]
     simp
   | _ => cases h
  | _ => cases h
open PySem.SeqAt in
theorem eqS_at {K : W.Frag} {H : Hp} {A : Around} {s : Shared} {x y : V} {v u : Value} {d e : D} {k : Bool} (r1 : Rep K H x d) (r2 : Rep K H y e) (q1 : RelV x v) (q2 : RelV y u) (h : eqS d e = some k) : EqAt A s v u k /\ RcAt A s v u k /\ RcNeAt A s v u (!k) := by
 obtain ⟨k', hk'⟩ := eqS_sym d e k h
 rw [eqS_l h r1] at q1
 rw [eqS_l hk' r2] at q2
 clear r1 r2 hk'
 cases d with
 | non =>
  cases q1
  cases e with
  | non => cases q2; cases h; exact ⟨EqAt.same _, .none_none, .none_none⟩
  | bl b => cases q2; cases h; exact ⟨.none_bool _, .none_bool _, .none_bool _⟩
  | int b => obtain ⟨t, rfl⟩ := q2; cases h; exact ⟨.none_int _ _, .none_int _ _, .none_int _ _⟩
  | str b => obtain ⟨t, rfl⟩ := q2; cases h; exact ⟨.none_str _ _, .none_str _ _, .none_str _ _⟩
  | _ => cases h
 | bl i =>
  cases q1
  cases e with
  | non => cases q2; cases h; exact ⟨.bool_none _, .bool_none _, .bool_none _⟩
  | bl b => cases q2; cases h; exact ⟨.bool_bool _ _, .bool_bool _ _, .bool_bool _ _⟩
  | str b => obtain ⟨t, rfl⟩ := q2; cases h; exact ⟨.bool_str _ _ _, .bool_str _ _ _, .bool_str _ _ _⟩
  | _ => cases h
 | int i =>
  obtain ⟨t0, rfl⟩ := q1
  cases e with
  | non => cases q2; cases h; exact ⟨.int_none _ _, .int_none _ _, .int_none _ _⟩
  | int b => obtain ⟨t, rfl⟩ := q2; cases h; exact ⟨.int_int _ _ _ _, .int_int _ _ _ _, .int_int _ _ _ _⟩
  | str b => obtain ⟨t, rfl⟩ := q2; cases h; exact ⟨.int_str _ _ _ _, .int_str _ _ _ _, .int_str _ _ _ _⟩
  | _ => cases h
 | str i =>
  obtain ⟨t0, rfl⟩ := q1
  cases e with
  | non => cases q2; cases h; exact ⟨.str_none _ _, .str_none _ _, .str_none _ _⟩
  | bl b => cases q2; cases h; exact ⟨.str_bool _ _ _, .str_bool _ _ _, .str_bool _ _ _⟩
  | int b => obtain ⟨t, rfl⟩ := q2; cases h; exact ⟨.str_int _ _ _ _, .str_int _ _ _ _, .str_int _ _ _ _⟩
  | str b => obtain ⟨t, rfl⟩ := q2; cases h; exact ⟨.str_str _ _ _ _, .str_str _ _ _ _, .str_str _ _ _ _⟩
  | _ => cases h
 | _ => cases h
theorem eqF_inv {n : Nat} {d e : D} {k : Bool} (h : eqF (n + 1) d e = some k) : eqS d e = some k \/ (∃ ds es, d = .lst ds /\ e = .lst es /\ (if ds.length = es.length then zipE (eqF n) ds es else some false) = some k) \/ ∃ ds es kk, d = .tup ds /\ e = .tup es /\ zipE (eqF n) ds es = some kk /\ (kk && ds.length == es.length) = k := by
 cases d with
 | lst ds =>
  cases e with
  | lst es => exact .inr (.inl ⟨ds, es, rfl, rfl, h⟩)
  | _ => exact .inl h
 | tup ds =>
  cases e with
  | tup es =>
   have h : ((zipE (eqF n) ds es).map fun b => b && ds.length == es.length) = some k := h
   cases hz : zipE (eqF n) ds es with
   | none => rw [hz] at h; cases h
   | some kk => rw [hz] at h; exact .inr (.inr ⟨ds, es, kk, rfl, rfl, hz, Option.some.inj h⟩)
  | _ => exact .inl h
 | _ => exact .inl h
theorem items_at {K : W.Frag} {H : Hp} {A : Around} {s : Shared} {n : Nat} {xs ys : List V} {ds es : List D} {its its2 : List Value} {g : Nat -> Bool} (ih : ∀ {x y : V} {v u : Value} {d e : D} {k : Bool}, Rep K H x d -> Rep K H y e -> RelV x v -> RelV y u -> eqF n d e = some k -> PySem.SeqAt.EqAt A s v u k) (rs : Reps K H xs ds) (rs2 : Reps K H ys es) (vr : Vals xs its) (vr2 : Vals ys its2)
  (g1 : ∀ (j : Nat) d e, ds[j]? = some d -> es[j]? = some e -> eqF n d e = some (g j)) (j : Nat) (h1 : j < its.toArray.size) (h2 : j < its2.toArray.size) : PySem.SeqAt.EqAt A s its.toArray[j] its2.toArray[j] (g j) := by
 have z1 : its.length = ds.length := by rw [<- vr.length, rs.length]
 have z2 : its2.length = es.length := by rw [<- vr2.length, rs2.length]
 simp only [size_toArray] at h1 h2
 obtain ⟨d', hd'⟩ : ∃ d', ds[j]? = some d' := ⟨_, getElem?_eq_getElem (z1 ▸ h1)⟩
 obtain ⟨e', he'⟩ : ∃ e', es[j]? = some e' := ⟨_, getElem?_eq_getElem (z2 ▸ h2)⟩
 obtain ⟨v', hv', rv'⟩ := rs.get hd'
 obtain ⟨u', hu', ru'⟩ := rs2.get he'
 obtain ⟨p, hp, rp⟩ := vr.get hv'
 obtain ⟨p2, hp2, rp2⟩ := vr2.get hu'
 have e1 : its.toArray[j] = p := by
  rw [getElem?_eq_getElem h1] at hp
  simpa using hp
 have e2 : its2.toArray[j] = p2 := by
  rw [getElem?_eq_getElem h2] at hp2
  simpa using hp2
 rw [e1, e2]
 exact ih rv' ru' rp rp2 (g1 j d' e' hd' he')
open PySem.SeqAt in
theorem eq_at (I : Inv X pins σ H s) : ∀ (n : Nat) {A : Around} {x y : V} {v u : Value} {d e : D} {k : Bool}, A.units + n < cLine -> Rep X.K H x d -> Rep X.K H y e -> RelV x v -> RelV y u -> eqF n d e = some k -> EqAt A s v u k /\ RcAt A s v u k /\ RcNeAt A s v u (!k)
 | 0, A, x, y, v, u, d, e, k, hu, r1, r2, q1, q2, h => by simp [eqF] at h
 | n + 1, A, x, y, v, u, d, e, k, hu, r1, r2, q1, q2, h => by
  have hu0 : A.units < cLine := by omega
  have hu1 : A.in1.units + n < cLine := by show A.units + 1 + n < cLine; omega
  rcases eqF_inv h with h1 | ⟨ds, es, rfl, rfl, h1⟩ | ⟨ds, es, kk, rfl, rfl, hz, hk⟩
  ·exact eqS_at r1 r2 q1 q2 h1
  ·obtain ⟨a, xs, rfl, sq, rs⟩ := r1.l'
   obtain ⟨b, ys, rfl, sq2, rs2⟩ := r2.l'
   cases q1; cases q2
   obtain ⟨its, vr, ⟨o, m, ho, hc, _, hd⟩, _⟩ := I.list sq
   obtain ⟨its2, vr2, ⟨o2, m2, ho2, hc2, _, hd2⟩, _⟩ := I.list sq2
   have L1 : s.heap.IsList a its.toArray := ⟨o, ho, hc, m, hd⟩
   have L2 : s.heap.IsList b its2.toArray := ⟨o2, ho2, hc2, m2, hd2⟩
   clear ho hc hd ho2 hc2 hd2
   have z1 : its.length = ds.length := by rw [<- vr.length, rs.length]
   have z2 : its2.length = es.length := by rw [<- vr2.length, rs2.length]
   have main : RcAt A s (.ref a) (.ref b) k /\ RcNeAt A s (.ref a) (.ref b) (!k) := by
    by_cases hl : ds.length = es.length
    ·rw [if_pos hl] at h1
     obtain ⟨g, g1, g2⟩ := D2 h1
     have he := items_at (fun a b c d e => (eq_at I n hu1 a b c d e).1) rs rs2 vr vr2 g1
     have hz : its.toArray.size = its2.toArray.size := by simp only [size_toArray]; rw [z1, z2, hl]
     have hk : k = (List.range its.toArray.size).all g := by
      rw [g2]; simp only [size_toArray]; rw [z1, hl, Nat.min_self]
     rw [hk]
     exact ⟨.lists L1 L2 hz hu0 he, .lists L1 L2 hz hu0 he⟩
    ·rw [if_neg hl] at h1
     cases h1
     have hz : (its.toArray.size != its2.toArray.size) = true := by simp only [size_toArray]; rw [z1, z2]; exact bne_iff_ne.mpr hl
     exact ⟨.lists_lengths L1 L2 hz hu0, .lists_lengths L1 L2 hz hu0⟩
   refine ⟨?_, main⟩
   by_cases hab : a = b
   ·subst hab
    rw [Rep.eqT I (n + 1) (.lst sq rs) (.lst sq2 rs2) h]
    exact EqAt.same _
   ·exact .of_refs hab main.1
  ·obtain ⟨a, xs, rfl, sq, rs⟩ := r1.t'
   obtain ⟨b, ys, rfl, sq2, rs2⟩ := r2.t'
   cases q1; cases q2
   obtain ⟨its, vr, ⟨o, ho, hc, m, hd⟩, _⟩ := I.tuple sq
   obtain ⟨its2, vr2, ⟨o2, ho2, hc2, m2, hd2⟩, _⟩ := I.tuple sq2
   have L1 : s.heap.IsTuple a its.toArray := ⟨o, ho, hc, m, hd⟩
   have L2 : s.heap.IsTuple b its2.toArray := ⟨o2, ho2, hc2, m2, hd2⟩
   clear ho hc hd ho2 hc2 hd2
   have z1 : its.length = ds.length := by rw [<- vr.length, rs.length]
   have z2 : its2.length = es.length := by rw [<- vr2.length, rs2.length]
   have main : RcAt A s (.ref a) (.ref b) k /\ RcNeAt A s (.ref a) (.ref b) (!k) := by
    obtain ⟨g, g1, g2⟩ := D2 hz
    have he := items_at (fun a b c d e => (eq_at I n hu1 a b c d e).1) rs rs2 vr vr2 g1
    have hk : k = ((List.range (min its.toArray.size its2.toArray.size)).all g && its.toArray.size == its2.toArray.size) := by
     rw [<- hk, g2]; simp only [size_toArray]; rw [z1, z2]
    rw [hk]
    exact ⟨.tuples L1 L2 hu0 he, .tuples L1 L2 hu0 he⟩
   refine ⟨?_, main⟩
   by_cases hab : a = b
   ·subst hab
    rw [Rep.eqT I (n + 1) (.tup sq rs) (.tup sq2 rs2) h]
    exact EqAt.same _
   ·exact .of_refs hab main.1
end
end
section
section
variable {X : Cx} {a b c e : Expr} {ma mb : ME} {la lb : ML} {pos : Pos}
def rEqF (K : W.Frag) (neg : Bool) : R2 := fun x y H Q => ∃ d e k, Rep K H x d /\ Rep K H y e /\ eqF 8 d e = some k /\ Q (.bl (if neg then !k else k)) H
theorem op_eqF (hu : X.A.units + 64 < cLine) : OpR X (compareOp .Eq) (rEqF X.K false) := by
 intro pins s σ H x y v u Q I rx ry h
 obtain ⟨d, e, k, r1, r2, h, q⟩ := h
 exact (eq_at I 8 (by omega) r1 r2 rx ry h).2.1 X.prog X.w _ _ ⟨.bl k, H, I, rfl, q⟩
theorem op_neF (hu : X.A.units + 64 < cLine) : OpR X (compareOp .NotEq) (rEqF X.K true) := by
 intro pins s σ H x y v u Q I rx ry h
 obtain ⟨d, e, k, r1, r2, h, q⟩ := h
 exact (eq_at I 8 (by omega) r1 r2 rx ry h).2.2 X.prog X.w _ _ ⟨.bl (!k), H, I, rfl, q⟩
def eqFD (neg : Bool) (d e : D) : Option D := (eqF 8 d e).map fun k => .bl (if neg then !k else k)
@[irreducible] def meqB (neg : Bool) (x y : ML) : ME := fun ρ => (x ρ).bind fun ds => (y ρ).bind fun es => eqFD neg (.lst ds) (.lst es)
theorem eqB_d {neg : Bool} {σ : St} {H : Hp} {Q : VK} (h : TD X.K (meqB neg la lb) σ H Q) : tOp (rEqF X.K neg) (TB X.K la) (TB X.K lb) σ H Q := by
 obtain ⟨F0, H0, F, ρ, g, rl, e, q⟩ := h
 unfold meqB at e
 cases h1 : la ρ with
 | none => rw [h1] at e; cases e
 | some ds =>
  cases h2 : lb ρ with
  | none => rw [h1, h2] at e; cases e
  | some es =>
   rw [h1, h2] at e
   have e : eqFD neg (.lst ds) (.lst es) = some g := e
   refine ⟨F0, H0, F, ρ, ds, rl, h1, fun p xs F1 H1 x1 s1 r1 => ⟨F0, H0, F1, ρ, es, rl.go x1, h2, fun p2 xs2 F2 H2 x2 s2 r2 => ?_⟩⟩
   unfold eqFD at e
   cases hk : eqF 8 (.lst ds) (.lst es) with
   | none => rw [hk] at e; cases e
   | some k =>
    rw [hk] at e; cases e
    exact ⟨_, _, k, .lst (x2.hh.seq s1) (r1.mono (x2.ff.trans x2.fh)), .lst s2 (r2.mono x2.fh), hk, q _ F2 H2 (x1.trans x2) (.bl _)⟩
theorem pd_eqB {op : CmpOp} {neg : Bool} (ho : OpR X (compareOp op) (rEqF X.K neg)) (ha : PB X a la) (hb : PB X b lb) (hm : behindInMarks op b = false) : PD X (.Compare a [op] [b] pos) (meqB neg la lb) := (pe_cmpR ho ha hb hm).imp fun _ _ _ h => eqB_d h
theorem pc_eqB {op : CmpOp} {neg : Bool} (ho : OpR X (compareOp op) (rEqF X.K neg)) (ha : PB X a la) (hb : PB X b lb) (hm : behindInMarks op b = false) : PC' X (.Compare a [op] [b] pos) (u6 (meqB neg la lb)) := (pt_cmpR ho ha hb hm).imp fun σ H Q hpat => by
 obtain ⟨F0, H0, F, ρ, g, rl, e, q⟩ := hpat
 unfold u6 at e
 split at e
 ·rename_i k hk
  cases e
  refine eqB_d ⟨F0, H0, F, ρ, .bl g, rl, hk, fun v F' H' x r => ?_⟩
  cases r
  exact ⟨_, rfl, q F' H' x⟩
 ·cases e
def tyD : D -> String
 | .non => "NoneType" | .bl _ => "bool" | .int _ => "int" | .str _ => "str" | .lst _ => "list" | .tup _ => "tuple" | .exc _ => "?" | .ptr _ => "?" | .obj _ _ _ => "?"
def kitB (t c : String) : Option Bool := if t = "?" then none else if (Value.type t == Value.type c) = true then some true else if W.kitMeta c = true then (fastBuiltinMro t).map (·.contains (Value.type c)) else none
theorem zw6 {K : W.Frag} {t c : String} {k : Bool} (h : kitB t c = some k) : t ≠ "?" /\ W.kitOne K (.type t) (.type c) = some k := by
 unfold kitB at h
 split at h
 ·cases h
 ·rename_i z; exact ⟨z, h⟩
theorem isi_rep {pins : List (Addr × Obj)} {σ : St} {H : Hp} {s : Shared} {A : Around} {E : Value -> Shared -> Prop} {Q : Value -> Shared -> Prop} {c : Value} {k : Bool} {x : V} {d : D} {u : Value} (I : Inv X pins σ H s) (rx : RelV x u) (r : Rep X.K H x d)
  (e : tyD d ≠ "?" /\ W.kitOne X.K (.type (tyD d)) c = some k) (h : ∀ tk, Q (.bool k) { s with toks := tk }) : wpAny (model X.prog X.w) A (call (.builtin "isinstance") [u, c]) Q E s := by
 obtain ⟨hz, e⟩ := e
 cases r with
 | exc _ _ => exact absurd rfl hz
 | ptr _ => exact absurd rfl hz
 | obj _ _ _ _ _ => exact absurd rfl hz
 | non => exact S6 I rx .non e h
 | bl y => exact S6 I rx (.bl y) e h
 | int i => exact S6 I rx (.int i) e h
 | str y => exact S6 I rx (.str y) e h
 | lst sq rs =>
  cases rx
  obtain ⟨its, vr, ⟨o, m, ho, hc, _, hd⟩, _⟩ := I.list sq
  exact W.kia_one W.kitx_list I.kIn ⟨_, ho, hc⟩ e (fun z => nomatch z) h
 | tup sq rs =>
  cases rx
  obtain ⟨its, vr, ⟨o, ho, hc, m, hd⟩, _⟩ := I.tuple sq
  exact W.kia_one W.kitx_tuple I.kIn ⟨_, ho, hc⟩ e (fun z => nomatch z) h
def rIsi (K : W.Frag) (c : String) : List V -> Hp -> VK -> Prop := fun vs H Q => ∃ x d k, vs = [x, .ty c] /\ Rep K H x d /\ kitB (tyD d) c = some k /\ Q (.bl k) H
theorem call_isi {c : String} : CallR X (.builtin "isinstance") (rIsi X.K c) := by
 intro pins s σ H xs us Q I r h
 obtain ⟨x, d, k, rfl, rd, e, q⟩ := h
 obtain ⟨u, w, rfl, rx, ry⟩ := vals2 r
 cases ry
 exact isi_rep I rx rd (zw6 e) fun tk => ⟨.bl k, H, I.tok _, rfl, q⟩
@[irreducible] def misi (c : String) (m : ME) : ME := fun ρ => (m ρ).bind fun d => (kitB (tyD d) c).map .bl
theorem Y8 {c : Str} {C : String} {p p2 : Pos} (hg : Gl X "isinstance") (hm : X.mg "isinstance" = none) (hgc : Gl X c) (hmc : X.mg c = none) (hv : bootBuiltins c = some (.type C)) (ha : PD X a ma)
  (hn : c ≠ "__name__" := by decide) (hd : (c == ("__debug__" : Str)) = false := by decide)
  (hs : starEach (a :: [.Name c p2]) X.env = (false, eval a X.env) :: starEach [.Name c p2] X.env := by rfl) (hs2 : starEach [.Name c p2] X.env = (false, eval (.Name c p2) X.env) :: starEach [] X.env := by rfl)
  (hpl : (backTo pos (starEach [.Name c p2] X.env)).any (·.1) = false := by rfl) : PD X (.Call (.Name "isinstance" p) [a, .Name c p2] [] pos) (misi C ma) :=
 (l7 (call_isi (c := C)) hg hm PyProof.Rows.boot_isinstance (u8 ha (u8 (pe_bltn (v := .ty C) hgc hmc hv rfl hn hd) pa_nil hs2) hs) (by decide) (by decide) hs hpl).imp fun σ H Q hpat => by
  obtain ⟨F0, H0, F, ρ, g, rl, e, q⟩ := hpat
  unfold misi at e
  cases h1 : ma ρ with
  | none => rw [h1] at e; cases e
  | some d =>
   rw [h1] at e
   have e : (kitB (tyD d) C).map D.bl = some g := e
   cases h2 : kitB (tyD d) C with
   | none => rw [h2] at e; cases e
   | some k =>
    rw [h2] at e; cases e
    exact ⟨F0, H0, F, ρ, d, rl, h1, fun v F1 H1 x1 r1 => ⟨v, d, k, rfl, r1.mono x1.fh, h2, q _ F1 H1 x1 (.bl _)⟩⟩
end
end
section
section
variable {X : Cx} {a b c e k : Expr} {te : TE} {ma mb : ME} {la lb : ML} {pos p2 : Pos} {st : Stmt}
end
end
section
section
variable {X : Cx} {a b c e : Expr} {ma mb : ME} {la lb : ML} {pos : Pos} {st : Stmt}
def zw7 (t c1 c2 : String) : Option Bool := match kitB t c1 with | some true => some true | some false => (match kitB t c2 with | some true => some true | some false => some false | none => none) | none => none
theorem kit_ty2 {K : W.Frag} {t c1 c2 : String} {k : Bool} (h : zw7 t c1 c2 = some k) : t ≠ "?" /\ W.kitAny K (.type t) [.type c1, .type c2] = some k := by
 unfold zw7 at h
 split at h
 ·rename_i q1
  obtain ⟨z, e⟩ := zw6 (K := K) q1
  refine ⟨z, ?_⟩
  unfold W.kitAny; rw [e]; exact h
 ·rename_i q1
  obtain ⟨z, e⟩ := zw6 (K := K) q1
  refine ⟨z, ?_⟩
  unfold W.kitAny; rw [e]
  split at h
  ·rename_i q2
   unfold W.kitAny; rw [(zw6 (K := K) q2).2]; exact h
  ·rename_i q2
   unfold W.kitAny; rw [(zw6 (K := K) q2).2]; exact h
  ·cases h
 ·cases h
theorem isi_rep2 {pins : List (Addr × Obj)} {σ : St} {H : Hp} {s : Shared} {A : Around} {E : Value -> Shared -> Prop} {Q : Value -> Shared -> Prop} {k : Bool} {x : V} {d : D} {u : Value} {tp : Addr} {dd : Option Addr} {its : List Value} {n : Nat} {sl : Array (Option Value)} (I : Inv X pins σ H s) (rx : RelV x u) (r : Rep X.K H x d)
  (htp : s.heap.get? tp = some ⟨.type "tuple", dd, .seq its.toArray n, sl⟩)
  (e : tyD d ≠ "?" /\ W.kitAny X.K (.type (tyD d)) its = some k) (h : ∀ tk, Q (.bool k) { s with toks := tk }) : wpAny (model X.prog X.w) A (call (.builtin "isinstance") [u, .ref tp]) Q E s := by
 obtain ⟨hz, e⟩ := e
 cases r with
 | exc _ _ => exact absurd rfl hz
 | ptr _ => exact absurd rfl hz
 | obj _ _ _ _ _ => exact absurd rfl hz
 | non => cases rx; exact W.kia_tup W.kitx_none I.kIn True.intro htp e (fun z => nomatch z) h
 | bl y => cases rx; exact W.kia_tup W.kitx_bool I.kIn True.intro htp e (fun z => nomatch z) h
 | int i => obtain ⟨t, rfl⟩ := rx; exact W.kia_tup W.kitx_int I.kIn True.intro htp e (fun z => nomatch z) h
 | str y => obtain ⟨t, rfl⟩ := rx; exact W.kia_tup W.kitx_str I.kIn True.intro htp e (fun z => nomatch z) h
 | lst sq rs =>
  cases rx
  obtain ⟨its, vr, ⟨o, m, ho, hc, _, hd⟩, _⟩ := I.list sq
  exact W.kia_tup W.kitx_list I.kIn ⟨_, ho, hc⟩ htp e (fun z => nomatch z) h
 | tup sq rs =>
  cases rx
  obtain ⟨its, vr, ⟨o, ho, hc, m, hd⟩, _⟩ := I.tuple sq
  exact W.kia_tup W.kitx_tuple I.kIn ⟨_, ho, hc⟩ htp e (fun z => nomatch z) h
def rIsi2 (K : W.Frag) (c1 c2 : String) : List V -> Hp -> VK -> Prop := fun vs H Q => ∃ x p d k, vs = [x, .ref p] /\ H p = some (.tup [.ty c1, .ty c2]) /\ Rep K H x d /\ zw7 (tyD d) c1 c2 = some k /\ Q (.bl k) H
theorem call_isi2 {c1 c2 : String} : CallR X (.builtin "isinstance") (rIsi2 X.K c1 c2) := by
 intro pins s σ H xs us Q I r h
 obtain ⟨x, p, d, k, rfl, hp, rd, e, q⟩ := h
 obtain ⟨u, w, rfl, rx, ry⟩ := vals2 r
 cases ry
 obtain ⟨z, its, vr, ⟨⟨cls, dd, data, sl⟩, ho, hc, n, hd⟩⟩ := (show ObjOk X.prog X.w H s.heap p (.tup [.ty c1, .ty c2]) from I.hok p _ hp)
 obtain ⟨u1, u2, rfl, r1, r2⟩ := vals2 vr
 cases r1; cases r2
 simp only at hc hd
 subst hc hd
 exact isi_rep2 I rx rd ho (kit_ty2 e) fun tk => ⟨.bl k, H, I.tok _, rfl, q⟩
@[irreducible] def B6 (c1 c2 : String) (m : ME) : ME := fun ρ => (m ρ).bind fun d => (zw7 (tyD d) c1 c2).map .bl
theorem C7 {c1 c2 : Str} {C1 C2 : String} {p p1 p2 p3 : Pos} {x1} (hg : Gl X "isinstance") (hm : X.mg "isinstance" = none) (hg1 : Gl X c1) (hm1 : X.mg c1 = none) (hv1 : bootBuiltins c1 = some (.type C1)) (hg2 : Gl X c2) (hm2 : X.mg c2 = none) (hv2 : bootBuiltins c2 = some (.type C2)) (ha : PD X a ma)
  (hn1 : c1 ≠ "__name__" := by decide) (hd1 : (c1 == ("__debug__" : Str)) = false := by decide) (hn2 : c2 ≠ "__name__" := by decide) (hd2 : (c2 == ("__debug__" : Str)) = false := by decide)
  (hs : starEach (a :: [.Tuple [.Name c1 p1, .Name c2 p2] x1 p3]) X.env = (false, eval a X.env) :: starEach [.Tuple [.Name c1 p1, .Name c2 p2] x1 p3] X.env := by rfl) (hs2 : starEach [.Tuple [.Name c1 p1, .Name c2 p2] x1 p3] X.env = (false, eval (.Tuple [.Name c1 p1, .Name c2 p2] x1 p3) X.env) :: starEach [] X.env := by rfl)
  (hs3 : starEach [.Name c1 p1, .Name c2 p2] X.env = (false, eval (.Name c1 p1) X.env) :: starEach [.Name c2 p2] X.env := by rfl) (hs4 : starEach [.Name c2 p2] X.env = (false, eval (.Name c2 p2) X.env) :: starEach [] X.env := by rfl)
  (hpl : (backTo pos (starEach [.Tuple [.Name c1 p1, .Name c2 p2] x1 p3] X.env)).any (·.1) = false := by rfl) : PD X (.Call (.Name "isinstance" p) [a, .Tuple [.Name c1 p1, .Name c2 p2] x1 p3] [] pos) (B6 C1 C2 ma) :=
 (l7 (call_isi2 (c1 := C1) (c2 := C2)) hg hm PyProof.Rows.boot_isinstance (u8 ha (u8 (pe_tup (u8 (pe_bltn (v := .ty C1) hg1 hm1 hv1 rfl hn1 hd1) (u8 (pe_bltn (v := .ty C2) hg2 hm2 hv2 rfl hn2 hd2) pa_nil hs4) hs3)) pa_nil hs2) hs) (by decide) (by decide) hs hpl).imp fun σ H Q hpat => by
  obtain ⟨F0, H0, F, ρ, g, rl, e, q⟩ := hpat
  unfold B6 at e
  cases h1 : ma ρ with
  | none => rw [h1] at e; cases e
  | some d =>
   rw [h1] at e
   have e : (zw7 (tyD d) C1 C2).map D.bl = some g := e
   cases h2 : zw7 (tyD d) C1 C2 with
   | none => rw [h2] at e; cases e
   | some k =>
    rw [h2] at e; cases e
    refine ⟨F0, H0, F, ρ, d, rl, h1, fun v F1 H1 x1 r1 => ⟨by show 2 <= sizeLine; rw [sizeLine_eq]; decide, fun w hw => ?_⟩⟩
    exact ⟨v, w, d, k, rfl, y3, r1.mono (x1.fh.put (x1.fh.free hw)), h2, q _ F1 _ (x1.trans (Ext.own x1.fh hw)) (.bl _)⟩
end
end
section
section
variable {K : W.Frag} {F0 H0 F H : Hp} {σ : St} {ρ : Ro}
theorem Rl.freezeP (r : Rl K F0 H0 F H σ ρ) {i : Nat} {ds : List D} (h : ρ[i]? = some (some (.own ds))) : ∃ p xs, F p = none /\ Rl K F0 H0 (upd F p (.lst xs)) H σ (ρ.set i (some (.sh (.lst ds)))) := by
 obtain ⟨p, xs, a, b, c, d, z⟩ := r.own i ds h
 have hl : i < ρ.length := (List.getElem?_eq_some_iff.mp h).1
 have e : Ext F0 H0 (upd F p (.lst xs)) H := r.ext.freeze b z c
 have ff : Same F (upd F p (.lst xs)) := (Same.refl F).put b
 refine ⟨p, xs, b, ⟨e, by simp [r.len], fun j d' q => ?_, fun j es q => ?_, fun j k q es es' hjk e1 e2 e3 e4 => ?_, fun j q es e1 => ?_, fun j k q es es' e1 e2 e3 => ?_, fun j k q q' es es' e1 e2 => r.ob1 j k q q' es es' (m7 e1).2 (m7 e2).2, fun j q es e1 => r.rd j q es (S0 e1).2⟩⟩
 ·by_cases hj : i = j
  ·subst hj
   rw [getElem?_set_self hl] at q
   cases q
   exact ⟨_, a, .lst (SqL.of y3) (d.mono ff)⟩
  ·rw [getElem?_set_ne hj] at q
   obtain ⟨v, v1, v2⟩ := r.sh j d' q
   exact ⟨v, v1, v2.mono ff⟩
 ·by_cases hj : i = j
  ·subst hj
   rw [getElem?_set_self hl] at q
   cases q
  ·rw [getElem?_set_ne hj] at q
   obtain ⟨p', xs', a', b', c', d', z'⟩ := r.own j es q
   have hp : p' ≠ p := fun w => r.inj i j p ds es hj h q a (by rw [<- w]; exact a')
   exact ⟨p', xs', a', by rw [y0 hp]; exact b', c', d'.mono ff, z'⟩
 ·have n1 : i ≠ j := fun w => by subst w; rw [getElem?_set_self hl] at e1; cases e1
  have n2 : i ≠ k := fun w => by subst w; rw [getElem?_set_self hl] at e2; cases e2
  rw [getElem?_set_ne n1] at e1
  rw [getElem?_set_ne n2] at e2
  exact r.inj j k q es es' hjk e1 e2 e3 e4
 ·obtain ⟨n, e1⟩ := m7 e1
  obtain ⟨o1, o2, o3, zs, o4, o5⟩ := r.ob j q es e1
  have hp : q ≠ p := fun w => r.obn j i q es ds e1 h (by rw [w]; exact a)
  exact ⟨o1, by rw [y0 hp]; exact o2, o3, zs, o4, o5.mono ff⟩
 ·obtain ⟨n, e1⟩ := m7 e1
  have n2 : i ≠ k := fun w => by subst w; rw [getElem?_set_self hl] at e2; cases e2
  rw [getElem?_set_ne n2] at e2
  exact r.obn j k q es es' e1 e2 e3
end
def isSc : D -> Bool
 | .lst _ => false
 | .tup _ => false
 | .exc _ => false
 | .ptr _ => false
 | .obj _ _ _ => false
 | _ => true
theorem sc_rep {K : W.Frag} {F G : Hp} {v : V} {d : D} (h : isSc d = true) (r : Rep K F v d) : Rep K G v d := by
 cases r with
 | non => exact .non
 | bl b => exact .bl b
 | int i => exact .int i
 | str x => exact .str x
 | lst _ _ => cases h
 | tup _ _ => cases h
 | exc _ _ => cases h
 | ptr _ => cases h
 | obj _ _ _ _ _ => cases h
end
section
section
variable {X : Cx} {a b c e : Expr} {ma mb mz : ME} {la lb : ML} {pos : Pos}
def flV : D -> Option V
 | .non => some .non | .bl b => some (.bl b) | .int i => some (.int i) | .str x => some (.str x)
 | _ => none
def flVs : List D -> Option (List V)
 | [] => some []
 | d :: r => match flV d with | some v => (match flVs r with | some vs => some (v :: vs) | none => none) | none => none
theorem flV_rep {K : W.Frag} {F : Hp} {v u : V} {d : D} (r : Rep K F v d) (h : flV d = some u) : v = u /\ G3 u = true := by
 cases r <;> cases h <;> exact ⟨rfl, rfl⟩
theorem K8 {K : W.Frag} {F : Hp} : ∀ {vs us : List V} {ds : List D}, Reps K F vs ds -> flVs ds = some us -> vs = us /\ us.all G3 = true
 | _, _, _, .nil, h => by cases h; exact ⟨rfl, rfl⟩
 | _, _, _, .cons (d := d) (ds := ds) r t, h => by
  unfold flVs at h
  cases h1 : flV d with
  | none => rw [h1] at h; cases h
  | some u =>
   cases h2 : flVs ds with
   | none => rw [h1, h2] at h; cases h
   | some us =>
    rw [h1, h2] at h; cases h
    obtain ⟨a1, a2⟩ := flV_rep r h1
    obtain ⟨b1, b2⟩ := K8 t h2
    subst a1 b1
    exact ⟨rfl, by rw [all_cons, a2, b2]; rfl⟩
def inDs (neg : Bool) (d : D) (ds : List D) : Option D := match flV d, flVs ds with
 | some v, some vs => some (.bl (if neg then !inV v vs else inV v vs))
 | _, _ => none
def inD (neg : Bool) : D -> D -> Option D
 | d, .lst ds => inDs neg d ds
 | d, .tup ds => inDs neg d ds
 | _, _ => none
theorem zv1 {neg : Bool} {d w : D} {ds : List D} (h : inDs neg d ds = some w) : ∃ v vs, flV d = some v /\ flVs ds = some vs /\ w = .bl (if neg then !inV v vs else inV v vs) := by
 unfold inDs at h
 split at h
 ·rename_i v vs h1 h2; cases h; exact ⟨v, vs, h1, h2, rfl⟩
 ·cases h
theorem opd_in {K : W.Frag} {neg : Bool} : OpD K (rIn K neg) (inD neg) := by
 intro F H x y d e w Q s r1 r2 h q
 cases r2 with
 | lst sq rs =>
  obtain ⟨v, vs, h1, h2, rfl⟩ := zv1 (show inDs neg d _ = some w from h)
  obtain ⟨a1, a2⟩ := flV_rep r1 h1
  obtain ⟨b1, b2⟩ := K8 rs h2
  subst a1 b1
  exact ⟨_, _, rfl, .inl (s.seq sq), a2, b2, q _ F H (.refl s) (.bl _)⟩
 | tup sq rs =>
  obtain ⟨v, vs, h1, h2, rfl⟩ := zv1 (show inDs neg d _ = some w from h)
  obtain ⟨a1, a2⟩ := flV_rep r1 h1
  obtain ⟨b1, b2⟩ := K8 rs h2
  subst a1 b1
  exact ⟨_, _, rfl, .inr (s.seqT sq), a2, b2, q _ F H (.refl s) (.bl _)⟩
 | _ => cases d <;> cases h
def maxI : List Int -> Int
 | [] => 0
 | a :: r => r.foldl (fun x y => if y > x then y else x) a
theorem A1 : ∀ (r : List Int) (a : Int), (r.foldl (fun x y => if y > x then y else x) a ∈ a :: r) /\ ∀ y ∈ a :: r, y <= r.foldl (fun x y => if y > x then y else x) a
 | [], a => ⟨by simp, fun y hy => by simp at hy; subst hy; exact Int.le_refl _⟩
 | b :: r, a => by
  obtain ⟨h1, h2⟩ := A1 r (if b > a then b else a)
  rw [foldl_cons]
  refine ⟨?_, fun y hy => ?_⟩
  ·rcases List.mem_cons.mp h1 with h | h
   ·rw [h]; split <;> simp
   ·exact mem_cons_of_mem _ (mem_cons_of_mem _ h)
  ·have h0 := h2 _ mem_cons_self
   rcases List.mem_cons.mp hy with h | h
   ·subst h; refine Int.le_trans ?_ h0; split <;> omega
   ·rcases List.mem_cons.mp h with h | h
    ·subst h; refine Int.le_trans ?_ h0; split <;> omega
    ·exact h2 y (mem_cons_of_mem _ h)
theorem maxI_mem {ns : List Int} (h : ns ≠ []) : maxI ns ∈ ns := by
 cases ns with
 | nil => exact absurd rfl h
 | cons a r => exact (A1 r a).1
theorem maxI_ge {ns : List Int} {y : Int} (h : y ∈ ns) : y <= maxI ns := by
 cases ns with
 | nil => cases h
 | cons a r => exact (A1 r a).2 y h
theorem h9 : ∀ {ns : List Int} {its : List Value}, Vals (ns.map V.int) its -> ∃ xs : List (Int × Tok), its.toArray = intItems xs.toArray /\ xs.map (·.1) = ns
 | [], _, .nil => ⟨[], by unfold intItems; simp, rfl⟩
 | n :: ns, _, .cons r t => by
  obtain ⟨k, rfl⟩ := r
  obtain ⟨xs, h1, h2⟩ := h9 t
  refine ⟨(n, k) :: xs, ?_, by rw [map_cons, h2]⟩
  have := congrArg Array.toList h1
  unfold intItems at this ⊢
  simp at this ⊢
  exact this
theorem zx9 (xs : List (Int × Tok)) {i : Nat} (h : i < xs.length) : numAt xs.toArray i = (xs[i]).1 := by
 unfold numAt
 simp [h]
def rMaxL (K : W.Frag) : List V -> Hp -> VK -> Prop := fun vs H Q => ∃ p ns, vs = [.ref p] /\ SqL K H p (ns.map V.int) /\ ns ≠ [] /\ Q (.int (maxI ns)) H
theorem call_maxL (hc : X.calm = true) : CallR X (.builtin "max") (rMaxL X.K) := by
 intro pins s σ H xs us Q I r h
 obtain ⟨p, ns, rfl, sq, hne, q⟩ := h
 obtain ⟨u, rfl, rx⟩ := V7 r
 cases rx
 obtain ⟨its, vr, pl, hz⟩ := I.list sq
 obtain ⟨ts, h1, h2⟩ := h9 vr
 have hp := pl.isList
 rw [h1] at hp
 have hlen : 0 < ts.length := by
  cases ts with
  | nil => simp at h2; exact absurd h2.symm (by simpa using hne)
  | cons _ _ => simp
 refine max_intList (I.ok.hd hc) hp (by simpa using hlen) fun v h' tk e k => ?_
 obtain ⟨b1, b2⟩ := argBest_gt (numAt ts.toArray) (ts.toArray.size - 1)
 rw [size_toArray] at b1 b2 e
 generalize hi : argBest (fun i j => decide (numAt ts.toArray i > numAt ts.toArray j)) (ts.length - 1) = i at b1 b2 e
 have hil : i < ts.length := by omega
 have hv : v = Value.int (ts[i]).1 (ts[i]).2 := by
  unfold intItems at e
  simp [hil] at e
  exact e.symm
 have hm : (ts[i]).1 = maxI ns := by
  have m1 : (ts[i]).1 ∈ ns := by rw [<- h2]; exact mem_map_of_mem (getElem_mem hil)
  refine Int.le_antisymm (maxI_ge m1) ?_
  have m2 := maxI_mem hne
  rw [<- h2] at m2
  obtain ⟨t, ht, e2⟩ := List.mem_map.mp m2
  obtain ⟨j, hj, e3⟩ := getElem_of_mem ht
  have := b2 j (by omega)
  rw [zx9 ts hj, zx9 ts hil, e3, e2, h2] at this
  exact this
 subst hv
 exact ⟨.int (maxI ns), H, I.kept k, ⟨_, by rw [hm]⟩, q⟩
def S7 : List D -> Option (List Int)
 | [] => some []
 | .int i :: r => match S7 r with | some ns => some (i :: ns) | none => none
 | _ => none
theorem Z7 {K : W.Frag} {F : Hp} : ∀ {vs : List V} {ds : List D} {ns : List Int}, Reps K F vs ds -> S7 ds = some ns -> vs = ns.map V.int
 | _, _, _, .nil, h => by cases h; rfl
 | _, _, _, .cons (d := d) (ds := ds) r t, h => by
  cases r with
  | int i =>
   unfold S7 at h
   cases h1 : S7 ds with
   | none => simp only [h1] at h; cases h
   | some ns => simp only [h1] at h; cases h; rw [Z7 t h1]; rfl
  | _ => cases h
theorem W6 : ∀ ns : List Int, S7 (ns.map D.int) = some ns
 | [] => rfl
 | n :: ns => by show (match S7 (ns.map D.int) with | some ns => some (n :: ns) | none => none) = _; rw [W6 ns]
@[irreducible] def mmaxL (m : ML) : ME := fun ρ => match m ρ with | some ds => (match S7 ds with | some (n :: ns) => some (.int (maxI (n :: ns))) | _ => none) | none => none
theorem pd_maxL {p : Pos} {m : ML} (hc : X.calm = true) (hg : Gl X "max") (hm : X.mg "max" = none) (ha : PB X e m) (hs : starEach (e :: []) X.env = (false, eval e X.env) :: starEach [] X.env := by rfl) (he : starEach [e] X.env = (false, eval e X.env) :: starEach [] X.env := by rfl) (hpl : (backTo pos (starEach [] X.env)).any (·.1) = false := by rfl) : PD X (.Call (.Name "max" p) [e] [] pos) (mmaxL m) :=
 (l7 (call_maxL hc) hg hm PyProof.Rows.boot_max (u8 ha pa_nil hs) (by decide) (by decide) he hpl).imp fun σ H Q hpat => by
  obtain ⟨F0, H0, F, ρ, g, rl, e, q⟩ := hpat
  unfold mmaxL at e
  cases h1 : m ρ with
  | none => rw [h1] at e; cases e
  | some ds =>
   rw [h1] at e
   cases h2 : S7 ds with
   | none => simp only [h2] at e; cases e
   | some ns =>
    cases ns with
    | nil => simp only [h2] at e; cases e
    | cons n ns =>
     simp only [h2] at e; cases e
     refine ⟨F0, H0, F, ρ, ds, rl, h1, fun p xs F1 H1 x1 s1 r1 => ⟨p, n :: ns, rfl, ?_, by simp, q _ F1 H1 x1 (.int _)⟩⟩
     rw [<- Z7 r1 h2]; exact s1
def tabVs : List (Str × Str) -> List DictEntry -> Prop
 | [], [] => True
 | (k, v) :: r, e :: es => (∃ t, e.key = .str k t) /\ (∃ t, e.val = .str v t) /\ tabVs r es
 | _, _ => False
structure KTab (w : World) (K : W.Frag) (a : Addr) (tab : List (Str × Str)) : Prop where
 ns : (a == sysModules) = false
 nd : (tab.map (·.1)).Nodup
 obj : ∃ es ep, K.lookup a = some ⟨.type "dict", none, .dict es ep, #[]⟩ /\ tabVs tab es.toList /\ ∀ e ∈ es.toList, ∀ k t, e.key = .str k t -> e.hash = hashStr w k
end
end
section
section
variable {prog : Program} {w : World} {A : Around} {E : Value -> Shared -> Prop} {s : Shared}
structure ApT (z TO i1 i2 l : Addr) : Prop where
 lz : l ≠ z
 lTO : l ≠ TO
 l1 : l ≠ i1
 l2 : l ≠ i2
end
end
section
section
variable {prog : Program} {w : World} {A : Around} {E : Value -> Shared -> Prop} {s : Shared}
end
section
variable {X : Cx}
end
end
section
section
variable {X : Cx} {a b c e : Expr} {ma mb : ME} {la lb : ML} {pos : Pos}
end
section
variable {K : W.Frag} {F0 H0 F H H' : Hp} {σ : St} {ρ : Ro}
end
section
variable {X : Cx} {a b c e3 : Expr} {ma mb : ME} {la lb : ML} {pos : Pos} {E : XK} {es : List Expr} {mf : MF} {m : ML} {rb : List Stmt} {mx : MS} {cc : MB} {y : D}
end
end
section
abbrev MEm := Ro -> Option (D × Ro)
abbrev MLm := Ro -> Option (List D × Ro)
section
variable {X : Cx} {a b c e : Expr} {ma mb : ME} {na nb : MEm} {pos : Pos} {es : List Expr}
variable {st : Stmt}
end
abbrev MG := Addr -> List D -> List D -> Option (Rt × List D)
end
section
section
variable {K : W.Frag} {F0 H0 F H F' H' : Hp} {σ : St} {ρ : Ro}
end
open Classical in
section
variable {X : Cx} {e : Expr} {pos : Pos} {es : List Expr} {E : XK} {mf : MG} {m : MLm}
end
end
section
section
variable {X : Cx} {a b c e : Expr} {ma mb : ME} {pos : Pos}
end
def noL : D -> Bool
 | .tup ds => ds.all isSc
 | d => isSc d
@[irreducible] def mborT (i : Nat) (m : ME) : ME := fun ρ => match ρ[i]? with
 | some (some (.own ds)) => (match m (ρ.set i (some (.sh (.lst ds)))) with | some d => if noL d = true then some d else none | none => none)
 | _ => m ρ
theorem scs_rep {K : W.Frag} {F G : Hp} : ∀ {vs : List V} {ds : List D}, ds.all isSc = true -> Reps K F vs ds -> Reps K G vs ds
 | _, _, _, .nil => .nil
 | _, _, h, .cons r t => by
  rw [all_cons, Bool.and_eq_true] at h
  exact .cons (sc_rep h.1 r) (scs_rep h.2 t)
theorem noL_rep {K : W.Frag} {F : Hp} {p : Addr} {xs : List V} {v : V} {d : D} (hp : F p = some (.lst xs)) (h : noL d = true) (r : Rep K F v d) : Rep K (fun b => if b = p then none else F b) v d := by
 cases r with
 | non => exact .non
 | bl b => exact .bl b
 | int i => exact .int i
 | str x => exact .str x
 | lst _ _ => cases h
 | exc _ _ => cases h
 | ptr _ => cases h
 | obj _ _ _ _ _ => cases h
 | tup sq rs =>
  rename_i a ys ds
  refine .tup ?_ (scs_rep h rs)
  rcases sq with (sq | ⟨o, sq⟩) | sq
  ·have hne : a ≠ p := fun z => by rw [z, hp] at sq; cases sq
   exact .inl (.inl (by show (if a = p then none else F a) = _; rw [if_neg hne]; exact sq))
  ·have hne : a ≠ p := fun z => by rw [z, hp] at sq; cases sq
   exact .inl (.inr ⟨o, by show (if a = p then none else F a) = _; rw [if_neg hne]; exact sq⟩)
  ·exact .inr sq
theorem pd_borT {X : Cx} {e : Expr} {m : ME} (i : Nat) (h : PD X e m) : PD X e (mborT i m) := h.imp fun σ H Q hpat => by
 obtain ⟨F0, H0, F, ρ, d, rl, e, q⟩ := hpat
 unfold mborT at e
 split at e
 ·rename_i ds h1
  obtain ⟨p, xs, hp, rl'⟩ := rl.freezeP h1
  split at e
  ·rename_i d' h2
   split at e
   ·rename_i hs
    cases e
    refine ⟨F0, H0, _, _, d, rl', h2, fun v F2 H2 x2 r2 => ?_⟩
    have hp2 : F2 p = some (.lst xs) := x2.ff _ _ y3
    refine q v (fun b => if b = p then none else F2 b) H2 ⟨fun b o hb => ?_, x2.hh, fun b o hb => ?_, fun b hb hn => ?_, fun b o u z => by
     have z : (if b = p then none else F2 b) = some (.frz o u) := z
     split at z
     ·cases z
     ·rename_i hne
      have := x2.nf b o u z
      rwa [y0 hne] at this⟩ (noL_rep hp2 hs r2)
    ·have hne : b ≠ p := fun w => by rw [w, hp] at hb; cases hb
     show (if b = p then none else F2 b) = some o
     rw [if_neg hne]
     exact x2.ff b o (by rw [y0 hne]; exact hb)
    ·have hb : (if b = p then none else F2 b) = some o := hb
     split at hb
     ·cases hb
     ·exact x2.fh b o hb
    ·have hn : (if b = p then none else F2 b) ≠ none := hn
     split at hn
     ·exact absurd rfl hn
     ·rename_i hne
      exact x2.new b (by rw [y0 hne]; exact hb) hn
   ·cases e
  ·cases e
 ·exact ⟨F0, H0, F, ρ, d, rl, e, q⟩
end
section
def LtAt (A : Around) (s : Shared) (v u : Value) (k : Bool) : Prop := ∀ (prog : Program) (w : World) (E : Value -> Shared -> Prop) (Q : Value -> Shared -> Prop), Q (.bool k) s -> wpAny (model prog w) A (richCompare .Lt v u) Q E s
def LexAt (A : Around) (s : Shared) : List Value -> List Value -> Bool -> Prop
 | [], [], k => k = false
 | [], _ :: _, k => k = true
 | _ :: _, [], k => k = false
 | y :: ys, x :: xs, k => ∃ e, SeqAt.EqAt A s y x e /\ ((e = true /\ LexAt A s ys xs k) \/ (e = false /\ LtAt A s y x k))
section
open PySem.SeqAt
open PySem.AutoSeq1 (wpAny_loadPart')
open PySem.MeetsSeq PySem.MeetsSeq2 PySem.MeetsSeq3
set_option maxHeartbeats 4000000 in
theorem tup_lt (l b : Addr) (items items2 : Array Value) (n n2 : Nat) (dd dd2 : Option Addr) (sl sl2 : Array (Option Value)) (k : Bool) :
  Meets (Builtin.«tuple.__lt__» ⟨[.ref l, .ref b], []⟩)
   (fun A R s => s.heap.get? l = some { cls := .type "tuple", dict := dd, data := .seq items n, slots := sl } /\ s.heap.get? b = some { cls := .type "tuple", dict := dd2, data := .seq items2 n2, slots := sl2 } /\
    LexAt A.in1 s items.toList items2.toList k /\ R (.ok (.ret (.bool k))) s) :=
 .of_wp fun prog w A R s h => by
  obtain ⟨hp, g, d, tk, os⟩ := s; obtain ⟨hl, hb, hx, h⟩ := h
  have f2 := AutoSeq1.sub_tuple_tuple
  wp_walk using wpAny_loadPart' hl, wpAny_loadPart' hb, wpAny_forIn_list _ (fun rest b s' => b.1 = none /\ s' = ⟨hp, g, d, tk, os⟩ /\ ∃ (vs ws : List Value), rest = vs.zip ws /\
   vs.length + items2.size = ws.length + items.size /\ LexAt A.in1 ⟨hp, g, d, tk, os⟩ vs ws k) _
  case turn =>
   rintro ⟨y, x⟩ rest b s' ⟨hb', rfl, vs, ws, hz, hlen, hL⟩
   cases vs with
   | nil => rw [zip_nil_left] at hz; cases hz
   | cons a vs =>
    cases ws with
    | nil => rw [zip_nil_right] at hz; cases hz
    | cons c ws =>
     rw [zip_cons_cons] at hz
     injection hz with hyx hrest
     injection hyx with hy hx'
     subst hy hx'
     simp only [length_cons] at hlen
     obtain ⟨e, he, hL⟩ := hL
     refine wpAny_bind (he prog w _ _ ?_)
     rcases hL with ⟨rfl, hL⟩ | ⟨rfl, hL⟩
     ·wp_walk
      exact ⟨rfl, rfl, vs, ws, hrest, by omega, hL⟩
     ·have hri := hL prog w
      wp_walk using hri
      exact ⟨_, rfl, by simpa using h⟩
  case fin =>
   rintro ⟨b1, b2⟩ s' ⟨hb', rfl, vs, ws, hz, hlen, hL⟩
   simp only at hb'
   subst hb'
   have hv : k = decide (items.size < items2.size) := by
    cases vs with
    | nil =>
     cases ws with
     | nil =>
      simp only [length_nil] at hlen
      rw [show k = false from hL]
      exact (decide_eq_false (by omega)).symm
     | cons c ws =>
      simp only [length_nil, length_cons] at hlen
      rw [show k = true from hL]
      exact (decide_eq_true (by omega)).symm
    | cons a vs =>
     cases ws with
     | nil =>
      simp only [length_nil, length_cons] at hlen
      rw [show k = false from hL]
      exact (decide_eq_false (by omega)).symm
     | cons c ws =>
      rw [zip_cons_cons] at hz
      cases hz
   rw [hv] at h
   wp_walk
   exact ⟨_, rfl, by simpa [Builtin.Tuple.tupleCompareSizes] using h⟩
  case h =>
   exact ⟨rfl, rfl, items.toList, items2.toList, rfl, by simp; omega, hx⟩
set_option maxHeartbeats 4000000 in
theorem lst_lt_loop (l b : Addr) (items items2 : Array Value) (n n2 : Nat) (dd dd2 : Option Addr) (sl sl2 : Array (Option Value)) (r : Bool) (k : Nat) :
  ∀ i : Nat, items.size - i = k -> i <= items.size -> i <= items2.size -> Meets (Builtin.«list.__eq__.loop» ⟨[.ref l, .ref b, rawInt i, rawInt 0], []⟩)
   (fun A R s => s.heap.get? l = some { cls := .type "list", dict := dd, data := .seq items n, slots := sl } /\ s.heap.get? b = some { cls := .type "list", dict := dd2, data := .seq items2 n2, slots := sl2 } /\
    LexAt A.in1 s (items.toList.drop i) (items2.toList.drop i) r /\ R (.ok (.ret (.bool r))) s) := by
 induction k with
 | zero =>
  intro i hk h1 h2 prog w A R s h
  obtain ⟨hp, g, d, tk, os⟩ := s; obtain ⟨hl, hb, hx, h⟩ := h
  wp_walk using wpAny_loadPart' hl, wpAny_loadPart' hb
  have hi1 : items[((i : Nat) : Int).toNat]? = none := by simp; omega
  have e1 : items.toList.drop i = [] := drop_eq_nil_of_le (by simp; omega)
  rw [e1] at hx
  have hr : r = decide (items.size < items2.size) := by
   cases e2 : items2.toList.drop i with
   | nil =>
    rw [e2] at hx
    have : items2.size <= i := by simpa using e2
    rw [show r = false from hx]
    exact (decide_eq_false (by omega)).symm
   | cons c ws =>
    rw [e2] at hx
    have : i < items2.size := by
     rcases Nat.lt_or_ge i items2.size with z | z
     ·exact z
     ·rw [drop_eq_nil_of_le (by simpa using z)] at e2; cases e2
    rw [show r = true from hx]
    exact (decide_eq_true (by omega)).symm
  rw [hi1]
  wp_walk using wpAny_loadPart' hl, wpAny_loadPart' hb
  rw [hr] at h
  exact h
 | succ k ih =>
  intro i hk h1 h2 prog w A R s h
  obtain ⟨hp, g, d, tk, os⟩ := s; obtain ⟨hl, hb, hx, h⟩ := h
  have hlt : i < items.size := by omega
  have hi1 : items[((i : Nat) : Int).toNat]? = some items[i] := by simp [hlt]
  have e1 : items.toList.drop i = items[i] :: items.toList.drop (i + 1) := by rw [drop_eq_getElem_cons (by simpa using hlt)]; simp
  have hc : ((i : Int) + 1) = ((i + 1 : Nat) : Int) := by push_cast; rfl
  rw [e1] at hx
  by_cases hlt2 : i < items2.size
  ·have hi2 : items2[((i : Nat) : Int).toNat]? = some items2[i] := by simp [hlt2]
   have e2 : items2.toList.drop i = items2[i] :: items2.toList.drop (i + 1) := by rw [drop_eq_getElem_cons (by simpa using hlt2)]; simp
   rw [e2] at hx
   obtain ⟨e, he, hx⟩ := hx
   wp_walk using wpAny_loadPart' hl, wpAny_loadPart' hb
   rw [hi1, hi2]
   refine wpAny_bind (he prog w _ _ ?_)
   rcases hx with ⟨rfl, hx⟩ | ⟨rfl, hx⟩
   ·wp_walk
    rw [hc]
    exact ⟨plainId_quiet plain_eq_loop _, codeAny_builtin entry_eq_loop (by
     rw [Around.under_plainId plain_eq_loop _]
     exact ih (i + 1) (by omega) (by omega) (by omega) prog w A R _ ⟨hl, hb, hx, h⟩)⟩
   ·have hri := hx prog w
    wp_walk using wpAny_loadPart' hl, wpAny_loadPart' hb
    rw [hi1, hi2]
    wp_walk using hri
    exact h
  ·have hi2 : items2[((i : Nat) : Int).toNat]? = none := by simp; omega
   have e2 : items2.toList.drop i = [] := drop_eq_nil_of_le (by simp; omega)
   rw [e2] at hx
   have hr : r = decide (items.size < items2.size) := by
    rw [show r = false from hx]
    exact (decide_eq_false (by omega)).symm
   wp_walk using wpAny_loadPart' hl, wpAny_loadPart' hb
   rw [hi1, hi2]
   wp_walk using wpAny_loadPart' hl, wpAny_loadPart' hb
   rw [hr] at h
   exact h
set_option maxHeartbeats 4000000 in
theorem lst_lt (l b : Addr) (items items2 : Array Value) (n n2 : Nat) (dd dd2 : Option Addr) (sl sl2 : Array (Option Value)) (r : Bool) :
  Meets (Builtin.«list.__lt__» ⟨[.ref l, .ref b], []⟩)
   (fun A R s => s.heap.get? l = some { cls := .type "list", dict := dd, data := .seq items n, slots := sl } /\ s.heap.get? b = some { cls := .type "list", dict := dd2, data := .seq items2 n2, slots := sl2 } /\
    LexAt A.in1 s items.toList items2.toList r /\ R (.ok (.ret (.bool r))) s) := by
 intro prog w A R s h
 obtain ⟨hp, g, d, tk, os⟩ := s; obtain ⟨hl, hb, hx, h⟩ := h
 have f3 := AutoSeq1.sub_list_list
 wp_walk using wpAny_loadPart' hl, wpAny_loadPart' hb
 exact ⟨plainId_quiet plain_eq_loop _, codeAny_builtin entry_eq_loop (by
  rw [Around.under_plainId plain_eq_loop _]
  exact lst_lt_loop l b items items2 n n2 dd dd2 sl sl2 r _ 0 rfl (Nat.zero_le _) (Nat.zero_le _) prog w A R _ ⟨hl, hb, by simpa using hx, h⟩)⟩
end
def lexF (eq lt : D -> D -> Option Bool) : List D -> List D -> Option Bool
 | [], [] => some false
 | [], _ :: _ => some true
 | _ :: _, [] => some false
 | d :: ds, e :: es => match eq d e with
  | some true => lexF eq lt ds es
  | some false => lt d e
  | none => none
def ltF : Nat -> D -> D -> Option Bool
 | 0, _, _ => none
 | n + 1, .lst ds, .lst es => lexF (eqF n) (ltF n) ds es
 | n + 1, .tup ds, .tup es => lexF (eqF n) (ltF n) ds es
 | _ + 1, .int i, .int j => some (decide (i < j))
 | _ + 1, _, _ => none
section
variable {X : Cx} {pins : List (Addr × Obj)} {σ : St} {H : Hp} {s : Shared}
theorem lex_at (I : Inv X pins σ H s) (n : Nat) {A : Around} (hu : A.units + n < cLine) (ih : ∀ {x y : V} {v u : Value} {d e : D} {k : Bool}, Rep X.K H x d -> Rep X.K H y e -> RelV x v -> RelV y u -> ltF n d e = some k -> LtAt A s v u k) :
  ∀ {xs ys : List V} {vs us : List Value} {ds es : List D} {k : Bool}, Reps X.K H xs ds -> Reps X.K H ys es -> Vals xs vs -> Vals ys us -> lexF (eqF n) (ltF n) ds es = some k -> LexAt A s vs us k
 | _, _, _, _, _, _, k, .nil, .nil, .nil, .nil, h => by cases h; exact rfl
 | _, _, _, _, _, _, k, .nil, .cons _ _, .nil, .cons _ _, h => by cases h; exact rfl
 | _, _, _, _, _, _, k, .cons _ _, .nil, .cons _ _, .nil, h => by cases h; exact rfl
 | _, _, _, _, _, _, k, .cons (d := d) r1 t1, .cons (d := e) r2 t2, .cons q1 p1, .cons q2 p2, h => by
  unfold lexF at h
  cases hq : eqF n d e with
  | none => rw [hq] at h; cases h
  | some b =>
   rw [hq] at h
   refine ⟨b, (eq_at I n hu r1 r2 q1 q2 hq).1, ?_⟩
   cases b with
   | true => exact .inl ⟨rfl, lex_at I n hu ih t1 t2 p1 p2 h⟩
   | false => exact .inr ⟨rfl, ih r1 r2 q1 q2 h⟩
theorem lt_at (I : Inv X pins σ H s) : ∀ (n : Nat) {A : Around} {x y : V} {v u : Value} {d e : D} {k : Bool}, A.units + n < cLine -> Rep X.K H x d -> Rep X.K H y e -> RelV x v -> RelV y u -> ltF n d e = some k -> LtAt A s v u k
 | 0, A, x, y, v, u, d, e, k, hu, r1, r2, q1, q2, h => by simp [ltF] at h
 | n + 1, A, x, y, v, u, d, e, k, hu, r1, r2, q1, q2, h => by
  have hu0 : A.units < cLine := by omega
  have hu1 : A.in1.units + n < cLine := by show A.units + 1 + n < cLine; omega
  cases d with
  | int i =>
   cases e with
   | int j =>
    obtain rfl := r1.i'
    obtain rfl := r2.i'
    obtain ⟨t, rfl⟩ := q1
    obtain ⟨t', rfl⟩ := q2
    cases h
    exact fun prog w E Q hQ => HT.rcLt_int A s i t j t' prog w E Q hQ
   | _ => cases h
  | lst ds1 =>
   cases e with
   | lst ds2 =>
    obtain ⟨a1, xs1, rfl, sq, rs⟩ := r1.l'
    obtain ⟨a2, xs2, rfl, sq2, rs2⟩ := r2.l'
    cases q1; cases q2
    obtain ⟨its, vr, ⟨⟨cls, dd, data, sl⟩, m, ho, hc, hdd, hd⟩, _⟩ := I.list sq
    obtain ⟨its2, vr2, ⟨⟨cls2, dd2, data2, sl2⟩, m2, ho2, hc2, hdd2, hd2⟩, _⟩ := I.list sq2
    simp only at hc hd hc2 hd2
    subst hc hd hc2 hd2
    have L := lex_at I n hu1 (fun a b c d e => lt_at I n hu1 a b c d e) rs rs2 vr vr2 (show lexF (eqF n) (ltF n) _ _ = some k from h)
    intro prog w E Q hQ
    exact richCompare_meets_room (op := .Lt) ⟨_, ho, rfl⟩ ⟨_, ho2, rfl⟩ PySem.F.slot_list_lt PySem.F.entry_list_lt (PySem.F.args_list_lt_2 _ _) (lst_lt _ _ its.toArray its2.toArray m m2 dd dd2 sl sl2 k)
     ⟨ho, ho2, by simpa using L, show Value.bool k ≠ Value.notImplemented /\ Q (.bool k) s from ⟨(fun x => nomatch x), hQ⟩⟩ hu0
   | _ => cases h
  | tup ds1 =>
   cases e with
   | tup ds2 =>
    obtain ⟨a1, xs1, rfl, sq, rs⟩ := r1.t'
    obtain ⟨a2, xs2, rfl, sq2, rs2⟩ := r2.t'
    cases q1; cases q2
    obtain ⟨its, vr, ⟨⟨cls, dd, data, sl⟩, ho, hc, m, hd⟩, _⟩ := I.tuple sq
    obtain ⟨its2, vr2, ⟨⟨cls2, dd2, data2, sl2⟩, ho2, hc2, m2, hd2⟩, _⟩ := I.tuple sq2
    simp only at hc hd hc2 hd2
    subst hc hd hc2 hd2
    have L := lex_at I n hu1 (fun a b c d e => lt_at I n hu1 a b c d e) rs rs2 vr vr2 (show lexF (eqF n) (ltF n) _ _ = some k from h)
    intro prog w E Q hQ
    exact richCompare_meets_room (op := .Lt) ⟨_, ho, rfl⟩ ⟨_, ho2, rfl⟩ PySem.F.slot_tuple_lt PySem.F.entry_tuple_lt (PySem.F.args_tuple_lt_2 _ _) (tup_lt _ _ its.toArray its2.toArray m m2 dd dd2 sl sl2 k)
     ⟨ho, ho2, by simpa using L, show Value.bool k ≠ Value.notImplemented /\ Q (.bool k) s from ⟨(fun x => nomatch x), hQ⟩⟩ hu0
   | _ => cases h
  | _ => cases h
end
end
section
def KeyAt (X : Cx) (kv : Value) (mk : D -> Option D) : Prop := ∀ (pins : List (Addr × Obj)) (σ : St) (H F : Hp) (s : Shared) (x : V) (u : Value) (d kd : D), Inv X pins σ H s -> Same F H -> Rep X.K F x d -> RelV x u -> mk d = some kd ->
 wpAny (model X.prog X.w) X.A.in1 (call kv [u]) (fun w s' => ∃ y F' H', Inv X pins σ H' s' /\ RelV y w /\ Ext F H F' H' /\ Rep X.K F' y kd) (fun _ _ => False) s
def shOf : Option Rt -> Option D
 | some (.sh d) => some d
 | some (.fr es) => some (.lst es)
 | _ => none
theorem keyAt_fn {X : Cx} {k : Nat} {f : Addr} {fd : FuncData} {p : Str} {m : MF} (F : FnOk X.prog X.w X.K X.mg X.base CX0 k f fd [p] (spR X.K 1 m)) (hr : Room k X.A.in1) (hb : Binds X.K fd [p] []) : KeyAt X (.ref f) (fun d => shOf (m [d])) := by
 intro pins σ H Fh s x u d kd I sf r rx hm
 have hm : shOf (m [d]) = some kd := hm
 have sp : spR X.K 1 m [x] H (fun v H' => ∃ F', Ext Fh H F' H' /\ Rep X.K F' v kd) E0 := by
  cases h : m [d] with
  | none => rw [h] at hm; cases hm
  | some t =>
   rw [h] at hm
   cases t with
   | sh g => cases hm; exact ⟨rfl, Fh, [d], _, sf, .cons r .nil, h, fun v F' H' x' r' => ⟨F', x', r'⟩⟩
   | fr gs => cases hm; exact ⟨rfl, Fh, [d], _, sf, .cons r .nil, h, fun q xs F' H' x' hp hF hH rs => ⟨upd F' q (.lst xs), x'.freeze hF hp hH, .lst (SqL.of y3) (rs.mono ((Same.refl F').put hF))⟩⟩
   | pr _ _ => cases hm
 have e0 := I.env0
 have env : Env0 X.prog X.w X.K X.mg X.base X.A.in1 X.stack s H := ⟨e0.frames, e0.mod, e0.bs, e0.bsz, e0.funs, e0.frf, e0.hok, e0.bare⟩
 refine wpAny_call (codeAny_mono (F.run X.A.in1 X.stack s H ⟨[u], []⟩ [u] [x] _ E0 hr env (hb s [u] I.kIn rfl) (.cons rx .nil) sp) fun r s' hq => ?_)
 cases r with
 | error e => exact hq.elim
 | ok fl =>
  cases fl with
  | ret v =>
   obtain ⟨y, H', I', ry, F', x', r'⟩ := I.after hq
   exact ⟨y, F', H', I', ry, x', r'⟩
  | next => exact hq.elim
  | brk => exact hq.elim
  | cont => exact hq.elim
def minF (mk : D -> Option D) : List D -> D -> D -> Option D
 | [], b, _ => some b
 | d :: ds, b, kb => match mk d with
  | some kd => (match ltF 8 kd kb with | some true => minF mk ds d kd | some false => minF mk ds b kb | none => none)
  | none => none
section
variable {X : Cx} {pins : List (Addr × Obj)} {σ : St}
theorem FpOk.now {H H' : Hp} {b : Addr} (h : FpOk X pins H b) (hn : H' b = none) : FpOk X pins H' b := ⟨hn, h.2⟩
theorem Inv.pin2 {H : Hp} {s : Shared} {a b : Addr} {oa ob : Obj} (I : Inv X pins σ H s) (ha : FpOk X pins H a) (hb : FpOk X pins H b) (ea : s.heap.get? a = some oa) (eb : s.heap.get? b = some ob) (da : ∀ v, oa.data ≠ .cell v) (db : ∀ v, ob.data ≠ .cell v) : Inv X (pins ++ [(a, oa), (b, ob)]) σ H s :=
 I.pins_of fun p hp => by
  rcases List.mem_append.mp hp with hp | hp
  ·exact I.pin p (mem_append_right _ hp)
  ·simp only [mem_cons, not_mem_nil, or_false] at hp
   rcases hp with rfl | rfl
   ·exact ⟨ea, ha.1, ha.2.1, ha.2.2.1, da⟩
   ·exact ⟨eb, hb.1, hb.2.1, hb.2.2.1, db⟩
set_option maxHeartbeats 8000000 in
theorem min_loop {q : Addr} {mk : D -> Option D} (hk : KeyAt X (.ref q) mk) (hc : X.calm = true) (hu : X.A.units + 64 < cLine) {l I S : Addr} {xs : List V} {ds : List D} {kw : List (Str × Value)} {dm : D} (hIS : I ≠ S) (hlI : l ≠ I) (hlS : l ≠ S) :
  ∀ (r j : Nat) (H F H0 F0 : Hp) (s : Shared) (xb yb : V) (vb kb : Value) (db kdb : D) (c : Nat) (R : Result -> Shared -> Prop),
   ds.length - (j + 1) = r -> j + 1 <= ds.length -> Inv X pins σ H s -> Ext F0 H0 F H -> SqL X.K H l xs -> Reps X.K F xs ds -> s.heap.IsListIter I l (j + 1) -> s.heap.get? S = some (seqObj "list" #[vb, kb] c) -> FpOk X pins H I -> FpOk X pins H S ->
   RelV xb vb -> Rep X.K F xb db -> RelV yb kb -> Rep X.K F yb kdb -> minF mk (ds.drop (j + 1)) db kdb = some dm ->
   (∀ x v F' H' s', Inv X pins σ H' s' -> RelV x v -> Ext F0 H0 F' H' -> Rep X.K F' x dm -> R (.ok (.ret v)) s') ->
   codeAny (model X.prog X.w) X.A (.builtin "min.loop" ⟨[.ref I, .ref q, .ref S], kw⟩) R s := by
 have hname : (toString "min" ++ toString ".loop" : String) = "min.loop" := by decide
 intro r
 induction r with
 | zero =>
  intro j H F H0 F0 s xb yb vb kb db kdb c R hr hj I' ext sq rs hit hS fI fS rb pb ry py hm hR
  have hin : j + 1 = ds.length := by omega
  obtain ⟨its, vr, pl, _⟩ := I'.list sq
  have zl : its.length = ds.length := by rw [<- vr.length, rs.length]
  rw [hin, drop_length] at hm
  have hm : some db = some dm := hm
  cases hm
  refine codeAny_builtin PySem.F.entry_min_loop ?_
  rw [Around.under_plainId PySem.F.plain_min_loop _]
  show wpAny _ X.A.in1 (seqItems? (.ref S) >>= _) _ _ _
  refine wpAny_bind (wpAny_seqItems hS rfl ?_)
  show wpAny _ X.A.in1 (tryCatch (pyNext (.ref I)) _ >>= _) _ _ _
  refine wpAny_bind (wpAny_tryCatch (wpAny_pyNext_list_end (I'.ok.hd hc) hit pl.isList (by simp; omega) fun h' hk' => ?_))
  have hS' : h'.get? S = some (seqObj "list" #[vb, kb] c) := hk' S _ (Ne.symm hIS) hS
  have s1 := Heap.SameBut.update h' S (Obj.mapSeq fun _ => (#[] : Array Value))
  show wpAny _ X.A.in1 (updateSeq S (fun _ => #[]) >>= _) _ _ _
  refine wpAny_bind ?_
  refine wpAny_updateSeq hS' rfl (wpAny_bind (wpAny_letGo (wpAny_pure ?_)))
  have I9 : Inv X pins σ H { s with heap := h'.update S (Obj.mapSeq fun _ => (#[] : Array Value)), toks := s.toks } := I'.turnedL (fp := [I, S]) (t' := s.toks) (fun b o hb e => by
   simp only [mem_cons, not_mem_nil, or_false, not_or] at hb
   exact (s1.2 b hb.2).trans (hk' b o hb.1 e)) (fun b hb => by
   simp only [mem_cons, not_mem_nil, or_false] at hb
   rcases hb with rfl | rfl <;> assumption)
  exact hR xb vb F H _ I9 rb ext pb
 | succ r ih =>
  intro j H F H0 F0 s xb yb vb kb db kdb c R hr hj I' ext sq rs hit hS fI fS rb pb ry py hm hR
  have hlt : j + 1 < ds.length := by omega
  obtain ⟨its, vr, pl, _⟩ := I'.list sq
  have zl : its.length = ds.length := by rw [<- vr.length, rs.length]
  obtain ⟨d, hd⟩ : ∃ d, ds[j + 1]? = some d := ⟨_, getElem?_eq_getElem hlt⟩
  obtain ⟨x, hx, px⟩ := rs.get hd
  obtain ⟨v, hv, rx⟩ := vr.get hx
  rw [g6 hd] at hm
  unfold minF at hm
  cases hkd : mk d with
  | none => rw [hkd] at hm; cases hm
  | some kd =>
   rw [hkd] at hm
   dsimp only at hm
   refine codeAny_builtin PySem.F.entry_min_loop ?_
   rw [Around.under_plainId PySem.F.plain_min_loop _]
   show wpAny _ X.A.in1 (seqItems? (.ref S) >>= _) _ _ _
   refine wpAny_bind (wpAny_seqItems hS rfl ?_)
   show wpAny _ X.A.in1 (tryCatch (pyNext (.ref I)) _ >>= _) _ _ _
   refine wpAny_bind (wpAny_tryCatch (wpAny_pyNext_list_item hit pl.isList (by simpa using hv) fun h1 hit1 s1 => ?_))
   have I1 : Inv X pins σ H { s with heap := h1, toks := s.toks } := I'.turnedL (fp := [I]) (fun b o hb e => s1.extBut b o (by simpa using hb) e) (fun b hb => by rw [List.mem_singleton.mp hb]; exact fI)
   have hS1 : h1.get? S = some (seqObj "list" #[vb, kb] c) := s1.extBut _ _ (Ne.symm hIS) hS
   obtain ⟨oI, eI, cI, dI⟩ := id hit1
   have Ip := I1.pin2 fI fS eI hS1 (fun v z => by rw [dI] at z; cases z) (fun v z => by cases z)
   show wpAny _ X.A.in1 (tryCatch (holding [v] (call (.ref q) [v])) _ >>= _) _ _ _
   refine wpAny_bind (wpAny_tryCatch (wpAny_holding (wpAny_mono (hk (pins ++ [(I, oI), (S, seqObj "list" #[vb, kb] c)]) σ H F _ x v d kd Ip ext.fh px rx hkd) (fun w s2 hw => ?_) fun _ _ z => z.elim)))
   obtain ⟨y, F2, H2, I2, rw2, x2, py2⟩ := hw
   have pI := I2.pin (I, oI) (by simp)
   have pS := I2.pin (S, seqObj "list" #[vb, kb] c) (by simp)
   have I2' : Inv X pins σ H2 s2 := I2.unpinned
   have fI2 : FpOk X pins H2 I := fI.now pI.2.1
   have fS2 : FpOk X pins H2 S := fS.now pS.2.1
   have hit2 : s2.heap.IsListIter I l (j + 1 + 1) := ⟨oI, pI.1, cI, dI⟩
   cases hlt8 : ltF 8 kd kdb with
   | none => rw [hlt8] at hm; cases hm
   | some bt =>
    rw [hlt8] at hm
    have hcmp := lt_at I2' 8 (A := X.A.in1) (by show X.A.units + 1 + 8 < cLine; omega) (py2.mono x2.fh) ((py.mono x2.ff).mono x2.fh) rw2 ry hlt8
    show wpAny _ X.A.in1 (tryCatch (holding [v, w] (richCompare .Lt w kb >>= _)) _ >>= _) _ _ _
    refine wpAny_bind (wpAny_tryCatch (wpAny_holding (wpAny_bind (hcmp X.prog X.w _ _ ?_))))
    refine wpAny_bind (wpAny_holding (wpAny_truthy_bool ?_))
    refine wpAny_bind (wpAny_letGo (wpAny_pure ?_))
    cases bt with
    | true =>
     have s3 := Heap.SameBut.update s2.heap S (Obj.mapSeq fun _ => #[v, w])
     obtain ⟨c2, hc2⟩ : ∃ c2, (s2.heap.update S (Obj.mapSeq fun _ => #[v, w])).get? S = some (seqObj "list" #[v, w] c2) := ⟨_, get?_update_seq pS.1 fun _ => #[v, w]⟩
     simp only [if_true]
     refine wpAny_bind ?_
     refine wpAny_updateSeq pS.1 rfl (wpAny_bind (wpAny_letGo ?_))
     rw [hname]
     have I3 : Inv X pins σ H2 { s2 with heap := s2.heap.update S (Obj.mapSeq fun _ => #[v, w]), toks := s2.toks } := I2'.turnedL (fp := [S]) (fun b o hb e => (s3.2 b (by simpa using hb)).trans e) (fun b hb => by rw [List.mem_singleton.mp hb]; exact fS2)
     refine wpAny_pure ⟨plainId_quiet PySem.F.plain_min_loop _, ih (j + 1) H2 F2 H0 F0 _ x y v w d kd c2 R (by omega) hlt I3 (ext.trans x2) (x2.hh.seq sq) (rs.mono x2.ff) ⟨oI, (s3.2 I hIS).trans pI.1, cI, dI⟩ hc2 fI2 fS2 rx (px.mono x2.ff) rw2 py2 hm hR⟩
    | false =>
     simp only [Bool.false_eq_true, if_false]
     refine wpAny_bind (wpAny_letGo ?_)
     rw [hname]
     refine wpAny_pure ⟨plainId_quiet PySem.F.plain_min_loop _, ih (j + 1) H2 F2 H0 F0 _ xb yb vb kb db kdb c R (by omega) hlt I2' (ext.trans x2) (x2.hh.seq sq) (rs.mono x2.ff) hit2 pS.1 fI2 fS2 rb (pb.mono x2.ff) ry (py.mono x2.ff) hm hR⟩
end
end
section
theorem args_min_kd (a v u : Value) : argsOk "min" ⟨[a], [(Str.ofString "key", v), (Str.ofString "default", u)]⟩ := by unfold argsOk; kernel_rfl
def minD (mk : D -> Option D) (ds : List D) (d0 : D) : Option D := match ds with
 | [] => some d0
 | d :: ds => (match mk d with | some kd => minF mk ds d kd | none => none)
section
variable {X : Cx} {pins : List (Addr × Obj)} {σ : St}
set_option maxHeartbeats 8000000 in
theorem min_top {q : Addr} {mk : D -> Option D} (hk : KeyAt X (.ref q) mk) (hc : X.calm = true) (hu : X.A.units + 64 < cLine) {l : Addr} {xs : List V} {ds : List D} {dm d0 : D} {H F : Hp} {s : Shared} {x0 : V} {v0 : Value} {E : Value -> Shared -> Prop} {Q : Value -> Shared -> Prop}
  (I : Inv X pins σ H s) (sf : Same F H) (sq : SqL X.K H l xs) (rs : Reps X.K F xs ds) (r0 : RelV x0 v0) (p0 : Rep X.K F x0 d0) (hm : minD mk ds d0 = some dm)
  (hQ : ∀ x v F' H' s', Inv X pins σ H' s' -> RelV x v -> Ext F H F' H' -> Rep X.K F' x dm -> Q v s') :
  wpAny (model X.prog X.w) X.A (call (.builtin "min") [.ref l] [(Str.ofString "key", .ref q), (Str.ofString "default", v0)]) Q E s := by
 have hname : (toString "min" ++ toString ".loop" : String) = "min.loop" := by decide
 obtain ⟨its, vr, pl, _⟩ := I.list sq
 have hls := pl.isList
 obtain ⟨ol, hol, _⟩ := id hls
 have hll : l < s.heap.objs.size := Heap.lt_size hol
 refine kmk_tree PySem.F.kind_min PySem.F.plain_min PySem.F.entry_min (args_min_kd _ _ _) ?_
 show wpAny _ X.A.in1 (Builtin.Builtins.bindParams "min" ["key", "default"] 0 ⟨[], [(Str.ofString "key", .ref q), (Str.ofString "default", v0)]⟩ >>= _) _ _ s
 refine wpAny_bind (wpAny_of_eq (show Builtin.Builtins.bindParams "min" ["key", "default"] 0 ⟨[], [(Str.ofString "key", .ref q), (Str.ofString "default", v0)]⟩ = pure [some (.ref q), some v0] from rfl) ?_)
 refine wpAny_bind (wpAny_pure ?_)
 refine wpAny_bind (wpAny_pyIter_list hls ?_)
 refine wpAny_bind (wpAny_newList ?_ (Nat.zero_le _))
 rw [hname]
 refine wpAny_pure ⟨plainId_quiet PySem.F.plain_min_loop _, ?_⟩
 generalize hIo : ({ cls := .type "list_iterator", data := .fields #[.ref l, .int 0 0] } : Obj) = oI0
 have hS : (s.heap.push oI0).objs.size = s.heap.objs.size + 1 := size_push' ..
 have hlI : l ≠ s.heap.objs.size := Nat.ne_of_lt hll
 have hlS : l ≠ (s.heap.push oI0).objs.size := by rw [hS]; exact Nat.ne_of_lt (Nat.lt_succ_of_lt hll)
 have hIS : s.heap.objs.size ≠ (s.heap.push oI0).objs.size := by rw [hS]; exact Nat.ne_of_lt (Nat.lt_succ_self _)
 have gI : ((s.heap.push oI0).push (seqObj "list" #[] 0)).get? s.heap.objs.size = some oI0 := Heap.get?_push_of_some _ (Heap.get?_push_size _ (by rw [<- hIo]; rfl))
 have gS : ((s.heap.push oI0).push (seqObj "list" #[] 0)).get? (s.heap.push oI0).objs.size = some (seqObj "list" #[] 0) := Heap.get?_push_size _ rfl
 have fI : FpOk X pins H s.heap.objs.size := I.fpOk (Nat.le_refl _) (I.hok.fresh (Nat.le_refl _))
 have fS : FpOk X pins H (s.heap.push oI0).objs.size := I.fpOk (by rw [hS]; exact Nat.le_succ _) (I.hok.fresh (by rw [hS]; exact Nat.le_succ _))
 have I0 : Inv X pins σ H { s with heap := (s.heap.push oI0).push (seqObj "list" #[] 0), toks := s.toks } := I.turnedL (fp := []) (fun b o _ e => Heap.get?_push_of_some _ (Heap.get?_push_of_some _ e)) (fun b hb => by cases hb)
 generalize (s.heap.push oI0).objs.size = S at *
 generalize hI : s.heap.objs.size = J at *
 generalize (s.heap.push oI0).push (seqObj "list" #[] 0) = h0 at *
 have hit : h0.IsListIter J l 0 := ⟨_, gI, by rw [<- hIo], by rw [<- hIo]; rfl⟩
 have zl : its.length = ds.length := by rw [<- vr.length, rs.length]
 obtain ⟨its', vr', pl', _⟩ := I0.list sq
 have zl' : its'.length = ds.length := by rw [<- vr'.length, rs.length]
 refine codeAny_builtin PySem.F.entry_min_loop ?_
 rw [Around.under_plainId PySem.F.plain_min_loop _]
 show wpAny _ X.A.in1 (seqItems? (.ref S) >>= _) _ _ _
 refine wpAny_bind (wpAny_seqItems gS rfl ?_)
 show wpAny _ X.A.in1 (tryCatch (pyNext (.ref J)) _ >>= _) _ _ _
 cases ds with
 | nil =>
  have hm : some d0 = some dm := hm
  cases hm
  refine wpAny_bind (wpAny_tryCatch (wpAny_pyNext_list_end (I.ok.hd hc) hit pl'.isList (by simp at zl' ⊢; simp [zl']) fun h' hk' => ?_))
  refine wpAny_bind (wpAny_rule (wpAny_pure ?_))
  have I9 := I0.turnedL (h' := h') (fp := [J]) (t' := s.toks) (fun b o hb e => hk' b o (by simpa using hb) e) (fun b hb => by rw [List.mem_singleton.mp hb]; exact fI)
  exact hQ x0 v0 F H _ I9 r0 (Ext.refl sf) p0
 | cons d ds =>
  obtain ⟨x, hx, px⟩ := rs.get (i := 0) (d := d) rfl
  obtain ⟨v, hv, rx⟩ := vr'.get hx
  unfold minD at hm
  dsimp only at hm
  cases hkd : mk d with
  | none => rw [hkd] at hm; cases hm
  | some kd =>
   rw [hkd] at hm
   dsimp only at hm
   refine wpAny_bind (wpAny_tryCatch (wpAny_pyNext_list_item hit pl'.isList (by simpa using hv) fun h1 hit1 s1 => ?_))
   have I1 := I0.turnedL (h' := h1) (t' := s.toks) (fp := [J]) (fun b o hb e => s1.extBut b o (by simpa using hb) e) (fun b hb => by rw [List.mem_singleton.mp hb]; exact fI)
   have hS1 : h1.get? S = some (seqObj "list" #[] 0) := s1.extBut _ _ (Ne.symm hIS) gS
   obtain ⟨oI, eI, cI, dI⟩ := id hit1
   have Ip := I1.pin2 fI fS eI hS1 (fun v z => by rw [dI] at z; cases z) (fun v z => by cases z)
   show wpAny _ X.A.in1 (tryCatch (holding [v] (call (.ref q) [v])) _ >>= _) _ _ _
   refine wpAny_bind (wpAny_tryCatch (wpAny_holding (wpAny_mono (hk (pins ++ [(J, oI), (S, seqObj "list" #[] 0)]) σ H F _ x v d kd Ip sf px rx hkd) (fun w s2 hw => ?_) fun _ _ z => z.elim)))
   obtain ⟨y, F2, H2, I2, rw2, x2, py2⟩ := hw
   have pI := I2.pin (J, oI) (by simp)
   have pS := I2.pin (S, seqObj "list" #[] 0) (by simp)
   have I2' : Inv X pins σ H2 s2 := I2.unpinned
   have fI2 : FpOk X pins H2 J := fI.now pI.2.1
   have fS2 : FpOk X pins H2 S := fS.now pS.2.1
   have s3 := Heap.SameBut.update s2.heap S (Obj.mapSeq fun _ => #[v, w])
   obtain ⟨c2, hc2⟩ : ∃ c2, (s2.heap.update S (Obj.mapSeq fun _ => #[v, w])).get? S = some (seqObj "list" #[v, w] c2) := ⟨_, get?_update_seq pS.1 fun _ => #[v, w]⟩
   show wpAny _ X.A.in1 (updateSeq S (fun _ => #[v, w]) >>= _) _ _ _
   refine wpAny_bind (wpAny_updateSeq pS.1 rfl ?_)
   rw [hname]
   have I3 : Inv X pins σ H2 { s2 with heap := s2.heap.update S (Obj.mapSeq fun _ => #[v, w]), toks := s2.toks } := I2'.turnedL (fp := [S]) (fun b o hb e => (s3.2 b (by simpa using hb)).trans e) (fun b hb => by rw [List.mem_singleton.mp hb]; exact fS2)
   refine wpAny_pure ⟨plainId_quiet PySem.F.plain_min_loop _, min_loop hk hc hu (ds := d :: ds) (dm := dm) hIS hlI hlS _ 0 H2 F2 H F _ x y v w d kd c2 _ rfl (by simp) I3 x2 (x2.hh.seq sq) (rs.mono x2.ff) ⟨oI, (s3.2 J hIS).trans pI.1, cI, dI⟩ hc2 fI2 fS2 rx (px.mono x2.ff) rw2 py2 hm fun x v F' H' s' a b c d => hQ x v F' H' s' a b c d⟩
@[irreducible] def mminK (mk : D -> Option D) (m : ML) (md : ME) : ME := fun ρ => (m ρ).bind fun ds => (md ρ).bind fun d0 => minD mk ds d0
theorem mminK_some {mk : D -> Option D} {m : ML} {md : ME} {ρ : Ro} {g : D} (h : mminK mk m md ρ = some g) : ∃ ds d0, m ρ = some ds /\ md ρ = some d0 /\ minD mk ds d0 = some g := by
 unfold mminK at h
 cases h1 : m ρ with
 | none => rw [h1] at h; cases h
 | some d =>
  cases h2 : md ρ with
  | none => rw [h1, h2] at h; cases h
  | some e => rw [h1, h2] at h; exact ⟨d, e, rfl, rfl, h⟩
theorem mminK_ev {mk : D -> Option D} {m : ML} {md : ME} {ρ : Ro} {ds : List D} {d0 : D} (h1 : m ρ = some ds) (h2 : md ρ = some d0) : mminK mk m md ρ = minD mk ds d0 := by
 unfold mminK
 rw [h1, h2]; rfl
theorem pd_minK {q : Addr} {mk : D -> Option D} {x : Str} {p pf kp kp2 pos : Pos} {e ed : Expr} {m : ML} {md : ME} (hk : KeyAt X (.ref q) mk) (hc : X.calm = true) (hu : X.A.units + 64 < cLine) (hg : Gl X "min") (hm : X.mg "min" = none) (hgf : Gl X x) (hmf : X.mg x = some (.ref q)) (ha : PB X e m) (hd : PD X ed md)
  (hdb : (x == ("__debug__" : Str)) = false := by decide) (hs : starEach (e :: []) X.env = (false, eval e X.env) :: starEach [] X.env := by rfl) :
  PD X (.Call (.Name "min" p) [e] [⟨some "key", .Name x pf, kp⟩, ⟨some "default", ed, kp2⟩] pos) (mminK mk m md) := by
 intro pins s σ H Q I h
 obtain ⟨F0, H0, F, ρ, g, rl, em, q0⟩ := h
 obtain ⟨ds, d0, h1, h2, h3⟩ := mminK_some em
 refine wpAny_Call_Name_kw (X3 I hg hm PyProof.Rows.boot_min ?_ (by decide) (by decide))
 have A := u8 ha pa_nil hs pos pins s σ H (fun vs H1 => ∃ p xs F1, vs = [.ref p] /\ Ext F H F1 H1 /\ SqL X.K H1 p xs /\ Reps X.K F1 xs ds) I ⟨F0, H0, F, ρ, ds, rl, h1, fun p xs F1 H1 x1 s1 r1 => ⟨p, xs, F1, rfl, x1, s1, r1⟩⟩
 refine callWith_kw (thn A fun us s1 hpat => ?_) (by rw [hs]; rfl) (by rw [hs]; rfl)
 obtain ⟨vs, H1, I1, r1, p, xs, F1, ev, x1, sq, rs⟩ := hpat
 subst ev
 obtain ⟨u, rfl, ru⟩ := V7 r1
 cases ru
 have B := C5 (nm := some "key") (kpos := kp) (pe_glob (v := .ref q) (pos := pf) hgf hmf rfl hdb) (C5 (nm := some "default") (kpos := kp2) hd pk_nil) pos pins s1 σ H1 (fun vs H2 => ∃ y F2, vs = [.ref q, y] /\ Ext F1 H1 F2 H2 /\ Rep X.K F2 y d0) I1 ⟨F0, H0, F1, ρ, d0, rl.go x1, h2, fun y F2 H2 x2 r2 => ⟨y, F2, rfl, x2, r2⟩⟩
 refine thn B fun us s2 hpat => ?_
 obtain ⟨vs, H2, I2, r2, y, F2, ev, x2, p0⟩ := hpat
 subst ev
 obtain ⟨u1, u2, rfl, ru1, ru2⟩ := vals2 r2
 cases ru1
 exact min_top hk hc hu I2 x2.fh (x2.hh.seq sq) (rs.mono x2.ff) ru2 p0 h3 fun x v F' H' s' I' rx x3 px => ⟨x, H', I', rx, q0 x F' H' ((x1.trans x2).trans x3) px⟩
end
end
section
section
variable {prog : Program} {w : World} {A : Around} {E : Value -> Shared -> Prop} {s : Shared}
theorem N1 : isSubtype (.type "range_iterator") (.type "reversed") = pure false := by rw [isSubtype_type]; kernel_rfl
def zy3 (x left step : Int) : Obj := { cls := .type "range_iterator", dict := none, data := .fields #[rawInt x, rawInt left, rawInt step], slots := #[] }
end
def Itdn (hi : Int) (n : Nat) : It := ⟨fun i _ => i < n, fun i H x H' => H' = H /\ x = .int (hi - i), fun i _ => n <= i⟩
theorem turn_down {P : Program} {w : World} {K : PySem.W.Frag} {tg : Expr} (it : Addr) (lo : Int) (n : Nat) : Turn P w K tg (Itdn lo n) [it] it (fun i h => IsRangeIter h it (lo + (i : Nat) * (-1)) ((n : Int) - (i : Nat)) (-1)) where
 mem := by simp
 obj := fun i h st b hb => by
  have e : b = it := by simpa using hb
  subst e
  exact ⟨_, st, fun v z => by
   have z' : Data.fields _ = Data.cell v := z
   cases z'⟩
 keep := fun i h h' st k => k it (by simp) _ st
 item := by
  intro X hP hw hK hc i pins s σ H E I hf st hg
  subst hP hw hK
  obtain ⟨f0, f1, f2, f3, f4, f5⟩ := hf it (by simp)
  have W := Walks.range (prog := X.prog) (w := X.w) (I.ok.hd hc) it lo (-1) n
  refine W.item i s _ _ hg st fun v h' tk hv st' kk => ?_
  obtain ⟨t, rfl⟩ := hv
  have I1 : Inv X pins σ H { s with heap := h', toks := tk } := I.turned (fun b o hb e => kk b o (by simpa using hb) e) f0 f1 f3 f4 f5
  refine ⟨_, rfl, go_of (s := { s with heap := h', toks := tk }) (n := "range_iterator") st' rfl rfl (by decide) ⟨.int (lo - i), H, I1, ⟨t, ?_⟩, ⟨rfl, rfl⟩, st', fun b hb => (hf b hb).1⟩⟩
  rw [show lo + (i : Int) * (-1) = lo - i by omega]
 done := by
  intro X hP hw hK hc i pins s σ H E I hf st hg
  subst hP hw hK
  obtain ⟨f0, f1, f2, f3, f4, f5⟩ := hf it (by simp)
  exact wpAny_pyNext_range_end (I.ok.hd hc) st (by have : n <= i := hg; omega) fun h' eb => ⟨rfl, I.turned (t' := s.toks) (fun b o hb e => eb b o hb e) f0 f1 f3 f4 f5⟩
 self := fun _ _ _ _ _ st h => wpAny_pyIter_rangeiter st h
section
variable {X : Cx}
end
end
section
section
variable {X : Cx} {a b : Expr} {pos : Pos}
end
end
section
section
variable {X : Cx} {e : Expr} {pos : Pos} {es : List Expr} {E : XK} {mf : MG} {st : Stmt} {na : MEm}
end
section
variable {X : Cx} {a b : Expr} {pos : Pos}
def repOk (n : Nat) (k : Int) : Bool := decide (-(2 ^ 62) <= k) && decide (k < 2 ^ 62) && decide (n * k.toNat <= sizeLine)
@[irreducible] def mrep (x : ML) (y : ME) : ML := fun ρ => (x ρ).bind fun ds => match y ρ with
 | some (.int k) => if repOk ds.length k = true then some (List.replicate k.toNat ds).flatten else none
 | _ => none
theorem mrep_some {x : ML} {y : ME} {ρ : Ro} {gs : List D} (h : mrep x y ρ = some gs) : ∃ ds k, x ρ = some ds /\ y ρ = some (.int k) /\ repOk ds.length k = true /\ gs = (List.replicate k.toNat ds).flatten := by
 unfold mrep at h
 cases h1 : x ρ with
 | none => rw [h1] at h; cases h
 | some ds =>
  rw [h1, Option.bind_some] at h
  split at h
  ·rename_i k h2
   split at h
   ·rename_i hk
    exact ⟨ds, k, rfl, h2, hk, (Option.some.inj h).symm⟩
   ·cases h
  ·cases h
theorem mrep_ev {x : ML} {y : ME} {ρ : Ro} {ds : List D} {k : Int} (h1 : x ρ = some ds) (h2 : y ρ = some (.int k)) (hk : repOk ds.length k = true) : mrep x y ρ = some (List.replicate k.toNat ds).flatten := by
 unfold mrep
 rw [h1, Option.bind_some, h2]
 simp only [hk, if_true]
theorem zy5 {K : W.Frag} {F : Hp} {xs : List V} {ds : List D} (r : Reps K F xs ds) : ∀ k : Nat, Reps K F (List.replicate k xs).flatten (List.replicate k ds).flatten
 | 0 => .nil
 | k + 1 => by
  rw [replicate_succ, replicate_succ, flatten_cons, flatten_cons]
  exact r.append (zy5 r k)
theorem pf_rep {x : ML} {y : ME} (ha : PF X a x) (hb : PD X b y) : PF X (.BinOp a .Mult b pos) (mrep x y) := (pe_op op_rep ha hb).imp fun σ H Q hpat => by
 obtain ⟨F0, H0, F, ρ, g, rl, e, q⟩ := hpat
 obtain ⟨ds, k, h1, h2, hk, rfl⟩ := mrep_some e
 unfold repOk at hk
 simp only [Bool.and_eq_true, decide_eq_true_eq] at hk
 refine ⟨F0, H0, F, ρ, ds, rl, h1, fun p xs F1 H1 x1 n1 f1 g1 r1 => ⟨F0, H0, F1, ρ, .int k, rl.go x1, h2, fun v F2 H2 x2 r2 => ?_⟩⟩
 cases r2
 refine ⟨p, k, xs, rfl, rfl, x2.hh _ _ g1, by omega, by omega, by rw [r1.length]; exact hk.2, fun w hw => ?_⟩
 have xx := x1.trans x2
 exact q w _ F2 _ (xx.trans (Ext.own x2.fh hw)) (xx.hh.free hw) (x2.fh.free hw) y3 (zy5 (r1.mono x2.ff) k.toNat)
end
end
section
section
variable {X : Cx} {pins : List (Addr × Obj)} {σ : St}
end
end
section
theorem args_max_kd (a v u : Value) : argsOk "max" ⟨[a], [(Str.ofString "key", v), (Str.ofString "default", u)]⟩ := by unfold argsOk; kernel_rfl
def P9 : D -> Option D
 | .lst ds => some (.int ds.length)
 | _ => none
def gtI : D -> D -> Option Bool
 | .int i, .int j => some (decide (i > j))
 | _, _ => none
def maxF : List D -> D -> D -> Option D
 | [], b, _ => some b
 | d :: ds, b, kb => match P9 d with
  | some kd => (match gtI kd kb with | some true => maxF ds d kd | some false => maxF ds b kb | none => none)
  | none => none
def maxD (ds : List D) (d0 : D) : Option D := match ds with
 | [] => some d0
 | d :: ds => (match P9 d with | some kd => maxF ds d kd | none => none)
theorem gtI_inv {d e : D} {k : Bool} (h : gtI d e = some k) : ∃ i j, d = .int i /\ e = .int j /\ k = decide (i > j) := by
 cases d with
 | int i =>
  cases e with
  | int j => cases h; exact ⟨i, j, rfl, rfl, rfl⟩
  | _ => cases h
 | _ => cases h
theorem gt_at {K : W.Frag} {F F' : Hp} {A : Around} {s : Shared} {x y : V} {v u : Value} {d e : D} {k : Bool} (r1 : Rep K F x d) (r2 : Rep K F' y e) (q1 : RelV x v) (q2 : RelV y u) (h : gtI d e = some k) (prog : Program) (w : World) (E : Value -> Shared -> Prop) (Q : Value -> Shared -> Prop) (hQ : Q (.bool k) s) : wpAny (model prog w) A (richCompare .Gt v u) Q E s := by
 obtain ⟨i, j, rfl, rfl, rfl⟩ := gtI_inv h
 obtain rfl := r1.i'
 obtain rfl := r2.i'
 obtain ⟨t, rfl⟩ := q1
 obtain ⟨t', rfl⟩ := q2
 exact CmpOf.ints_gt (prog := prog) (w := w) (A := A) (P := fun n v => ∃ t, v = .int (if n = 1 then i else j) t) (fun n => if n = 1 then i else j) (fun i v h => h) 1 0 _ _ _ _ _ ⟨t, rfl⟩ ⟨t', rfl⟩ hQ
section
variable {X : Cx} {pins : List (Addr × Obj)} {σ : St}
theorem key_len (pins : List (Addr × Obj)) (σ : St) (H F : Hp) (s : Shared) (x : V) (u : Value) (d kd : D) (I : Inv X pins σ H s) (sf : Same F H) (r : Rep X.K F x d) (rx : RelV x u) (hm : P9 d = some kd) :
  wpAny (model X.prog X.w) X.A.in1 (call (.builtin "len") [u]) (fun w s' => ∃ y F' H', Inv X pins σ H' s' /\ RelV y w /\ Ext F H F' H' /\ Rep X.K F' y kd) (fun _ _ => False) s := by
 cases r <;> first | (cases hm; done) | skip
 rename_i a xs ds sq rs
 cases hm
 cases rx
 have hn := K3
 obtain ⟨its, r', pl, hz⟩ := I.list (sf.seq sq)
 have hlen := r'.length
 refine Calls.call_len_list pl.isList (by simp only [size_toArray] <;> omega) ⟨.int ds.length, F, H, I.tok _, ⟨s.toks + 1, by rw [size_toArray, <- hlen, rs.length]⟩, .refl sf, .int _⟩
set_option maxHeartbeats 8000000 in
theorem max_loop (hc : X.calm = true) (hu : X.A.units + 64 < cLine) {l I S : Addr} {xs : List V} {ds : List D} {kw : List (Str × Value)} {dm : D} (hIS : I ≠ S) (hlI : l ≠ I) (hlS : l ≠ S) :
  ∀ (r j : Nat) (H F H0 F0 : Hp) (s : Shared) (xb yb : V) (vb kb : Value) (db kdb : D) (c : Nat) (R : Result -> Shared -> Prop),
   ds.length - (j + 1) = r -> j + 1 <= ds.length -> Inv X pins σ H s -> Ext F0 H0 F H -> SqL X.K H l xs -> Reps X.K F xs ds -> s.heap.IsListIter I l (j + 1) -> s.heap.get? S = some (seqObj "list" #[vb, kb] c) -> FpOk X pins H I -> FpOk X pins H S ->
   RelV xb vb -> Rep X.K F xb db -> RelV yb kb -> Rep X.K F yb kdb -> maxF (ds.drop (j + 1)) db kdb = some dm ->
   (∀ x v F' H' s', Inv X pins σ H' s' -> RelV x v -> Ext F0 H0 F' H' -> Rep X.K F' x dm -> R (.ok (.ret v)) s') ->
   codeAny (model X.prog X.w) X.A (.builtin "max.loop" ⟨[.ref I, .builtin "len", .ref S], kw⟩) R s := by
 have hname : (toString "max" ++ toString ".loop" : String) = "max.loop" := by decide
 intro r
 induction r with
 | zero =>
  intro j H F H0 F0 s xb yb vb kb db kdb c R hr hj I' ext sq rs hit hS fI fS rb pb ry py hm hR
  have hin : j + 1 = ds.length := by omega
  obtain ⟨its, vr, pl, _⟩ := I'.list sq
  have zl : its.length = ds.length := by rw [<- vr.length, rs.length]
  rw [hin, drop_length] at hm
  have hm : some db = some dm := hm
  cases hm
  refine codeAny_builtin PySem.F.entry_max_loop ?_
  rw [Around.under_plainId PySem.F.plain_max_loop _]
  show wpAny _ X.A.in1 (seqItems? (.ref S) >>= _) _ _ _
  refine wpAny_bind (wpAny_seqItems hS rfl ?_)
  show wpAny _ X.A.in1 (tryCatch (pyNext (.ref I)) _ >>= _) _ _ _
  refine wpAny_bind (wpAny_tryCatch (wpAny_pyNext_list_end (I'.ok.hd hc) hit pl.isList (by simp; omega) fun h' hk' => ?_))
  have hS' : h'.get? S = some (seqObj "list" #[vb, kb] c) := hk' S _ (Ne.symm hIS) hS
  have s1 := Heap.SameBut.update h' S (Obj.mapSeq fun _ => (#[] : Array Value))
  show wpAny _ X.A.in1 (updateSeq S (fun _ => #[]) >>= _) _ _ _
  refine wpAny_bind ?_
  refine wpAny_updateSeq hS' rfl (wpAny_bind (wpAny_letGo (wpAny_pure ?_)))
  have I9 : Inv X pins σ H { s with heap := h'.update S (Obj.mapSeq fun _ => (#[] : Array Value)), toks := s.toks } := I'.turnedL (fp := [I, S]) (t' := s.toks) (fun b o hb e => by
   simp only [mem_cons, not_mem_nil, or_false, not_or] at hb
   exact (s1.2 b hb.2).trans (hk' b o hb.1 e)) (fun b hb => by
   simp only [mem_cons, not_mem_nil, or_false] at hb
   rcases hb with rfl | rfl <;> assumption)
  exact hR xb vb F H _ I9 rb ext pb
 | succ r ih =>
  intro j H F H0 F0 s xb yb vb kb db kdb c R hr hj I' ext sq rs hit hS fI fS rb pb ry py hm hR
  have hlt : j + 1 < ds.length := by omega
  obtain ⟨its, vr, pl, _⟩ := I'.list sq
  have zl : its.length = ds.length := by rw [<- vr.length, rs.length]
  obtain ⟨d, hd⟩ : ∃ d, ds[j + 1]? = some d := ⟨_, getElem?_eq_getElem hlt⟩
  obtain ⟨x, hx, px⟩ := rs.get hd
  obtain ⟨v, hv, rx⟩ := vr.get hx
  rw [g6 hd] at hm
  unfold maxF at hm
  cases hkd : P9 d with
  | none => rw [hkd] at hm; cases hm
  | some kd =>
   rw [hkd] at hm
   dsimp only at hm
   refine codeAny_builtin PySem.F.entry_max_loop ?_
   rw [Around.under_plainId PySem.F.plain_max_loop _]
   show wpAny _ X.A.in1 (seqItems? (.ref S) >>= _) _ _ _
   refine wpAny_bind (wpAny_seqItems hS rfl ?_)
   show wpAny _ X.A.in1 (tryCatch (pyNext (.ref I)) _ >>= _) _ _ _
   refine wpAny_bind (wpAny_tryCatch (wpAny_pyNext_list_item hit pl.isList (by simpa using hv) fun h1 hit1 s1 => ?_))
   have I1 : Inv X pins σ H { s with heap := h1, toks := s.toks } := I'.turnedL (fp := [I]) (fun b o hb e => s1.extBut b o (by simpa using hb) e) (fun b hb => by rw [List.mem_singleton.mp hb]; exact fI)
   have hS1 : h1.get? S = some (seqObj "list" #[vb, kb] c) := s1.extBut _ _ (Ne.symm hIS) hS
   obtain ⟨oI, eI, cI, dI⟩ := id hit1
   have Ip := I1.pin2 fI fS eI hS1 (fun v z => by rw [dI] at z; cases z) (fun v z => by cases z)
   show wpAny _ X.A.in1 (tryCatch (holding [v] (call (.builtin "len") [v])) _ >>= _) _ _ _
   refine wpAny_bind (wpAny_tryCatch (wpAny_holding (wpAny_mono (key_len (pins ++ [(I, oI), (S, seqObj "list" #[vb, kb] c)]) σ H F _ x v d kd Ip ext.fh px rx hkd) (fun w s2 hw => ?_) fun _ _ z => z.elim)))
   obtain ⟨y, F2, H2, I2, rw2, x2, py2⟩ := hw
   have pI := I2.pin (I, oI) (by simp)
   have pS := I2.pin (S, seqObj "list" #[vb, kb] c) (by simp)
   have I2' : Inv X pins σ H2 s2 := I2.unpinned
   have fI2 : FpOk X pins H2 I := fI.now pI.2.1
   have fS2 : FpOk X pins H2 S := fS.now pS.2.1
   have hit2 : s2.heap.IsListIter I l (j + 1 + 1) := ⟨oI, pI.1, cI, dI⟩
   cases hlt8 : gtI kd kdb with
   | none => rw [hlt8] at hm; cases hm
   | some bt =>
    rw [hlt8] at hm
    have hcmp := gt_at (A := X.A.in1) (s := s2) py2 py rw2 ry hlt8
    show wpAny _ X.A.in1 (tryCatch (holding [v, w] (richCompare .Gt w kb >>= _)) _ >>= _) _ _ _
    refine wpAny_bind (wpAny_tryCatch (wpAny_holding (wpAny_bind (hcmp X.prog X.w _ _ ?_))))
    refine wpAny_bind (wpAny_holding (wpAny_truthy_bool ?_))
    refine wpAny_bind (wpAny_letGo (wpAny_pure ?_))
    cases bt with
    | true =>
     have s3 := Heap.SameBut.update s2.heap S (Obj.mapSeq fun _ => #[v, w])
     obtain ⟨c2, hc2⟩ : ∃ c2, (s2.heap.update S (Obj.mapSeq fun _ => #[v, w])).get? S = some (seqObj "list" #[v, w] c2) := ⟨_, get?_update_seq pS.1 fun _ => #[v, w]⟩
     simp only [if_true]
     refine wpAny_bind ?_
     refine wpAny_updateSeq pS.1 rfl (wpAny_bind (wpAny_letGo ?_))
     rw [hname]
     have I3 : Inv X pins σ H2 { s2 with heap := s2.heap.update S (Obj.mapSeq fun _ => #[v, w]), toks := s2.toks } := I2'.turnedL (fp := [S]) (fun b o hb e => (s3.2 b (by simpa using hb)).trans e) (fun b hb => by rw [List.mem_singleton.mp hb]; exact fS2)
     refine wpAny_pure ⟨plainId_quiet PySem.F.plain_max_loop _, ih (j + 1) H2 F2 H0 F0 _ x y v w d kd c2 R (by omega) hlt I3 (ext.trans x2) (x2.hh.seq sq) (rs.mono x2.ff) ⟨oI, (s3.2 I hIS).trans pI.1, cI, dI⟩ hc2 fI2 fS2 rx (px.mono x2.ff) rw2 py2 hm hR⟩
    | false =>
     simp only [Bool.false_eq_true, if_false]
     refine wpAny_bind (wpAny_letGo ?_)
     rw [hname]
     refine wpAny_pure ⟨plainId_quiet PySem.F.plain_max_loop _, ih (j + 1) H2 F2 H0 F0 _ xb yb vb kb db kdb c R (by omega) hlt I2' (ext.trans x2) (x2.hh.seq sq) (rs.mono x2.ff) hit2 pS.1 fI2 fS2 rb (pb.mono x2.ff) ry (py.mono x2.ff) hm hR⟩
set_option maxHeartbeats 8000000 in
theorem max_top (hc : X.calm = true) (hu : X.A.units + 64 < cLine) {l : Addr} {xs : List V} {ds : List D} {dm d0 : D} {H F : Hp} {s : Shared} {x0 : V} {v0 : Value} {E : Value -> Shared -> Prop} {Q : Value -> Shared -> Prop}
  (I : Inv X pins σ H s) (sf : Same F H) (sq : SqL X.K H l xs) (rs : Reps X.K F xs ds) (r0 : RelV x0 v0) (p0 : Rep X.K F x0 d0) (hm : maxD ds d0 = some dm)
  (hQ : ∀ x v F' H' s', Inv X pins σ H' s' -> RelV x v -> Ext F H F' H' -> Rep X.K F' x dm -> Q v s') :
  wpAny (model X.prog X.w) X.A (call (.builtin "max") [.ref l] [(Str.ofString "key", .builtin "len"), (Str.ofString "default", v0)]) Q E s := by
 have hname : (toString "max" ++ toString ".loop" : String) = "max.loop" := by decide
 obtain ⟨its, vr, pl, _⟩ := I.list sq
 have hls := pl.isList
 obtain ⟨ol, hol, _⟩ := id hls
 have hll : l < s.heap.objs.size := Heap.lt_size hol
 refine kmk_tree PySem.F.kind_max PySem.F.plain_max PySem.F.entry_max (args_max_kd _ _ _) ?_
 show wpAny _ X.A.in1 (Builtin.Builtins.bindParams "max" ["key", "default"] 0 ⟨[], [(Str.ofString "key", .builtin "len"), (Str.ofString "default", v0)]⟩ >>= _) _ _ s
 refine wpAny_bind (wpAny_of_eq (show Builtin.Builtins.bindParams "max" ["key", "default"] 0 ⟨[], [(Str.ofString "key", .builtin "len"), (Str.ofString "default", v0)]⟩ = pure [some (.builtin "len"), some v0] from rfl) ?_)
 refine wpAny_bind (wpAny_pure ?_)
 refine wpAny_bind (wpAny_pyIter_list hls ?_)
 refine wpAny_bind (wpAny_newList ?_ (Nat.zero_le _))
 rw [hname]
 refine wpAny_pure ⟨plainId_quiet PySem.F.plain_max_loop _, ?_⟩
 generalize hIo : ({ cls := .type "list_iterator", data := .fields #[.ref l, .int 0 0] } : Obj) = oI0
 have hS : (s.heap.push oI0).objs.size = s.heap.objs.size + 1 := size_push' ..
 have hlI : l ≠ s.heap.objs.size := Nat.ne_of_lt hll
 have hlS : l ≠ (s.heap.push oI0).objs.size := by rw [hS]; exact Nat.ne_of_lt (Nat.lt_succ_of_lt hll)
 have hIS : s.heap.objs.size ≠ (s.heap.push oI0).objs.size := by rw [hS]; exact Nat.ne_of_lt (Nat.lt_succ_self _)
 have gI : ((s.heap.push oI0).push (seqObj "list" #[] 0)).get? s.heap.objs.size = some oI0 := Heap.get?_push_of_some _ (Heap.get?_push_size _ (by rw [<- hIo]; rfl))
 have gS : ((s.heap.push oI0).push (seqObj "list" #[] 0)).get? (s.heap.push oI0).objs.size = some (seqObj "list" #[] 0) := Heap.get?_push_size _ rfl
 have fI : FpOk X pins H s.heap.objs.size := I.fpOk (Nat.le_refl _) (I.hok.fresh (Nat.le_refl _))
 have fS : FpOk X pins H (s.heap.push oI0).objs.size := I.fpOk (by rw [hS]; exact Nat.le_succ _) (I.hok.fresh (by rw [hS]; exact Nat.le_succ _))
 have I0 : Inv X pins σ H { s with heap := (s.heap.push oI0).push (seqObj "list" #[] 0), toks := s.toks } := I.turnedL (fp := []) (fun b o _ e => Heap.get?_push_of_some _ (Heap.get?_push_of_some _ e)) (fun b hb => by cases hb)
 generalize (s.heap.push oI0).objs.size = S at *
 generalize hI : s.heap.objs.size = J at *
 generalize (s.heap.push oI0).push (seqObj "list" #[] 0) = h0 at *
 have hit : h0.IsListIter J l 0 := ⟨_, gI, by rw [<- hIo], by rw [<- hIo]; rfl⟩
 have zl : its.length = ds.length := by rw [<- vr.length, rs.length]
 obtain ⟨its', vr', pl', _⟩ := I0.list sq
 have zl' : its'.length = ds.length := by rw [<- vr'.length, rs.length]
 refine codeAny_builtin PySem.F.entry_max_loop ?_
 rw [Around.under_plainId PySem.F.plain_max_loop _]
 show wpAny _ X.A.in1 (seqItems? (.ref S) >>= _) _ _ _
 refine wpAny_bind (wpAny_seqItems gS rfl ?_)
 show wpAny _ X.A.in1 (tryCatch (pyNext (.ref J)) _ >>= _) _ _ _
 cases ds with
 | nil =>
  have hm : some d0 = some dm := hm
  cases hm
  refine wpAny_bind (wpAny_tryCatch (wpAny_pyNext_list_end (I.ok.hd hc) hit pl'.isList (by simp at zl' ⊢; simp [zl']) fun h' hk' => ?_))
  refine wpAny_bind (wpAny_rule (wpAny_pure ?_))
  have I9 := I0.turnedL (h' := h') (fp := [J]) (t' := s.toks) (fun b o hb e => hk' b o (by simpa using hb) e) (fun b hb => by rw [List.mem_singleton.mp hb]; exact fI)
  exact hQ x0 v0 F H _ I9 r0 (Ext.refl sf) p0
 | cons d ds =>
  obtain ⟨x, hx, px⟩ := rs.get (i := 0) (d := d) rfl
  obtain ⟨v, hv, rx⟩ := vr'.get hx
  unfold maxD at hm
  dsimp only at hm
  cases hkd : P9 d with
  | none => rw [hkd] at hm; cases hm
  | some kd =>
   rw [hkd] at hm
   dsimp only at hm
   refine wpAny_bind (wpAny_tryCatch (wpAny_pyNext_list_item hit pl'.isList (by simpa using hv) fun h1 hit1 s1 => ?_))
   have I1 := I0.turnedL (h' := h1) (t' := s.toks) (fp := [J]) (fun b o hb e => s1.extBut b o (by simpa using hb) e) (fun b hb => by rw [List.mem_singleton.mp hb]; exact fI)
   have hS1 : h1.get? S = some (seqObj "list" #[] 0) := s1.extBut _ _ (Ne.symm hIS) gS
   obtain ⟨oI, eI, cI, dI⟩ := id hit1
   have Ip := I1.pin2 fI fS eI hS1 (fun v z => by rw [dI] at z; cases z) (fun v z => by cases z)
   show wpAny _ X.A.in1 (tryCatch (holding [v] (call (.builtin "len") [v])) _ >>= _) _ _ _
   refine wpAny_bind (wpAny_tryCatch (wpAny_holding (wpAny_mono (key_len (pins ++ [(J, oI), (S, seqObj "list" #[] 0)]) σ H F _ x v d kd Ip sf px rx hkd) (fun w s2 hw => ?_) fun _ _ z => z.elim)))
   obtain ⟨y, F2, H2, I2, rw2, x2, py2⟩ := hw
   have pI := I2.pin (J, oI) (by simp)
   have pS := I2.pin (S, seqObj "list" #[] 0) (by simp)
   have I2' : Inv X pins σ H2 s2 := I2.unpinned
   have fI2 : FpOk X pins H2 J := fI.now pI.2.1
   have fS2 : FpOk X pins H2 S := fS.now pS.2.1
   have s3 := Heap.SameBut.update s2.heap S (Obj.mapSeq fun _ => #[v, w])
   obtain ⟨c2, hc2⟩ : ∃ c2, (s2.heap.update S (Obj.mapSeq fun _ => #[v, w])).get? S = some (seqObj "list" #[v, w] c2) := ⟨_, get?_update_seq pS.1 fun _ => #[v, w]⟩
   show wpAny _ X.A.in1 (updateSeq S (fun _ => #[v, w]) >>= _) _ _ _
   refine wpAny_bind (wpAny_updateSeq pS.1 rfl ?_)
   rw [hname]
   have I3 : Inv X pins σ H2 { s2 with heap := s2.heap.update S (Obj.mapSeq fun _ => #[v, w]), toks := s2.toks } := I2'.turnedL (fp := [S]) (fun b o hb e => (s3.2 b (by simpa using hb)).trans e) (fun b hb => by rw [List.mem_singleton.mp hb]; exact fS2)
   refine wpAny_pure ⟨plainId_quiet PySem.F.plain_max_loop _, max_loop hc hu (ds := d :: ds) (dm := dm) hIS hlI hlS _ 0 H2 F2 H F _ x y v w d kd c2 _ rfl (by simp) I3 x2 (x2.hh.seq sq) (rs.mono x2.ff) ⟨oI, (s3.2 J hIS).trans pI.1, cI, dI⟩ hc2 fI2 fS2 rx (px.mono x2.ff) rw2 py2 hm fun x v F' H' s' a b c d => hQ x v F' H' s' a b c d⟩
@[irreducible] def Q6 (m : ML) (md : ME) : ME := fun ρ => (m ρ).bind fun ds => (md ρ).bind fun d0 => maxD ds d0
theorem zw1 {m : ML} {md : ME} {ρ : Ro} {g : D} (h : Q6 m md ρ = some g) : ∃ ds d0, m ρ = some ds /\ md ρ = some d0 /\ maxD ds d0 = some g := by
 unfold Q6 at h
 cases h1 : m ρ with
 | none => rw [h1] at h; cases h
 | some d =>
  cases h2 : md ρ with
  | none => rw [h1, h2] at h; cases h
  | some e => rw [h1, h2] at h; exact ⟨d, e, rfl, rfl, h⟩
theorem mmaxLen_ev {m : ML} {md : ME} {ρ : Ro} {ds : List D} {d0 : D} (h1 : m ρ = some ds) (h2 : md ρ = some d0) : Q6 m md ρ = maxD ds d0 := by
 unfold Q6
 rw [h1, h2]; rfl
theorem pd_maxLen {p pf kp kp2 pos : Pos} {e ed : Expr} {m : ML} {md : ME} (hc : X.calm = true) (hu : X.A.units + 64 < cLine) (hg : Gl X "max") (hm : X.mg "max" = none) (hgf : Gl X "len") (hmf : X.mg "len" = none) (ha : PB X e m) (hd : PD X ed md)
  (hs : starEach (e :: []) X.env = (false, eval e X.env) :: starEach [] X.env := by rfl) :
  PD X (.Call (.Name "max" p) [e] [⟨some "key", .Name "len" pf, kp⟩, ⟨some "default", ed, kp2⟩] pos) (Q6 m md) := by
 intro pins s σ H Q I h
 obtain ⟨F0, H0, F, ρ, g, rl, em, q0⟩ := h
 obtain ⟨ds, d0, h1, h2, h3⟩ := zw1 em
 refine wpAny_Call_Name_kw (X3 I hg hm PyProof.Rows.boot_max ?_ (by decide) (by decide))
 have A := u8 ha pa_nil hs pos pins s σ H (fun vs H1 => ∃ p xs F1, vs = [.ref p] /\ Ext F H F1 H1 /\ SqL X.K H1 p xs /\ Reps X.K F1 xs ds) I ⟨F0, H0, F, ρ, ds, rl, h1, fun p xs F1 H1 x1 s1 r1 => ⟨p, xs, F1, rfl, x1, s1, r1⟩⟩
 refine callWith_kw (thn A fun us s1 hpat => ?_) (by rw [hs]; rfl) (by rw [hs]; rfl)
 obtain ⟨vs, H1, I1, r1, p, xs, F1, ev, x1, sq, rs⟩ := hpat
 subst ev
 obtain ⟨u, rfl, ru⟩ := V7 r1
 cases ru
 show wpAny _ _ (evalAll ((do let v ← eval (.Name "len" pf) X.env; standAt pos; pure v) :: (backToKw pos (keywordEach [⟨some "default", ed, kp2⟩] X.env)).map (·.2))) _ _ s1
 refine wpAny_evalAll_cons (wpAny_bind (X3 I1 hgf hmf boot_len (wpAny_bind (wpAny_standAt (wpAny_pure ?_))) (by decide) (by decide)))
 have B := C5 (nm := some "default") (kpos := kp2) hd pk_nil pos pins s1 σ H1 (fun vs H2 => ∃ y F2, vs = [y] /\ Ext F1 H1 F2 H2 /\ Rep X.K F2 y d0) I1 ⟨F0, H0, F1, ρ, d0, rl.go x1, h2, fun y F2 H2 x2 r2 => ⟨y, F2, rfl, x2, r2⟩⟩
 refine thn B fun us s2 hpat => ?_
 obtain ⟨vs, H2, I2, r2, y, F2, ev, x2, p0⟩ := hpat
 subst ev
 obtain ⟨u2, rfl, ru2⟩ := V7 r2
 exact max_top hc hu I2 x2.fh (x2.hh.seq sq) (rs.mono x2.ff) ru2 p0 h3 fun x v F' H' s' I' rx x3 px => ⟨x, H', I', rx, q0 x F' H' ((x1.trans x2).trans x3) px⟩
end
end
section
def minP : List D -> D -> Option D
 | [], b => some b
 | d :: ds, b => (match ltF 8 d b with | some true => minP ds d | some false => minP ds b | none => none)
section
variable {X : Cx} {pins : List (Addr × Obj)} {σ : St}
set_option maxHeartbeats 8000000 in
theorem min_loop0 (hc : X.calm = true) (hu : X.A.units + 64 < cLine) {l I S : Addr} {xs : List V} {ds : List D} {kw : List (Str × Value)} {dm : D} (hIS : I ≠ S) (hlI : l ≠ I) (hlS : l ≠ S) :
  ∀ (r j : Nat) (H F H0 F0 : Hp) (s : Shared) (xb : V) (vb : Value) (db : D) (c : Nat) (R : Result -> Shared -> Prop),
   ds.length - (j + 1) = r -> j + 1 <= ds.length -> Inv X pins σ H s -> Ext F0 H0 F H -> SqL X.K H l xs -> Reps X.K F xs ds -> s.heap.IsListIter I l (j + 1) -> s.heap.get? S = some (seqObj "list" #[vb, vb] c) -> FpOk X pins H I -> FpOk X pins H S ->
   RelV xb vb -> Rep X.K F xb db -> minP (ds.drop (j + 1)) db = some dm ->
   (∀ x v F' H' s', Inv X pins σ H' s' -> RelV x v -> Ext F0 H0 F' H' -> Rep X.K F' x dm -> R (.ok (.ret v)) s') ->
   codeAny (model X.prog X.w) X.A (.builtin "min.loop" ⟨[.ref I, .none, .ref S], kw⟩) R s := by
 have hname : (toString "min" ++ toString ".loop" : String) = "min.loop" := by decide
 intro r
 induction r with
 | zero =>
  intro j H F H0 F0 s xb vb db c R hr hj I' ext sq rs hit hS fI fS rb pb hm hR
  have hin : j + 1 = ds.length := by omega
  obtain ⟨its, vr, pl, _⟩ := I'.list sq
  have zl : its.length = ds.length := by rw [<- vr.length, rs.length]
  rw [hin, drop_length] at hm
  have hm : some db = some dm := hm
  cases hm
  refine codeAny_builtin PySem.F.entry_min_loop ?_
  rw [Around.under_plainId PySem.F.plain_min_loop _]
  show wpAny _ X.A.in1 (seqItems? (.ref S) >>= _) _ _ _
  refine wpAny_bind (wpAny_seqItems hS rfl ?_)
  show wpAny _ X.A.in1 (tryCatch (pyNext (.ref I)) _ >>= _) _ _ _
  refine wpAny_bind (wpAny_tryCatch (wpAny_pyNext_list_end (I'.ok.hd hc) hit pl.isList (by simp; omega) fun h' hk' => ?_))
  have hS' : h'.get? S = some (seqObj "list" #[vb, vb] c) := hk' S _ (Ne.symm hIS) hS
  have s1 := Heap.SameBut.update h' S (Obj.mapSeq fun _ => (#[] : Array Value))
  show wpAny _ X.A.in1 (updateSeq S (fun _ => #[]) >>= _) _ _ _
  refine wpAny_bind ?_
  refine wpAny_updateSeq hS' rfl (wpAny_bind (wpAny_letGo (wpAny_pure ?_)))
  have I9 : Inv X pins σ H { s with heap := h'.update S (Obj.mapSeq fun _ => (#[] : Array Value)), toks := s.toks } := I'.turnedL (fp := [I, S]) (t' := s.toks) (fun b o hb e => by
   simp only [mem_cons, not_mem_nil, or_false, not_or] at hb
   exact (s1.2 b hb.2).trans (hk' b o hb.1 e)) (fun b hb => by
   simp only [mem_cons, not_mem_nil, or_false] at hb
   rcases hb with rfl | rfl <;> assumption)
  exact hR xb vb F H _ I9 rb ext pb
 | succ r ih =>
  intro j H F H0 F0 s xb vb db c R hr hj I' ext sq rs hit hS fI fS rb pb hm hR
  have hlt : j + 1 < ds.length := by omega
  obtain ⟨its, vr, pl, _⟩ := I'.list sq
  have zl : its.length = ds.length := by rw [<- vr.length, rs.length]
  obtain ⟨d, hd⟩ : ∃ d, ds[j + 1]? = some d := ⟨_, getElem?_eq_getElem hlt⟩
  obtain ⟨x, hx, px⟩ := rs.get hd
  obtain ⟨v, hv, rx⟩ := vr.get hx
  rw [g6 hd] at hm
  unfold minP at hm
  refine codeAny_builtin PySem.F.entry_min_loop ?_
  rw [Around.under_plainId PySem.F.plain_min_loop _]
  show wpAny _ X.A.in1 (seqItems? (.ref S) >>= _) _ _ _
  refine wpAny_bind (wpAny_seqItems hS rfl ?_)
  show wpAny _ X.A.in1 (tryCatch (pyNext (.ref I)) _ >>= _) _ _ _
  refine wpAny_bind (wpAny_tryCatch (wpAny_pyNext_list_item hit pl.isList (by simpa using hv) fun h1 hit1 s1 => ?_))
  have I1 : Inv X pins σ H { s with heap := h1, toks := s.toks } := I'.turnedL (fp := [I]) (fun b o hb e => s1.extBut b o (by simpa using hb) e) (fun b hb => by rw [List.mem_singleton.mp hb]; exact fI)
  have hS1 : h1.get? S = some (seqObj "list" #[vb, vb] c) := s1.extBut _ _ (Ne.symm hIS) hS
  cases hlt8 : ltF 8 d db with
  | none => rw [hlt8] at hm; cases hm
  | some bt =>
   rw [hlt8] at hm
   have hcmp := lt_at I1 8 (A := X.A.in1) (by show X.A.units + 1 + 8 < cLine; omega) (px.mono ext.fh) (pb.mono ext.fh) rx rb hlt8
   refine wpAny_bind (wpAny_pure ?_)
   show wpAny _ X.A.in1 (tryCatch (holding [v, v] (richCompare .Lt v vb >>= _)) _ >>= _) _ _ _
   refine wpAny_bind (wpAny_tryCatch (wpAny_holding (wpAny_bind (hcmp X.prog X.w _ _ ?_))))
   refine wpAny_bind (wpAny_holding (wpAny_truthy_bool ?_))
   refine wpAny_bind (wpAny_letGo (wpAny_pure ?_))
   cases bt with
   | true =>
    have s3 := Heap.SameBut.update h1 S (Obj.mapSeq fun _ => #[v, v])
    obtain ⟨c2, hc2⟩ : ∃ c2, (h1.update S (Obj.mapSeq fun _ => #[v, v])).get? S = some (seqObj "list" #[v, v] c2) := ⟨_, get?_update_seq hS1 fun _ => #[v, v]⟩
    simp only [if_true]
    refine wpAny_bind ?_
    refine wpAny_updateSeq hS1 rfl (wpAny_bind (wpAny_letGo ?_))
    rw [hname]
    have I3 := I1.turnedL (h' := h1.update S (Obj.mapSeq fun _ => #[v, v])) (t' := s.toks) (fp := [S]) (fun b o hb e => (s3.2 b (by simpa using hb)).trans e) (fun b hb => by rw [List.mem_singleton.mp hb]; exact fS)
    refine wpAny_pure ⟨plainId_quiet PySem.F.plain_min_loop _, ih (j + 1) H F H0 F0 _ x v d c2 R (by omega) hlt I3 ext sq rs (hit1.at fun o e => (s3.2 I hIS).trans e) hc2 fI fS rx px hm hR⟩
   | false =>
    simp only [Bool.false_eq_true, if_false]
    refine wpAny_bind (wpAny_letGo ?_)
    rw [hname]
    refine wpAny_pure ⟨plainId_quiet PySem.F.plain_min_loop _, ih (j + 1) H F H0 F0 _ xb vb db c R (by omega) hlt I1 ext sq rs hit1 hS1 fI fS rb pb hm hR⟩
end
theorem args_min_1 (a : Value) : argsOk "min" ⟨[a], []⟩ := by unfold argsOk; kernel_rfl
def rMinP (K : W.Frag) : List V -> Hp -> VK -> Prop := fun vs H Q => ∃ p xs d ds dm F, vs = [.ref p] /\ SqL K H p xs /\ Same F H /\ Reps K F xs (d :: ds) /\ minP ds d = some dm /\ ∀ x F' H', Ext F H F' H' -> Rep K F' x dm -> Q x H'
section
variable {X : Cx}
set_option maxHeartbeats 8000000 in
theorem call_minP (hc : X.calm = true) (hu : X.A.units + 64 < cLine) : CallR X (.builtin "min") (rMinP X.K) := by
 intro pins s σ H vs us Q I r h
 obtain ⟨l, xs, d, ds, dm, F, rfl, sq, sf, rs, hm, q⟩ := h
 obtain ⟨u, rfl, ru⟩ := V7 r
 cases ru
 have hname : (toString "min" ++ toString ".loop" : String) = "min.loop" := by decide
 obtain ⟨its, vr, pl, _⟩ := I.list sq
 have hls := pl.isList
 obtain ⟨ol, hol, _⟩ := id hls
 have hll : l < s.heap.objs.size := Heap.lt_size hol
 refine kmk_tree PySem.F.kind_min PySem.F.plain_min PySem.F.entry_min (args_min_1 _) ?_
 show wpAny _ X.A.in1 (Builtin.Builtins.bindParams "min" ["key", "default"] 0 ⟨[], []⟩ >>= _) _ _ s
 refine wpAny_bind (wpAny_of_eq (show Builtin.Builtins.bindParams "min" ["key", "default"] 0 ⟨[], []⟩ = pure [none, none] from rfl) ?_)
 refine wpAny_bind (wpAny_pure ?_)
 refine wpAny_bind (wpAny_pyIter_list hls ?_)
 refine wpAny_bind (wpAny_newList ?_ (Nat.zero_le _))
 rw [hname]
 refine wpAny_pure ⟨plainId_quiet PySem.F.plain_min_loop _, ?_⟩
 generalize hIo : ({ cls := .type "list_iterator", data := .fields #[.ref l, .int 0 0] } : Obj) = oI0
 have hS : (s.heap.push oI0).objs.size = s.heap.objs.size + 1 := size_push' ..
 have hlI : l ≠ s.heap.objs.size := Nat.ne_of_lt hll
 have hlS : l ≠ (s.heap.push oI0).objs.size := by rw [hS]; exact Nat.ne_of_lt (Nat.lt_succ_of_lt hll)
 have hIS : s.heap.objs.size ≠ (s.heap.push oI0).objs.size := by rw [hS]; exact Nat.ne_of_lt (Nat.lt_succ_self _)
 have gI : ((s.heap.push oI0).push (seqObj "list" #[] 0)).get? s.heap.objs.size = some oI0 := Heap.get?_push_of_some _ (Heap.get?_push_size _ (by rw [<- hIo]; rfl))
 have gS : ((s.heap.push oI0).push (seqObj "list" #[] 0)).get? (s.heap.push oI0).objs.size = some (seqObj "list" #[] 0) := Heap.get?_push_size _ rfl
 have fI : FpOk X pins H s.heap.objs.size := I.fpOk (Nat.le_refl _) (I.hok.fresh (Nat.le_refl _))
 have fS : FpOk X pins H (s.heap.push oI0).objs.size := I.fpOk (by rw [hS]; exact Nat.le_succ _) (I.hok.fresh (by rw [hS]; exact Nat.le_succ _))
 have I0 : Inv X pins σ H { s with heap := (s.heap.push oI0).push (seqObj "list" #[] 0), toks := s.toks } := I.turnedL (fp := []) (fun b o _ e => Heap.get?_push_of_some _ (Heap.get?_push_of_some _ e)) (fun b hb => by cases hb)
 generalize (s.heap.push oI0).objs.size = S at *
 generalize hI : s.heap.objs.size = J at *
 generalize (s.heap.push oI0).push (seqObj "list" #[] 0) = h0 at *
 have hit : h0.IsListIter J l 0 := ⟨_, gI, by rw [<- hIo], by rw [<- hIo]; rfl⟩
 obtain ⟨its', vr', pl', _⟩ := I0.list sq
 refine codeAny_builtin PySem.F.entry_min_loop ?_
 rw [Around.under_plainId PySem.F.plain_min_loop _]
 show wpAny _ X.A.in1 (seqItems? (.ref S) >>= _) _ _ _
 refine wpAny_bind (wpAny_seqItems gS rfl ?_)
 show wpAny _ X.A.in1 (tryCatch (pyNext (.ref J)) _ >>= _) _ _ _
 obtain ⟨x, hx, px⟩ := rs.get (i := 0) (d := d) rfl
 obtain ⟨v, hv, rx⟩ := vr'.get hx
 refine wpAny_bind (wpAny_tryCatch (wpAny_pyNext_list_item hit pl'.isList (by simpa using hv) fun h1 hit1 s1 => ?_))
 have I1 := I0.turnedL (h' := h1) (t' := s.toks) (fp := [J]) (fun b o hb e => s1.extBut b o (by simpa using hb) e) (fun b hb => by rw [List.mem_singleton.mp hb]; exact fI)
 have hS1 : h1.get? S = some (seqObj "list" #[] 0) := s1.extBut _ _ (Ne.symm hIS) gS
 refine wpAny_bind (wpAny_pure ?_)
 have s3 := Heap.SameBut.update h1 S (Obj.mapSeq fun _ => #[v, v])
 obtain ⟨c2, hc2⟩ : ∃ c2, (h1.update S (Obj.mapSeq fun _ => #[v, v])).get? S = some (seqObj "list" #[v, v] c2) := ⟨_, get?_update_seq hS1 fun _ => #[v, v]⟩
 show wpAny _ X.A.in1 (updateSeq S (fun _ => #[v, v]) >>= _) _ _ _
 refine wpAny_bind (wpAny_updateSeq hS1 rfl ?_)
 rw [hname]
 have I3 := I1.turnedL (h' := h1.update S (Obj.mapSeq fun _ => #[v, v])) (t' := s.toks) (fp := [S]) (fun b o hb e => (s3.2 b (by simpa using hb)).trans e) (fun b hb => by rw [List.mem_singleton.mp hb]; exact fS)
 refine wpAny_pure ⟨plainId_quiet PySem.F.plain_min_loop _, min_loop0 hc hu (ds := d :: ds) (dm := dm) hIS hlI hlS _ 0 H F H F _ x v d c2 _ rfl (by simp) I3 (.refl sf) sq rs (hit1.at fun o e => (s3.2 J hIS).trans e) hc2 fI fS rx px hm fun x v F' H' s' a b c d => ⟨x, H', a, b, q x F' H' c d⟩⟩
@[irreducible] def mminP (m : ML) : ME := fun ρ => match m ρ with | some (d :: ds) => minP ds d | _ => none
theorem mminP_ev {m : ML} {ρ : Ro} {d : D} {ds : List D} (h : m ρ = some (d :: ds)) : mminP m ρ = minP ds d := by
 unfold mminP; rw [h]
theorem pd_minP {p pos : Pos} {e : Expr} {m : ML} (hc : X.calm = true) (hu : X.A.units + 64 < cLine) (hg : Gl X "min") (hm : X.mg "min" = none) (ha : PB X e m) (hs : starEach (e :: []) X.env = (false, eval e X.env) :: starEach [] X.env := by rfl) (he : starEach [e] X.env = (false, eval e X.env) :: starEach [] X.env := by rfl) (hpl : (backTo pos (starEach [] X.env)).any (·.1) = false := by rfl) : PD X (.Call (.Name "min" p) [e] [] pos) (mminP m) :=
 (l7 (call_minP hc hu) hg hm PyProof.Rows.boot_min (u8 ha pa_nil hs) (by decide) (by decide) he hpl).imp fun σ H Q hpat => by
  obtain ⟨F0, H0, F, ρ, g, rl, e, q⟩ := hpat
  unfold mminP at e
  split at e
  ·rename_i d ds h1
   exact ⟨F0, H0, F, ρ, d :: ds, rl, h1, fun p xs F1 H1 x1 s1 r1 => ⟨p, xs, d, ds, g, F1, rfl, s1, x1.fh, r1, e, fun x F' H' x2 rx => q x F' H' (x1.trans x2) rx⟩⟩
  ·cases e
end
end
section
section
variable {X : Cx} {pins : List (Addr × Obj)} {σ : St}
end
end
end L2
namespace L2
open List
open PySem PySem.Spec PyProof.Rows PySem.Builtin PySem.Builtin.Str
section
section
variable {X : Cx} {a b c e o : Expr} {ma mb mo : ME} {pos : Pos}
end
end
section
section
variable {X : Cx} {a b c e o : Expr} {ma mb mo : ME} {pos : Pos}
end
end
end L2
namespace L2
open List
open PySem PySem.Spec PyProof.Rows
section
def srcOk (src : List (Option Nat)) : Prop := ∀ i j k : Nat, src[i]? = some (some k) -> src[j]? = some (some k) -> i = j
theorem T9 {src : List (Option Nat)} (h : ∀ i, i < src.length -> ∀ j, j < src.length -> src[i]? = src[j]? -> src[i]? = some none \/ i = j) : srcOk src := fun i j k hi hj => by
 have li := (List.getElem?_eq_some_iff.mp hi).1
 have lj := (List.getElem?_eq_some_iff.mp hj).1
 rcases h i li j lj (by rw [hi, hj]) with e | e
 ·rw [hi] at e; cases e
 ·exact e
theorem blk0_at {src : List (Option Nat)} {σ : St} {i k : Nat} {v : V} (h : src[i]? = some (some k)) (hv : σ[k]? = some (some v)) : (blk0 src σ)[i]? = some (some v) := by
 unfold blk0
 rw [getElem?_map, h]
 simp only [Option.map_some, Option.bind_some, hv]; rfl
theorem zu3 {src : List (Option Nat)} {σ : St} {i k : Nat} {v : V} (h : src[i]? = some (some k)) (hv : (blk0 src σ)[i]? = some (some v)) : σ[k]? = some (some v) := by
 unfold blk0 at hv
 rw [getElem?_map, h] at hv
 simp only [Option.map_some, Option.bind_some] at hv
 cases hk : σ[k]? with
 | none => rw [hk] at hv; cases hv
 | some o => rw [hk] at hv; simpa using hv
section
variable {X : Cx} {a b c e o : Expr} {ma mb mo : ME} {pos : Pos} {st : Stmt}
def rSum (K : W.Frag) : List V -> Hp -> VK -> Prop := fun vs H Q => ∃ (p : Addr) (ns : List Int), vs = [.ref p] /\ SqL K H p (ns.map V.int) /\ Q (.int ns.sum) H
theorem call_sum (hc : X.calm = true) : CallR X (.builtin "sum") (rSum X.K) := by
 intro pins s σ H xs us Q I r h
 obtain ⟨p, ns, rfl, sq, q⟩ := h
 obtain ⟨u, rfl, rx⟩ := V7 r
 cases rx
 obtain ⟨its, vr, pl, hz⟩ := I.list sq
 obtain ⟨ts, h1, h2⟩ := h9 vr
 have hp := pl.isList
 rw [h1] at hp
 refine sum_intListG (I.ok.hd hc) hp fun h' tk t' k => ?_
 refine ⟨.int ns.sum, H, I.kept k, ⟨t', ?_⟩, q⟩
 rw [preSum_eq, take_of_length_le (by simp), <- h2]
@[irreducible] def msum (m : ML) : ME := fun ρ => match m ρ with | some ds => (match S7 ds with | some ns => some (.int ns.sum) | none => none) | none => none
theorem pd_sum {p : Pos} {m : ML} (hc : X.calm = true) (hg : Gl X "sum") (hm : X.mg "sum" = none) (ha : PB X e m) (hv : bootBuiltins "sum" = some (.builtin "sum")) (hs : starEach (e :: []) X.env = (false, eval e X.env) :: starEach [] X.env := by rfl) (he : starEach [e] X.env = (false, eval e X.env) :: starEach [] X.env := by rfl) (hpl : (backTo pos (starEach [] X.env)).any (·.1) = false := by rfl) : PD X (.Call (.Name "sum" p) [e] [] pos) (msum m) :=
 (l7 (call_sum hc) hg hm hv (u8 ha pa_nil hs) (by decide) (by decide) he hpl).imp fun σ H Q hpat => by
  obtain ⟨F0, H0, F, ρ, g, rl, e, q⟩ := hpat
  unfold msum at e
  cases h1 : m ρ with
  | none => rw [h1] at e; cases e
  | some ds =>
   rw [h1] at e
   cases h2 : S7 ds with
   | none => simp only [h2] at e; cases e
   | some ns =>
    simp only [h2] at e; cases e
    refine ⟨F0, H0, F, ρ, ds, rl, h1, fun p xs F1 H1 x1 s1 r1 => ⟨p, ns, rfl, ?_, q _ F1 H1 x1 (.int _)⟩⟩
    rw [<- Z7 r1 h2]; exact s1
end
end
section
section
variable {prog : Program} {w : World} {A : Around} {E : Value -> Shared -> Prop} {s : Shared} {l : Addr} {xs : Array (Int × Tok)}
end
section
variable {X : Cx} {a b c e o : Expr} {ma mb mo : ME} {pos : Pos} {st : Stmt}
end
section
variable {X : Cx} {a b c e : Expr} {na nb : MEm} {pos : Pos} {st : Stmt} {es : List Expr} {E : XK} {mf : MF} {m : MLm}
abbrev MBm := Ro -> Option (Bool × Ro)
end
end
section
section
variable {X : Cx} {a b c e : Expr} {na nb : MEm} {pos : Pos} {st : Stmt} {es : List Expr} {m : MLm}
end
end
section
section
variable {X : Cx} {e : Expr} {na : MEm} {pos : Pos} {st : Stmt} {es : List Expr} {m : ML} {mf : MG} {E : XK}
def zx8 : List D -> Bool
 | [] => true
 | .int _ :: r => zx8 r
 | _ => false
theorem zy4 {K : W.Frag} {F F' : Hp} : ∀ {vs : List V} {ds : List D}, zx8 ds = true -> Reps K F vs ds -> Reps K F' vs ds
 | _, [], _, .nil => .nil
 | _, d :: ds, h, .cons r rr => by
  cases r with
  | int k => exact .cons (.int k) (zy4 h rr)
  | _ => cases h
def NoL (K : W.Frag) : Prop := ∀ p o, List.lookup p K = some o -> o.cls ≠ .type "list"
def noLb : W.Frag -> Bool
 | [] => true
 | (_, o) :: r => (match o.cls with | .type c => c != "list" | _ => true) && noLb r
theorem NoL.of : ∀ {K : W.Frag}, noLb K = true -> NoL K
 | [], _ => fun p o e => by cases e
 | (a, o') :: r, h => fun p o e z => by
  have h : ((match o'.cls with | .type c => c != "list" | _ => true) && noLb r) = true := h
  rw [Bool.and_eq_true] at h
  rw [lookup_cons] at e
  split at e
  ·cases e
   rw [z] at h
   exact absurd h.1 (by decide)
  ·exact NoL.of h.2 p o e z
open Classical in
end
end
section
section
variable {X : Cx}
end
end
section
section
variable {X : Cx} {e : Expr} {pos : Pos}
def rAny (K : W.Frag) : List V -> Hp -> VK -> Prop := fun vs H Q => ∃ (p : Addr) (ns : List Int), vs = [.ref p] /\ SqL K H p (ns.map V.int) /\ Q (.bl (ns.any fun i => i != 0)) H
theorem any_at (xs : Array (Int × Tok)) : (List.range (intItems xs).size).any (fun i => numAt xs i != 0) = (xs.toList.map (·.1)).any fun i => i != 0 := by
 rw [Bool.eq_iff_iff, any_eq_true, any_eq_true]
 constructor
 ·rintro ⟨i, hi, h⟩
  have hi : i < xs.size := by simpa [intItems] using hi
  refine ⟨numAt xs i, ?_, h⟩
  refine List.mem_map.mpr ⟨xs[i], by simp, ?_⟩
  simp [numAt, hi]
 ·rintro ⟨v, hv, h⟩
  obtain ⟨p, hp, rfl⟩ := List.mem_map.mp hv
  obtain ⟨i, hi, rfl⟩ := getElem_of_mem hp
  have hi' : i < xs.size := by simpa using hi
  refine ⟨i, by simpa [intItems] using hi', ?_⟩
  simpa [numAt, hi'] using h
theorem call_any (hc : X.calm = true) : CallR X (.builtin "any") (rAny X.K) := by
 intro pins s σ H xs us Q I r h
 obtain ⟨p, ns, rfl, sq, q⟩ := h
 obtain ⟨u, rfl, rx⟩ := V7 r
 cases rx
 obtain ⟨its, vr, pl, hz⟩ := I.list sq
 obtain ⟨ts, h1, h2⟩ := h9 vr
 have hp := pl.isList
 rw [h1] at hp
 refine call_any_walk (iter_intList hp fun s₂ e st hfp hlI => ?_)
 subst e
 refine ⟨_, _, _, _, _, _, fun i => numAt ts.toArray i != 0, rfl, Walks.list (A := X.A.in1) (I.ok.hd hc) _ p hlI (intItems ts.toArray), st, fun i v s' Q' E' hP hQ => ?_, fun h' tk hk => ?_⟩
 ·obtain ⟨t, rfl⟩ := intItems_at hP
  exact truthy_int hQ
 ·refine ⟨.bl (ns.any fun i => i != 0), H, I.kept (old_kept hk), ?_, q⟩
  rw [any_at]
  show Value.bool _ = Value.bool _
  rw [<- h2]
@[irreducible] def many (m : ML) : ME := fun ρ => match m ρ with | some ds => (match S7 ds with | some ns => some (.bl (ns.any fun i => i != 0)) | none => none) | none => none
theorem pd_any {p : Pos} {m : ML} (hc : X.calm = true) (hg : Gl X "any") (hm : X.mg "any" = none) (ha : PB X e m) (hv : bootBuiltins "any" = some (.builtin "any")) (hs : starEach (e :: []) X.env = (false, eval e X.env) :: starEach [] X.env := by rfl) (he : starEach [e] X.env = (false, eval e X.env) :: starEach [] X.env := by rfl) (hpl : (backTo pos (starEach [] X.env)).any (·.1) = false := by rfl) : PD X (.Call (.Name "any" p) [e] [] pos) (many m) :=
 (l7 (call_any hc) hg hm hv (u8 ha pa_nil hs) (by decide) (by decide) he hpl).imp fun σ H Q h0 => by
  obtain ⟨F0, H0, F, ρ, g, rl, e, q⟩ := h0
  unfold many at e
  cases h1 : m ρ with
  | none => rw [h1] at e; cases e
  | some ds =>
   rw [h1] at e
   cases h2 : S7 ds with
   | none => simp only [h2] at e; cases e
   | some ns =>
    simp only [h2] at e; cases e
    refine ⟨F0, H0, F, ρ, ds, rl, h1, fun p xs F1 H1 x1 s1 r1 => ⟨p, ns, rfl, ?_, q _ F1 H1 x1 (.bl _)⟩⟩
    rw [<- Z7 r1 h2]; exact s1
end
end
section
def relab (sc fsc : Scope) : Scope := { sc with names := sc.names.map fun (n, k) => if (k == .free && fsc.kind == .function && fsc.names.lookup n == some .cell) then (n, .cell) else (n, k) }
theorem blk_of2 {X : Cx} {sc0 sc : Scope} {N0 N : List Str} {src : List (Option Nat)} {C : Addr} {fp : List Addr} {s : Shared} {H : Hp} (fsc : Scope) (h1 : X.env.scope = fsc) (h : blkOk (relab sc0 fsc) N0 sc N src = true) : Blk (t9 X sc0 C N0 fp s H) sc N src :=
 k5 (relab sc0 fsc) N0 (by rw [<- h1]; rfl) rfl h
section
variable {X : Cx} {e : Expr} {ma : ME} {pos : Pos}
end
end
section
section
variable {X : Cx} {e : Expr} {ma : ME} {pos : Pos}
end
end
section
section
variable {prog : Program} {w : World} {A : Around} {E : Value -> Shared -> Prop} {s : Shared}
end
section
variable {X : Cx}
end
end
section
section
variable {X : Cx} {a : Expr} {na : MEm} {pos : Pos} {ca : MBm}
end
end
section
section
variable {X : Cx} {a b : Expr} {m : ML} {pos : Pos}
end
end
end L2
namespace L2
open List
open PySem PySem.Spec PyProof.Rows PySem.W PySem.Builtin PySem.Builtin.ObjectAttr PySem.Builtin.Getset_descriptor
section
structure XCls (K : W.Frag) (C : Addr) : Prop where
 ga : findIn K (.ref C) "__getattribute__" = some (some (.builtin "BaseException.__getattribute__"))
 nog : findIn K (.ref C) "__getattr__" = some none
 cl : findIn K (.ref C) "__class__" = some (some (.builtin "object.__class__"))
 ob : mroIn K C (.type "object") = some true
 be : mroIn K C (.type "BaseException") = some true
section
variable {prog : Program} {w : World} {A : Around} {E : Value -> Shared -> Prop} {K : W.Frag} {x C : Addr} {ox : Obj} {h : Heap} {g : Array GenState} {d : Drawn} {t : Nat} {os : OsState}
end
end
end L2
namespace L2
open List
open PySem PySem.Spec PyProof.Rows
section
structure Flown (P : Program) (w : World) (outer : List Env) (H : Hp) (s : Shared) (H' : Hp) (B h' : Heap) : Prop where
 un : Un (frs outer) [] H H' s.heap h'
 ok : HOk P w H' h'
 st : B.StaysIn h'
 trk : ∀ b o, H' b = some o -> ∃ ob, B.get? b = some ob
 old : ∀ b o, s.heap.get? b = some o -> b ∉ frs outer -> ∃ ob, B.get? b = some ob
section
variable {P : Program} {w : World} {outer : List Env} {H H' : Hp} {s : Shared} {B h1 h2 base : Heap}
end
structure Top (X : Cx) : Prop where
 stk : X.stack = X.env :: X.outer
 frm : X.env.frame = some X.env.locals
 ex : X.ex = []
section
variable {X : Cx} {pins : List (Addr × Obj)} {σ : St} {H H' : Hp} {s : Shared} {B h1 : Heap}
end
section
variable {X : Cx} {pins : List (Addr × Obj)} {σ : St} {H : Hp} {s : Shared} {W : Str -> St -> Hp -> Prop}
end
section
variable {X : Cx} {pins pins' : List (Addr × Obj)} {σ : St} {H : Hp} {s : Shared} {E : Value -> Shared -> Prop}
variable (nx : X.xe = noE)
include nx
end
end
section
section
variable {X : Cx} {st : Stmt} {rest : List Stmt} {e c : Expr} {pos : Pos}
end
end
section
section
variable {X : Cx} {pins : List (Addr × Obj)} {E : Value -> Shared -> Prop} (nx : X.xe = noE)
include nx
end
section
variable {X : Cx} {e c : Expr} {pos : Pos} {st : Stmt} {rest : List Stmt}
end
end
section
section
variable {X : Cx} {pins : List (Addr × Obj)} {σ : St} {H : Hp} {s : Shared} {a C : Addr}
end
section
variable {X : Cx} {pos np hpos : Pos}
end
end
section
structure RoomN (k : Nat) (A : Around) : Prop where
 dp : A.depth + 3 * k + 5 < recursionLimit
 un : A.units + 16 * k + 200 < cLine
structure FnOkN (P : Program) (w : World) (K : W.Frag) (mg : Str -> Option Value) (base : Heap) (CX : CXT) (k : Nat) (f : Addr) (fd : FuncData) (ps : List Str) (sp : Sp) : Prop where
 len : ∀ vs H Q E, sp vs H Q E -> vs.length = ps.length
 run : ∀ (A : Around) (outer : List Env) (s : Shared) (H : Hp) (args : Args) (us : List Value) (vs : List V) (Q : VK) (E : XK), RoomN k A -> Env0 P w K mg base A outer s H -> BindsTo s fd args (ps.zip us) -> Vals vs us -> sp vs H Q E ->
  codeAny (model P w) A (.call (.ref f) args) (CR CX outer P w H s Q E) s
section
variable {X : Cx} {CX : CXT} {k : Nat} {f : Addr} {fd : FuncData} {ps : List Str} {sp : Sp} {dvs : List V} {ds : List Value} {E : XK} {x : Str} {p pos : Pos} {e : Expr} {es : List Expr} {t : TA}
end
section
variable {X : Cx} {a : Expr} {ma : ME} {pos : Pos}
end
end
section
section
variable {X : Cx} {a : Expr} {ma : ME} {pos : Pos}
open PySem.SeqAt in
end
end
section
end
section
section
variable {X : Cx} {v : Expr} {mv : ME} {pos : Pos}
end
end
section
def insI (a : Int) : List Int -> List Int
 | [] => [a]
 | b :: r => if a <= b then a :: b :: r else b :: insI a r
def N4 : List Int -> List Int
 | [] => []
 | a :: r => insI a (N4 r)
theorem K7 (a : Int) : ∀ r, (insI a r).Perm (a :: r)
 | [] => .refl _
 | b :: r => by
  unfold insI
  split
  ·exact .refl _
  ·exact ((K7 a r).cons b).trans (.swap a b r)
theorem V6 : ∀ ns, (N4 ns).Perm ns
 | [] => .refl _
 | a :: r => (K7 a _).trans ((V6 r).cons a)
theorem K6 (a : Int) : ∀ r, r.Pairwise (· <= ·) -> (insI a r).Pairwise (· <= ·)
 | [], _ => pairwise_singleton ..
 | b :: r, h => by
  have h' := List.pairwise_cons.mp h
  unfold insI
  split
  ·rename_i hab
   refine List.pairwise_cons.mpr ⟨fun x hx => ?_, h⟩
   rcases List.mem_cons.mp hx with e | hx
   ·rw [e]; exact hab
   ·exact Int.le_trans hab (h'.1 x hx)
  ·rename_i hab
   refine List.pairwise_cons.mpr ⟨fun x hx => ?_, K6 a r h'.2⟩
   rcases List.mem_cons.mp ((K7 a r).mem_iff.mp hx) with e | hx
   ·rw [e]; omega
   ·exact h'.1 x hx
theorem O0 : ∀ ns, (N4 ns).Pairwise (· <= ·)
 | [] => .nil
 | a :: r => K6 a _ (O0 r)
theorem M7 : ∀ {a b : List Int}, a.Perm b -> a.Pairwise (· <= ·) -> b.Pairwise (· <= ·) -> a = b
 | [], b, p, _, _ => (List.Perm.nil_eq p)
 | x :: a, [], p, _, _ => absurd p.length_eq (by simp)
 | x :: a, y :: b, p, ha, hb => by
  have h1 := List.pairwise_cons.mp ha
  have h2 := List.pairwise_cons.mp hb
  have e : x = y := by
   have m1 : x ∈ y :: b := p.mem_iff.mp mem_cons_self
   have m2 : y ∈ x :: a := p.mem_iff.mpr mem_cons_self
   rcases List.mem_cons.mp m1 with e | m1
   ·exact e
   ·rcases List.mem_cons.mp m2 with e | m2
    ·exact e.symm
    ·have := h2.1 x m1
     have := h1.1 y m2
     omega
  subst e
  rw [M7 ((perm_cons x).mp p) h1.2 h2.2]
theorem zw9 (ns : List Int) : (N4 ns).length = ns.length := (V6 ns).length_eq
theorem zv0 : ∀ {ns : List Int} {its : List Value}, Vals (ns.map V.int) its -> IntsAre its ns
 | [], _, .nil => .nil
 | n :: ns, _, .cons r t => by
  obtain ⟨k, rfl⟩ := r
  exact .cons n k (zv0 t)
theorem G7 : ∀ {ns : List Int} {its : List Value}, IntsAre its ns -> Vals (ns.map V.int) its
 | [], _, .nil => .nil
 | n :: ns, _, .cons _ k t => .cons ⟨k, rfl⟩ (G7 t)
section
variable {X : Cx} {e : Expr} {pos : Pos}
end
end
section
section
variable {X : Cx} {pins : List (Addr × Obj)} {σ : St}
end
end
section
section
variable {K : W.Frag} {F0 H0 F H : Hp} {σ : St} {ρ : Ro}
theorem Rl.freezeQ (r : Rl K F0 H0 F H σ ρ) {i : Nat} {ds : List D} (h : ρ[i]? = some (some (.own ds))) : ∃ p xs, F p = none /\ Reps K F xs ds /\ Rl K F0 H0 (upd F p (.lst xs)) H σ (ρ.set i (some (.sh (.lst ds)))) := by
 obtain ⟨p, xs, a, b, c, d, z⟩ := r.own i ds h
 have hl : i < ρ.length := (List.getElem?_eq_some_iff.mp h).1
 have e : Ext F0 H0 (upd F p (.lst xs)) H := r.ext.freeze b z c
 have ff : Same F (upd F p (.lst xs)) := (Same.refl F).put b
 refine ⟨p, xs, b, d, ⟨e, by simp [r.len], fun j d' q => ?_, fun j es q => ?_, fun j k q es es' hjk e1 e2 e3 e4 => ?_, fun j q es e1 => ?_, fun j k q es es' e1 e2 e3 => ?_, fun j k q q' es es' e1 e2 => r.ob1 j k q q' es es' (m7 e1).2 (m7 e2).2, fun j q es e1 => r.rd j q es (S0 e1).2⟩⟩
 ·by_cases hj : i = j
  ·subst hj
   rw [getElem?_set_self hl] at q
   cases q
   exact ⟨_, a, .lst (SqL.of y3) (d.mono ff)⟩
  ·rw [getElem?_set_ne hj] at q
   obtain ⟨v, v1, v2⟩ := r.sh j d' q
   exact ⟨v, v1, v2.mono ff⟩
 ·by_cases hj : i = j
  ·subst hj
   rw [getElem?_set_self hl] at q
   cases q
  ·rw [getElem?_set_ne hj] at q
   obtain ⟨p', xs', a', b', c', d', z'⟩ := r.own j es q
   have hp : p' ≠ p := fun w => r.inj i j p ds es hj h q a (by rw [<- w]; exact a')
   exact ⟨p', xs', a', by rw [y0 hp]; exact b', c', d'.mono ff, z'⟩
 ·have n1 : i ≠ j := fun w => by subst w; rw [getElem?_set_self hl] at e1; cases e1
  have n2 : i ≠ k := fun w => by subst w; rw [getElem?_set_self hl] at e2; cases e2
  rw [getElem?_set_ne n1] at e1
  rw [getElem?_set_ne n2] at e2
  exact r.inj j k q es es' hjk e1 e2 e3 e4
 ·obtain ⟨n, e1⟩ := m7 e1
  obtain ⟨o1, o2, o3, zs, o4, o5⟩ := r.ob j q es e1
  have hp : q ≠ p := fun w => r.obn j i q es ds e1 h (by rw [w]; exact a)
  exact ⟨o1, by rw [y0 hp]; exact o2, o3, zs, o4, o5.mono ff⟩
 ·obtain ⟨n, e1⟩ := m7 e1
  have n2 : i ≠ k := fun w => by subst w; rw [getElem?_set_self hl] at e2; cases e2
  rw [getElem?_set_ne n2] at e2
  exact r.obn j k q es es' e1 e2 e3
end
def hasL : List D -> Bool
 | [] => false
 | .lst _ :: _ => true
 | _ :: r => hasL r
theorem hasL_no {K : W.Frag} {F : Hp} : ∀ {xs : List V} {ds es : List D}, hasL ds = true -> zx8 es = true -> Reps K F xs ds -> Reps K F xs es -> False
 | _, [], _, h, _, _, _ => by cases h
 | _, d :: ds, [], h, _, .cons _ _, r => by cases r
 | _, d :: ds, e :: es, h, h2, .cons a r, .cons b r2 => by
  cases e with
  | int k =>
   cases b
   cases a
   exact hasL_no (show hasL ds = true from h) (show zx8 es = true from h2) r r2
  | _ => cases h2
def tellL (ds : List D) : D -> Bool
 | .lst es => zx8 es && hasL ds
 | _ => false
@[irreducible] def mborL (i : Nat) (m : ME) : ME := fun ρ => match ρ[i]? with
 | some (some (.own ds)) => (match m (ρ.set i (some (.sh (.lst ds)))) with | some d => if tellL ds d = true then some d else none | none => none)
 | _ => m ρ
theorem tellL_rep {K : W.Frag} {F : Hp} {p : Addr} {xs : List V} {ds : List D} {v : V} {d : D} (hp : F p = some (.lst xs)) (hx : Reps K F xs ds) (h : tellL ds d = true) (r : Rep K F v d) : Rep K (fun b => if b = p then none else F b) v d := by
 cases r with
 | lst sq rs =>
  rename_i a ys es
  have h : (zx8 es && hasL ds) = true := h
  rw [Bool.and_eq_true] at h
  refine .lst ?_ (zy4 h.1 rs)
  rcases sq with (sq | ⟨o, sq⟩) | sq
  ·have hne : a ≠ p := fun z => by
    rw [z, hp] at sq; cases sq
    exact hasL_no h.2 h.1 hx rs
   exact .inl (.inl (by show (if a = p then none else F a) = _; rw [if_neg hne]; exact sq))
  ·have hne : a ≠ p := fun z => by rw [z, hp] at sq; cases sq
   exact .inl (.inr ⟨o, by show (if a = p then none else F a) = _; rw [if_neg hne]; exact sq⟩)
  ·exact .inr sq
 | _ => cases h
theorem pd_borL {X : Cx} {e : Expr} {m : ME} (i : Nat) (h : PD X e m) : PD X e (mborL i m) := h.imp fun σ H Q hpat => by
 obtain ⟨F0, H0, F, ρ, d, rl, e, q⟩ := hpat
 unfold mborL at e
 split at e
 ·rename_i ds h1
  obtain ⟨p, xs, hp, hx, rl'⟩ := rl.freezeQ h1
  split at e
  ·rename_i d' h2
   split at e
   ·rename_i hs
    cases e
    refine ⟨F0, H0, _, _, d, rl', h2, fun v F2 H2 x2 r2 => ?_⟩
    have hp2 : F2 p = some (.lst xs) := x2.ff _ _ y3
    refine q v (fun b => if b = p then none else F2 b) H2 ⟨fun b o hb => ?_, x2.hh, fun b o hb => ?_, fun b hb hn => ?_, fun b o u z => by
     have z : (if b = p then none else F2 b) = some (.frz o u) := z
     split at z
     ·cases z
     ·rename_i hne
      have := x2.nf b o u z
      rwa [y0 hne] at this⟩ (tellL_rep hp2 (hx.mono (((Same.refl F).put hp).trans x2.ff)) hs r2)
    ·have hne : b ≠ p := fun w => by rw [w, hp] at hb; cases hb
     show (if b = p then none else F2 b) = some o
     rw [if_neg hne]
     exact x2.ff b o (by rw [y0 hne]; exact hb)
    ·have hb : (if b = p then none else F2 b) = some o := hb
     split at hb
     ·cases hb
     ·exact x2.fh b o hb
    ·have hn : (if b = p then none else F2 b) ≠ none := hn
     split at hn
     ·exact absurd rfl hn
     ·rename_i hne
      exact x2.new b (by rw [y0 hne]; exact hb) hn
   ·cases e
  ·cases e
 ·exact ⟨F0, H0, F, ρ, d, rl, e, q⟩
end
section
section
variable {X : Cx} {a b : Expr} {ma mb : ME} {pos : Pos}
end
section
variable {X : Cx} {a b : Expr}
open PySem.SeqAt in
end
end
section
open Classical in
section
variable {X : Cx} {pos : Pos}
end
end
section
section
variable {X : Cx} {st : Stmt}
end
end
section
def qfnD (K : W.Frag) (nm ql : Str) (st : Stmt) (x : Addr) : Prop := ∃ (oc : Value) (o1 : Option Addr) (kV dc pm : Value) (o2 : Option Addr) (cd ct : Value) (sl : Array (Option Value)), K.lookup x = some ⟨oc, o1, .func (W.fnOf nm ql (Y1 st) (i9 st) (z9 st) .none kV dc pm o2 cd ct), sl⟩ /\ W.codeIn K cd ql = true /\ W.keepIn K (.ref x) = true
def QDn (K : W.Frag) (nm : Str) (st : Stmt) : Prop := ∃ x : Addr, W.nsIn K mainGlobals nm = some (some (.ref x)) /\ qfnD K nm nm st x
def QMn (K : W.Frag) (C : Addr) (nm ql : Str) (st : Stmt) : Prop := ∃ x : Addr, W.findIn K (.ref C) nm = some (some (.ref x)) /\ W.isFn K (.ref x) = true /\ qfnD K nm ql st x
theorem QDn.of {K : W.Frag} {nm : Str} {st : Stmt} {x : Addr} {oc : Value} {o1 : Option Addr} {kV dc pm : Value} {o2 : Option Addr} {cd ct : Value} {sl : Array (Option Value)} (e : W.nsIn K mainGlobals nm = some (some (.ref x))) (l : K.lookup x = some ⟨oc, o1, .func (W.fnOf nm nm (Y1 st) (i9 st) (z9 st) .none kV dc pm o2 cd ct), sl⟩) (c : W.codeIn K cd nm = true) (k : W.keepIn K (.ref x) = true) : QDn K nm st := ⟨x, e, oc, o1, kV, dc, pm, o2, cd, ct, sl, l, c, k⟩
theorem QMn.of {K : W.Frag} {C : Addr} {nm ql : Str} {st : Stmt} {x : Addr} {oc : Value} {o1 : Option Addr} {kV dc pm : Value} {o2 : Option Addr} {cd ct : Value} {sl : Array (Option Value)} (e : W.findIn K (.ref C) nm = some (some (.ref x))) (i : W.isFn K (.ref x) = true) (l : K.lookup x = some ⟨oc, o1, .func (W.fnOf nm ql (Y1 st) (i9 st) (z9 st) .none kV dc pm o2 cd ct), sl⟩) (c : W.codeIn K cd ql = true) (k : W.keepIn K (.ref x) = true) : QMn K C nm ql st := ⟨x, e, i, oc, o1, kV, dc, pm, o2, cd, ct, sl, l, c, k⟩
abbrev QBdD (nm ql : Str) (st : Stmt) (ps : List Str) (us : List Value) : Prop := ∀ (kV doc pm : Value) (an : Option Addr) (cdv ct : Value), bindArgs (W.fnOf nm ql (Y1 st) (i9 st) (z9 st) .none kV doc pm an cdv ct) ⟨us, []⟩ = pure (ps.zip us)
section
variable {P : Program} {w : World} {K : W.Frag} {mg : Str -> Option Value} {base h : Heap} {nm ql cn : Str} {st : Stmt} {ps : List Str} {sp : Sp} {n : Nat} {C : Addr}
def QDf (K : W.Frag) (mg : Str -> Option Value) (nm : Str) (st : Stmt) (ps : List Str) : Prop := ∃ f fd, Fun K nm nm st f fd /\ Binds K fd ps [] /\ mg nm = some (.ref f)
def QHd (P : Program) (w : World) (K : W.Frag) (mg : Str -> Option Value) (base : Heap) (n : Nat) (nm : Str) (ps : List Str) (sp : Sp) : Prop := ∃ f fd, FnOk P w K mg base CX0 n f fd ps sp /\ Binds K fd ps [] /\ W.keepIn K (.ref f) = true /\ mg nm = some (.ref f)
theorem qfnD.mk {x : Addr} (D : qfnD K nm ql st x) (hb : ∀ us : List Value, us.length = ps.length -> QBdD nm ql st ps us) : ∃ fd, Fun K nm ql st x fd /\ Binds K fd ps [] := by
 obtain ⟨oc, o1, kV, dc, pm, o2, cd, ct, sl, l, c, k⟩ := D
 exact ⟨_, fun_mk l c k, (fun_mk l c k).binds fun _ _ _ _ _ _ us hl => hb us hl _ _ _ _ _ _⟩
theorem QDn.df (D : QDn K nm st) (X : K.In h) (G : h.Ns mainGlobals mg) (hb : ∀ us : List Value, us.length = ps.length -> QBdD nm nm st ps us) : QDf K mg nm st ps := by
 obtain ⟨x, e, D⟩ := D
 obtain ⟨fd, F, b⟩ := D.mk hb
 exact ⟨x, fd, F, b, W.mg_of X G e⟩
theorem QDf.mk (D : QDf K mg nm st ps) (h : ∀ f fd, Fun K nm nm st f fd -> FnOk P w K mg base CX0 n f fd ps sp) : QHd P w K mg base n nm ps sp := by
 obtain ⟨f, fd, F, b, a⟩ := D
 exact ⟨f, fd, h f fd F, b, F.kp, a⟩
theorem qbd1 {P : List Value -> Prop} (h : ∀ a, P [a]) : ∀ us : List Value, us.length = 1 -> P us
 | [a], _ => h a
theorem qbd2 {P : List Value -> Prop} (h : ∀ a b, P [a, b]) : ∀ us : List Value, us.length = 2 -> P us
 | [a, b], _ => h a b
theorem qbd3 {P : List Value -> Prop} (h : ∀ a b c, P [a, b, c]) : ∀ us : List Value, us.length = 3 -> P us
 | [a, b, c], _ => h a b c
end
section
variable {X : Cx} {n k : Nat} {nm cn : Str} {ps : List Str} {sp : Sp} {e o : Expr} {es : List Expr} {ta : TE} {t : TA} {p pos apos : Pos} {C : Addr} {pl : Sem Bool}
theorem qcl (H : QHd X.prog X.w X.K X.mg X.base n nm ps sp) (hr : Room k X.A) (ha : PA X (e :: es) t) (hn : n <= k := by decide) (hg : Gl X nm := by rfl) (hdb : (nm == ("__debug__" : Str)) = false := by decide) (he : starEach (e :: es) X.env = (false, eval e X.env) :: starEach es X.env := by rfl) (hpl : (backTo pos (starEach es X.env)).any (·.1) = false := by rfl) :
  PE X (.Call (.Name nm p) (e :: es) [] pos) (tCall sp [] E0 t) := by
 obtain ⟨f, fd, F, b, kk, a⟩ := H
 exact pe_call (F.mono hn) hr hg a kk b .nil pass0 ha hdb he hpl
end
theorem qap {X : Cx} {o e : Expr} {es : List Expr} {to : TE} {t : TA} {apos cpos : Pos} (ho : PE X o to) (ha : PA X (e :: es) t)
  (hbase : attributeBase o "append" X.env (eval o X.env) = eval o X.env := by rfl)
  (hfew : ((backTo cpos (starEach (e :: es) X.env)).all (fun x => !x.1) && (backToKw cpos (keywordEach [] X.env)).all (fun x => x.1.isSome)
   && decide ((e :: es).length + ([] : List Keyword).length + (if ([] : List Keyword).isEmpty then 0 else 1) < 30)) = true := by rfl)
  (hline : (apos.endLine == cpos.line) = true := by rfl) (hs : starEach (e :: es) X.env = (false, eval e X.env) :: starEach es X.env := by rfl) (hplain : (backTo cpos (starEach es X.env)).any (·.1) = false := by rfl) :
  PE X (.Call (.Attribute o "append" apos) (e :: es) [] cpos) (tBM X.K "list" rAppend to t) := pe_bm PySem.F.plainAttrs_list PySem.F.slot_list_append PySem.F.type_list_append S4 ho ha hbase hfew hline hs hplain
section
variable {a b c d e f : ME} (ρ : Ro) (ds : List D)
theorem qal1 : z5 a anil ρ = some ds -> ds.length = 0 + 1 := J4 anil_len ρ ds
theorem qal2 : z5 a (z5 b anil) ρ = some ds -> ds.length = 0 + 1 + 1 := J4 qal1 ρ ds
theorem qal3 : z5 a (z5 b (z5 c anil)) ρ = some ds -> ds.length = 0 + 1 + 1 + 1 := J4 qal2 ρ ds
end
theorem qsc {N P : List Str} {sc : Scope} (a : sc.kind = .function := by rfl) (b : sc.isCoroutine = false := by rfl) (c : sc.isGenerator = false := by rfl) (d : N.Nodup := by decide +kernel) (e : N.take P.length = P := by rfl) (f : ∀ x ∈ P, sc.names.lookup x = some .local \/ sc.names.lookup x = some .cell := by decide +kernel) (g : ∀ y ∈ sc.names, y.2 ≠ .free := by decide +kernel) : FnScope N P sc := ⟨a, b, c, d, e, f, g⟩
end
section
abbrev Up (xs : Array Nat) : Prop := xs.toList.Pairwise (· < ·)
theorem Up.lt {xs : Array Nat} (h : Up xs) {i j : Nat} (hij : i < j) (hj : j < xs.size) : xs[i]'(by omega) < xs[j] := by
 have := List.pairwise_iff_getElem.mp h i j (by simpa using (by omega : i < xs.size)) (by simpa using hj) hij
 simpa using this
def IsBelow (xs : Array Nat) (j b : Nat) : Prop := b <= xs.size /\ (∀ i (h : i < xs.size), i < b -> xs[i] < j) /\ ∀ i (h : i < xs.size), b <= i -> j <= xs[i]
theorem A7 {xs : Array Nat} (hu : Up xs) (j : Nat) : ∀ (fuel lo hi : Nat), lo <= hi -> hi <= xs.size -> hi - lo <= fuel -> (∀ i (h : i < xs.size), i < lo -> xs[i] < j) -> (∀ i (h : i < xs.size), hi <= i -> j <= xs[i]) -> IsBelow xs j (SetTable.below.go xs j fuel lo hi)
 | 0, lo, hi, h1, h2, h3, ha, hb => by
  have : lo = hi := by omega
  subst this
  exact ⟨h2, ha, hb⟩
 | fuel + 1, lo, hi, h1, h2, h3, ha, hb => by
  unfold SetTable.below.go
  by_cases q : lo < hi
  ·rw [if_pos q]
   dsimp only
   have hm : (lo + hi) / 2 < xs.size := by omega
   have e : xs.getD ((lo + hi) / 2) j = xs[(lo + hi) / 2] := by simp [Array.getD, hm]
   rw [e]
   by_cases z : xs[(lo + hi) / 2] < j
   ·rw [if_pos z]
    refine A7 hu j fuel _ hi (by omega) h2 (by omega) (fun i h hi' => ?_) hb
    rcases Nat.lt_or_ge i ((lo + hi) / 2) with y | y
    ·exact Nat.lt_trans (hu.lt y hm) z
    ·have : i = (lo + hi) / 2 := by omega
     subst this; exact z
   ·rw [if_neg z]
    refine A7 hu j fuel lo _ (by omega) (by omega) (by omega) ha fun i h hi' => ?_
    rcases Nat.lt_or_ge ((lo + hi) / 2) i with y | y
    ·exact Nat.le_trans (by omega) (Nat.le_of_lt (hu.lt y h))
    ·have : i = (lo + hi) / 2 := by omega
     subst this; omega
  ·rw [if_neg q]
   have : lo = hi := by omega
   subst this
   exact ⟨h2, ha, hb⟩
theorem A6 {xs : Array Nat} (hu : Up xs) (j : Nat) : IsBelow xs j (SetTable.below xs j) := A7 hu j xs.size 0 xs.size (Nat.zero_le _) (Nat.le_refl _) (by omega) (fun i h z => by omega) fun i h z => by omega
theorem IsBelow.uniq {xs : Array Nat} {j b c : Nat} (h : IsBelow xs j b) (k : IsBelow xs j c) : b = c := by
 rcases Nat.lt_trichotomy b c with z | z | z
 ·have h1 := h.2.2 b (by have := k.1; omega) (Nat.le_refl _)
  have h2 := k.2.1 b (by have := k.1; omega) z
  omega
 ·exact z
 ·have h1 := k.2.2 c (by have := h.1; omega) (Nat.le_refl _)
  have h2 := h.2.1 c (by have := h.1; omega) z
  omega
theorem below_zero {xs : Array Nat} (hu : Up xs) : SetTable.below xs 0 = 0 := (A6 hu 0).uniq ⟨Nat.zero_le _, fun i h z => by omega, fun i h z => Nat.zero_le _⟩
theorem below_next {xs : Array Nat} (hu : Up xs) {i : Nat} (hi : i < xs.size) : SetTable.below xs (xs[i] + 1) = i + 1 := (A6 hu _).uniq ⟨by omega, fun k h z => by
 rcases Nat.lt_or_ge k i with y | y
 ·have := hu.lt y hi; omega
 ·have : k = i := by omega
  subst this; omega, fun k h z => by
 have := hu.lt (show i < k by omega) h
 omega⟩
theorem insert_up {xs : Array Nat} (hu : Up xs) {j : Nat} (hn : xs[SetTable.below xs j]? ≠ some j) : Up (SetTable.insertAt xs (SetTable.below xs j) j) := by
 have hb := A6 hu j
 generalize SetTable.below xs j = b at *
 unfold Up
 rw [SetTable.toList_insertAt, pairwise_append]
 obtain ⟨h1, h2, h3⟩ := hb
 refine ⟨List.Pairwise.sublist (take_sublist _ _) hu, List.pairwise_cons.mpr ⟨fun x hx => ?_, List.Pairwise.sublist (drop_sublist _ _) hu⟩, fun x hx y hy => ?_⟩
 ·obtain ⟨i, hi, rfl⟩ := getElem_of_mem hx
  rw [length_drop, Array.length_toList] at hi
  rw [getElem_drop, Array.getElem_toList]
  have := h3 (b + i) (by omega) (by omega)
  rcases Nat.lt_or_ge j (xs[b + i]'(by omega)) with z | z
  ·exact z
  ·exfalso
   have e : xs[b + i]'(by omega) = j := by omega
   have hb0 : b < xs.size := by omega
   rcases Nat.eq_zero_or_pos i with rfl | hi0
   ·exact hn (by rw [Array.getElem?_eq_getElem hb0]; exact congrArg some e)
   ·have h4 := h3 b hb0 (Nat.le_refl _)
    have h5 := hu.lt (show b < b + i by omega) (by omega)
    omega
 ·obtain ⟨i, hi, rfl⟩ := getElem_of_mem hx
  rw [length_take, Array.length_toList] at hi
  rw [getElem_take, Array.getElem_toList]
  have hx2 := h2 i (by omega) (by omega)
  rcases List.mem_cons.mp hy with rfl | hy
  ·exact hx2
  ·obtain ⟨k, hk, rfl⟩ := getElem_of_mem hy
   rw [length_drop, Array.length_toList] at hk
   rw [getElem_drop, Array.getElem_toList]
   exact hu.lt (by omega) (by omega)
def GT (led : Bool) (t : SetTable) : Prop := t.led = led /\ (t.plain = true -> Up t.place)
theorem zy0 {t : SetTable} {j : Nat} (h : t.slot j = .empty \/ t.slot j = .dummy) : t.place[SetTable.below t.place j]? ≠ some j := by
 unfold SetTable.slot at h
 dsimp only at h
 intro z
 rw [z] at h
 simp at h
theorem Q1 {t : SetTable} {f : Nat -> Int} {h : Int} : ∀ (fuel : Nat) (p : SetTable.Probe), (∀ d, p.dummy = some d -> t.place[SetTable.below t.place d]? ≠ some d) -> ∀ j d, SetTable.probe.go t f h fuel p = some (.empty j d) -> t.place[SetTable.below t.place (d.getD j)]? ≠ some (d.getD j)
 | 0, p, _, j, d, e => by cases e
 | fuel + 1, p, hd, j, d, e => by
  unfold SetTable.probe.go at e
  have adv : ∀ q : SetTable.Probe, (t.advance q).dummy = q.dummy := fun q => by
   unfold SetTable.advance
   split <;> rfl
  split at e
  ·rename_i hs
   cases e
   cases hq : p.dummy with
   | none => exact zy0 (.inl hs)
   | some d => exact hd d hq
  ·rename_i hs
   refine Q1 fuel _ (fun d' hd' => ?_) j d e
   rw [adv] at hd'
   cases hd'
   exact zy0 (.inr hs)
  ·split at e
   ·cases e
   ·exact Q1 fuel _ (fun d' hd' => hd d' (by rw [adv] at hd'; exact hd')) j d e
theorem layNew_good {led : Bool} {t : SetTable} (g : GT led t) (es : Array (Int × Value)) (h : Int) (x : Value) : GT led (layNew t es h x).2.1 := by
 have st : ∀ (t : SetTable) n, t.led = led -> GT led (t.standIn n) := fun t n hl => ⟨hl, fun z => by cases z⟩
 unfold layNew
 split
 ·rename_i slot wd hf
  dsimp only
  unfold SetTable.orStandIn
  have hl : (t.put slot).1.led = led := g.1
  split
  ·refine ⟨hl, fun hp => ?_⟩
   have hu : Up t.place := g.2 hp
   refine insert_up hu ?_
   unfold SetTable.freeSlot at hf
   split at hf
   ·rename_i j d hpr
    cases hf
    exact Q1 _ _ (fun d' hd' => by unfold SetTable.probeStart at hd'; cases hd') j d hpr
   ·cases hf
  ·exact st _ _ hl
 ·exact st _ _ g.1
theorem D9 {led : Bool} {t : SetTable} (g : GT led t) (es : Array (Int × Value)) (wanted : Nat) : GT led (relayAll t es wanted).2.1 := by
 have st : ∀ n, GT led (t.standIn n) := fun n => ⟨g.1, fun z => by cases z⟩
 unfold relayAll
 split
 ·rename_i t' order hr
  dsimp only
  split
  ·unfold SetTable.relaid SetTable.laid at hr
   cases hc : SetTable.layClean (SetTable.sizeAbove wanted - 1) (es.map (·.1)) with
   | none => rw [hc] at hr; cases hr
   | some owner =>
    rw [hc] at hr
    cases hr
    refine ⟨g.1, fun _ => ?_⟩
    unfold Up
    dsimp only
    have key : ∀ (n : Nat) (f : Nat -> Option Nat), (((List.range n).filterMap fun j => (f j).map (j, ·)).map (·.1)).Pairwise (· < ·) := fun n f => by
     rw [map_filterMap]
     refine List.Pairwise.filterMap (R := (· < ·)) _ (fun a b hab x hx y hy => ?_) pairwise_lt_range
     cases hfa : f a with
     | none => rw [hfa] at hx; cases hx
     | some u =>
      cases hfb : f b with
      | none => rw [hfb] at hy; cases hy
      | some v =>
       rw [hfa] at hx; rw [hfb] at hy
       cases hx; cases hy
       exact hab
    exact key _ _
  ·exact st _
 ·exact st _
theorem E7 {α : Type} (l : List α) (i : Nat) (h : i < l.length) : (l[i] :: l.eraseIdx i).Perm l := by
 rw [eraseIdx_eq_take_drop_succ]
 have e : l = l.take i ++ l[i] :: l.drop (i + 1) := by rw [getElem_cons_drop, take_append_drop]
 exact (List.perm_middle.symm).trans (by rw [<- e])
theorem pick_go {α : Type} (next : Nat -> Nat) : ∀ (fuel k : Nat) (left : List α) (out : Array α), left.length = fuel -> (pickOrder.go next fuel k left out).toList.Perm (out.toList ++ left)
 | 0, k, left, out, h => by
  rw [List.length_eq_zero_iff.mp h, append_nil]; exact .refl _
 | fuel + 1, k, left, out, h => by
  unfold pickOrder.go
  have hl : next k % left.length < left.length := Nat.mod_lt _ (by omega)
  rw [getElem?_eq_getElem hl]
  dsimp only
  refine (pick_go next fuel (k + 1) _ _ (by rw [length_eraseIdx_of_lt hl]; omega)).trans ?_
  rw [Array.toList_push, append_assoc]
  exact List.Perm.append_left _ (E7 left _ hl)
theorem pick_perm {α : Type} (next : Nat -> Nat) (xs : Array α) : (pickOrder next xs).toList.Perm xs.toList := by
 unfold pickOrder
 exact (pick_go next xs.size 0 xs.toList #[] (by simp)).trans (by simp)
end
section
section
variable {prog : Program} {w : World} {A : Around} {E : Value -> Shared -> Prop} {s : Shared}
abbrev KI (prog : Program) (w : World) := intKind prog w
structure SG (prog : Program) (w : World) (h : Heap) (a : Addr) (S : Int -> Bool) (n : Nat) (led : Bool) (o : Obj) (fs : Array (Int × Value)) (ep : Nat) (u : SetTable) : Prop where
 at_ : h.get? a = some o
 ex : o.ExactSet
 dat : o.data = .set fs ep u
 el : ElemsOf (KI prog w) fs.toList
 mem : ∀ k, S k = true ↔ ∃ e ∈ fs.toList, (KI prog w).is k e.2 = true
 small : fs.size < scanBound
 fit : u.fits fs.size = true
 many : fs.size = n
 good : GT led u
def SetG (prog : Program) (w : World) (h : Heap) (a : Addr) (S : Int -> Bool) (n : Nat) (led : Bool) : Prop := ∃ o fs ep u, SG prog w h a S n led o fs ep u
theorem SetG.congr {h : Heap} {a : Addr} {S S' : Int -> Bool} {n n' : Nat} {led : Bool} (g : SetG prog w h a S n led) (e : ∀ k, S k = S' k) (en : n = n') : SetG prog w h a S' n' led := by
 have : S = S' := funext e
 subst this; subst en; exact g
theorem SetG.stay {h h' : Heap} {a : Addr} {S : Int -> Bool} {n : Nat} {led : Bool} (g : SetG prog w h a S n led) (k : ∀ o, h.get? a = some o -> h'.get? a = some o) : SetG prog w h' a S n led := by
 obtain ⟨o, fs, ep, u, g⟩ := g
 exact ⟨o, fs, ep, u, k o g.at_, g.ex, g.dat, g.el, g.mem, g.small, g.fit, g.many, g.good⟩
theorem sg_put {h : Heap} {a : Addr} {o : Obj} {fs gs : Array (Int × Value)} {ep : Nat} {u v : SetTable} {S' : Int -> Bool} {led : Bool} (ho : h.get? a = some o) (hex : o.ExactSet) (hd : o.data = .set fs ep u) (el : ElemsOf (KI prog w) gs.toList) (mem : ∀ k, S' k = true ↔ ∃ e ∈ gs.toList, (KI prog w).is k e.2 = true) (small : gs.size < scanBound) (fit : v.fits gs.size = true) (gt : GT led v) :
  SG prog w (h.update a (Obj.putSet gs v)) a S' gs.size led { o with data := .set gs (ep + 1) v } gs (ep + 1) v :=
 ⟨(SetOf_store (knd := KI prog w) ho hex hd el mem small fit).1, hex, rfl, el, mem, small, fit, rfl, gt⟩
theorem tailG {g : Bool -> Sem Unit} (pass : ∀ (b : Bool) (s1 : Shared) (R : Unit -> Shared -> Prop), R () s1 -> wpAny (model prog w) A (g b) R E s1)
  {a : Addr} {o : Obj} {fs gs : Array (Int × Value)} {ep : Nat} {u v : SetTable} {S' : Int -> Bool} {led : Bool} (ho : s.heap.get? a = some o) (hex : o.ExactSet) (hd : o.data = .set fs ep u) (el : ElemsOf (KI prog w) gs.toList) (mem : ∀ k, S' k = true ↔ ∃ e ∈ gs.toList, (KI prog w).is k e.2 = true) (small : gs.size < scanBound) (fit : v.fits gs.size = true) (gt : GT led v)
  {wd : Bool} {R : Option Bool -> Shared -> Prop} (fin : ∀ h', Heap.SameBut a s.heap h' -> SetG prog w h' a S' gs.size led -> R (some true) { s with heap := h' }) :
  wpAny (model prog w) A (do
   storeSet a gs v
   if (!wd && v.tooFull) = true then do
     g (relayAll v gs (SetTable.grown gs.size)).2.2
     storeSet a (relayAll v gs (SetTable.grown gs.size)).1 (relayAll v gs (SetTable.grown gs.size)).2.1
     pure (some true)
    else pure (some true)) R E s := by
 have b1 := Heap.SameBut.update s.heap a (Obj.putSet gs v)
 have g1 := sg_put (prog := prog) (w := w) ho hex hd el mem small fit gt
 refine wpAny_bind (wpAny_storeSet_of ho hd ?_ (fits_of_scanBound small))
 split
 ·have pp := relayAll_perm v gs (SetTable.grown gs.size)
  have pf := relayAll_fits v gs (SetTable.grown gs.size)
  have pg := D9 gt gs (SetTable.grown gs.size)
  revert pp pf pg
  generalize relayAll v gs (SetTable.grown gs.size) = rr
  obtain ⟨ks, x, gave⟩ := rr
  intro pp pf pg
  have zz : ks.size = gs.size := by
   have := pp.length_eq
   simpa using this
  refine wpAny_bind (pass _ _ _ ?_)
  have m2 : ∀ k, S' k = true ↔ ∃ e ∈ ks.toList, (KI prog w).is k e.2 = true := fun k => (mem k).trans ⟨fun ⟨e, he, q⟩ => ⟨e, pp.mem_iff.mpr he, q⟩, fun ⟨e, he, q⟩ => ⟨e, pp.mem_iff.mp he, q⟩⟩
  have sm : ks.size < scanBound := zz ▸ small
  refine wpAny_bind (wpAny_storeSet_of g1.at_ rfl ?_ (fits_of_scanBound sm))
  have g2 := sg_put (prog := prog) (w := w) g1.at_ g1.ex rfl (el.perm pp) m2 sm pf pg
  rw [zz] at g2
  exact wpAny_pure (fin _ (b1.trans (Heap.SameBut.update _ a _)) ⟨_, _, _, _, g2⟩)
 ·exact wpAny_pure (fin _ b1 ⟨_, _, _, _, g1⟩)
theorem addG {a : Addr} {S : Int -> Bool} {n : Nat} {led : Bool} {k : Int} {x : Value} {Q : Bool -> Shared -> Prop} (hk : (KI prog w).is k x = true) (hx : x.scannable = true) (hS : SetG prog w s.heap a S n led) (room : n + 1 < scanBound)
  (fin : ∀ h', Heap.SameBut a s.heap h' -> SetG prog w h' a (fun j => S j || decide (j = k)) (if S k then n else n + 1) led -> Q (!S k) { s with heap := h' }) :
  wpAny (model prog w) A (setAddHashed a x ((KI prog w).hash k)) Q E s := by
 obtain ⟨o, fs, ep, u, G⟩ := hS
 have hn := G.many
 unfold setAddHashed setAddHashedIn
 refine wpAny_holding (wpAny_bind (wpAny_setState_of G.at_ G.dat G.fit ?_))
 dsimp only
 rw [byScan_of hx G.small G.el]
 simp only [↓reduceIte]
 unfold setAddByScan
 refine wpAny_bind ?_
 refine wpAny_bind (wpAny_rule ?_)
 refine wpAny_bind (wpAny_setScan_of hk G.at_ G.dat G.fit G.el ?_)
 cases hr : List.findIdx? (fun e => (KI prog w).is k e.2) fs.toList with
 | some j =>
  dsimp only
  obtain ⟨hj, hp, _⟩ := List.findIdx?_eq_some_iff_getElem.mp hr
  have hSk : S k = true := (G.mem k).mpr ⟨_, getElem_mem hj, hp⟩
  have := fin s.heap (Heap.SameBut.refl a s.heap) (SetG.congr ⟨o, fs, ep, u, G⟩ (fun i => by
   by_cases z : i = k
   ·subst z; rw [hSk]; simp
   ·simp [z]) (by rw [if_pos hSk]))
  rw [hSk] at this
  exact wpAny_pure (wpAny_pure this)
 | none =>
  dsimp only
  have hSk : S k = false := by
   cases z : S k with
   | false => rfl
   | true =>
    obtain ⟨e, he, hp⟩ := (G.mem k).mp z
    have := List.findIdx?_eq_none_iff.mp hr e he
    rw [hp] at this; cases this
  have pass : ∀ (b : Bool) {s1 : Shared} {R : Unit -> Shared -> Prop}, R () s1 -> wpAny (model prog w) A (match b with | true => rule "set.scan.the-table-gave-way" | false => pure ()) R E s1 := fun b s1 R hq => by
   cases b
   ·exact wpAny_pure hq
   ·exact wpAny_rule hq
  have lp := layNew_perm u fs ((KI prog w).hash k) x
  have lf := layNew_fits u fs ((KI prog w).hash k) x
  have lg := layNew_good G.good fs ((KI prog w).hash k) x
  revert lp lf lg
  generalize layNew u fs ((KI prog w).hash k) x = ll
  obtain ⟨gs, v, wd, gave⟩ := ll
  intro lp lf lg
  dsimp only at lp lf lg ⊢
  rw [Array.toList_push] at lp
  have el : ElemsOf (KI prog w) gs.toList := (G.el.push hk hx).perm lp
  have mm := fun j => mem_push_iff hk G.mem lp j
  have zz : gs.size = n + 1 := by
   have := lp.length_eq
   simp only [Array.length_toList, length_append, length_cons, length_nil] at this
   omega
  have sm : gs.size < scanBound := by omega
  refine wpAny_bind (pass _ ?_)
  have last : ∀ h', Heap.SameBut a s.heap h' -> SetG prog w h' a (fun j => S j || decide (j = k)) gs.size led -> Q true { s with heap := h' } := fun h' b g => by
   have := fin h' b
   rw [hSk] at this
   exact this (g.congr (fun _ => rfl) zz)
  split
  ·refine wpAny_bind ?_
   rw [hashByValue_scannable 8 hx]
   refine wpAny_pure ?_
   refine tailG (fun b s1 R hq => by cases b; exact wpAny_pure hq; exact wpAny_rule hq) G.at_ G.ex G.dat el mm sm ?_ ?_ fun h' b g => wpAny_pure (last h' b g)
   ·split
    ·exact lf
    ·exact SetTable.fits_plain_off lf
   ·split
    ·exact lg
    ·exact ⟨lg.1, fun z => by cases z⟩
  ·refine wpAny_bind (wpAny_pure ?_)
   simp only [↓reduceIte]
   exact tailG (fun b s1 R hq => by cases b; exact wpAny_pure hq; exact wpAny_rule hq) G.at_ G.ex G.dat el mm sm lf lg fun h' b g => wpAny_pure (last h' b g)
end
end
section
section
variable {prog : Program} {w : World} {A : Around} {E : Value -> Shared -> Prop} {s : Shared}
def inL (val : Nat -> Int) (i : Nat) : Int -> Bool := fun j => (firstMet val i).any (· == j)
section
variable {R : Result -> Shared -> Prop} {I : Addr} {fp wr : List Addr} {Gn : Array GenState -> Array GenState -> Prop} {n : Nat} {P : Nat -> Value -> Prop} {St : Nat -> Shared -> Prop}
theorem loopG (W : WalksS prog w A.in1 I fp wr Gn n P St) (a : Addr) (off : a ∉ fp) (val : Nat -> Int) (hv : ∀ i v, P i v -> ∃ t, v = .int (val i) t) (small : n + 1 < scanBound) (led : Bool) :
  ∀ (r i : Nat) (s : Shared), n - i = r -> i <= n -> St i s -> SetG prog w s.heap a (inL val i) (firstMet val i).length led ->
   (∀ s', Moved (a :: wr) Gn s s' -> SetG prog w s'.heap a (inL val n) (firstMet val n).length led -> R (.ok (.ret .none)) s') ->
   codeAny (model prog w) A (.builtin "set.update.loop" ⟨[.ref a, .ref I], []⟩) R s := by
 have offw : a ∉ wr := fun z => off (W.sub _ z)
 have up : ∀ b ∈ wr, b ∈ a :: wr := fun b z => mem_cons_of_mem _ z
 intro r
 induction r with
 | zero =>
  intro i s hr hi st g fin
  obtain rfl : i = n := by omega
  refine codeAny_builtin F.entry_set_update_loop ?_
  rw [Around.under_plainId F.plain_set_update_loop _]
  show wpAny _ A.in1 (pyNext (.ref I) >>= _) _ _ s
  refine wpAny_bind (W.done s _ _ st fun s1 mv => ?_)
  exact wpAny_pure (fin s1 (mv.mono up) (g.stay fun o e => mv.heap a o offw e))
 | succ r ih =>
  intro i s hr hi st g fin
  have lt : i < n := by omega
  refine codeAny_builtin F.entry_set_update_loop ?_
  rw [Around.under_plainId F.plain_set_update_loop _]
  show wpAny _ A.in1 (pyNext (.ref I) >>= _) _ _ s
  refine wpAny_bind (W.item i s _ _ lt st fun v s1 pv st1 mv => ?_)
  obtain ⟨t, rfl⟩ := hv i v pv
  have g1 := g.stay fun o e => mv.heap a o offw e
  show wpAny _ A.in1 (holding [Value.int (val i) t] (setAdd a (.int (val i) t)) >>= _) _ _ s1
  refine wpAny_bind (wpAny_holding ?_)
  unfold setAdd
  refine wpAny_holding ?_
  refine wpAny_bind ((intKind prog w).pyHash (k := val i) (intKind_is _ _ _ _) ?_)
  refine addG (s := { s1 with toks := s1.toks + 1 }) (intKind_is _ _ _ _) rfl g1 (by have := firstMet_length_le val i; omega) fun h2 sb g2 => ?_
  have g3 : SetG prog w h2 a (inL val (i + 1)) (firstMet val (i + 1)).length led := g2.congr (fun j => by unfold inL; rw [firstMet_succ, step_any]) (by rw [firstMet_succ, step_length]; rfl)
  refine wpAny_pure ⟨plainId_quiet F.plain_set_update_loop _, ih (i + 1) _ (by omega) lt (W.frame _ s1 _ _ st1 (Nat.le_succ _) fun b hb o e => ?_) g3 fun s2 mv2 g4 => ?_⟩
  ·rw [sb.2 b (fun z : b = a => off (by rw [<- z]; exact hb))]; exact e
  ·refine fin s2 (Moved.trans W.gtrans ((mv.mono up).then_heap (Nat.le_succ _) fun b o hb e => ?_) mv2) g4
   rw [sb.2 b (fun z : b = a => hb (by rw [z]; exact mem_cons_self))]; exact e
end
def G0 (w : World) : Bool := !(w.params.followText "set-order")
def j9 (w : World) : Obj := { cls := .type "set", dict := none, data := .set #[] 0 (.fresh 0 0 (G0 w)) }
theorem code_newG (a : Value) {Q : Value -> Shared -> Prop} (h : Q (.ref s.heap.objs.size) { s with heap := s.heap.push (j9 w) }) :
  codeAny (model prog w) A (.call (.builtin "set.__new__") ⟨[.type "set", a], []⟩) (wants Q E) s := by
 refine codeAny_of_tree ?_
 show wpAny _ A.in1 (do checkBuiltinCall "set.__new__" ⟨[.type "set", a], []⟩; again (.builtin "set.__new__" ⟨[.type "set", a], []⟩)) _ _ s
 refine wpAny_bind (wpAny_of_eq (PySem.F.newCall_set_1 a) (wpAny_pure ⟨plainId_quiet PySem.F.plain_set_new _, codeAny_builtin PySem.F.entry_set_new ?_⟩))
 rw [Around.under_plainId PySem.F.plain_set_new _]
 unfold Builtin.«set.__new__» Builtin.Frozenset.newClass
 have hsub := PySem.sub_set_self
 obtain ⟨hp, g, d, tk, os⟩ := s
 dsimp only
 wp_walk
 refine wpAny_askSetting (wpAny_pure ?_)
 dsimp only
 simp only [newObj]
 refine wpAny_bind (wpAny_alloc (wpAny_pure ?_))
 exact wpAny_pure h
theorem setObj0_G {h : Heap} {a : Addr} (ho : h.get? a = some (j9 w)) : SetG prog w h a (fun _ => false) 0 (G0 w) :=
 ⟨j9 w, #[], 0, .fresh 0 0 (G0 w), ho, ⟨rfl, rfl, rfl⟩, rfl, fun e z => by simp at z, fun k => by simp, by decide, by rfl, rfl, rfl, fun _ => List.Pairwise.nil⟩
set_option maxHeartbeats 3200000 in
theorem callSetG {l : Addr} {items : Array Value} {ns : List Int} {Q : Value -> Shared -> Prop} (hh : A.handled = none) (hl : s.heap.IsList l items) (hi : IntsAre items.toList ns) (small : items.size + 1 < scanBound)
  (fin : ∀ (h' : Heap) (tk : Nat), SetG prog w h' s.heap.objs.size (inL (fun i => ns.getD i 0) items.size) (firstMet (fun i => ns.getD i 0) items.size).length (G0 w) ->
   (∀ b o, b < s.heap.objs.size -> s.heap.get? b = some o -> h'.get? b = some o) -> Q (.ref s.heap.objs.size) { s with heap := h', toks := tk }) :
  wpAny (model prog w) A (call (.type "set") [.ref l]) Q E s := by
 obtain ⟨c, tl, hmro⟩ := PySem.F.called_set.mro
 have hmade := PySem.F.called_set.made
 have hsub := PySem.F.called_set.sub
 refine wpAny_call (codeAny_of_tree ?_)
 show wpAny _ _ (callAny (.type "set") _) _ _ _
 refine wpAny_pure ⟨Code.quiet_builtin _ (by decide +kernel), codeAny_builtin PySem.F.entry_type_call ?_⟩
 rw [Around.under_plain (weight_type_call_type "set" [.ref l] []) rfl]
 have h1 := PySem.F.called_set.notType
 have h2 := PySem.F.called_set.canCreate
 have hct := PySem.F.typeCall_set_1 (.ref l)
 repeat (any_goals (first | assumption | wp_step))
 refine codeAny_mono (code_newG (.ref l) (E := E) (Q := fun obj s1 => obj = .ref s.heap.objs.size /\ s1 = { s with heap := s.heap.push (j9 w) }) ⟨rfl, rfl⟩) fun r s1 hr => ?_
 cases r with
 | error e => exact hr
 | ok fl =>
  cases fl with
  | ret obj =>
   obtain ⟨rfl, rfl⟩ := hr
   have hS : (s.heap.push (j9 w)).get? s.heap.objs.size = some (j9 w) := Heap.get?_push_size _ rfl
   have hT : Shared.TypeIs { s with heap := s.heap.push (j9 w) } (.ref s.heap.objs.size) "set" := ⟨_, hS, rfl⟩
   have hli := PySem.F.called_set.init.lookup
   have hbi := PySem.F.called_set.init.bind (.ref s.heap.objs.size)
   repeat (any_goals (first | assumption | wp_step))
   refine codeAny_mono (codeAny_call_builtin (R := wants (fun r s2 => r = .none /\ ∃ h' tk, s2 = { s with heap := h', toks := tk } /\ SetG prog w h' s.heap.objs.size (inL (fun i => ns.getD i 0) items.size) (firstMet (fun i => ns.getD i 0) items.size).length (G0 w) /\
     (∀ b o, b < s.heap.objs.size -> s.heap.get? b = some o -> h'.get? b = some o)) E) PySem.F.called_set.init.plain PySem.F.entry_set_init (PySem.check_set_init_1 hT ?_)) fun r2 s2 hr2 => ?_
   ·obtain ⟨ol, hol, hcl, nl, hdl⟩ := hl
    obtain ⟨ocls, odict, odata, oslots⟩ := ol
    simp only at hcl hdl
    subst hcl; subst hdl
    have hol' : (s.heap.push (j9 w)).get? l = some { cls := .type "list", dict := odict, data := .seq items nl, slots := oslots } := Heap.get?_push_of_some _ hol
    have hsls := PySem.F.sub_list_set
    have hslf := PySem.F.sub_list_frozenset
    have hne : (Value.type "list" == Value.type "dict") = false := by decide
    have hl1 : (s.heap.push (j9 w)).IsList l items := ⟨_, hol', rfl, nl, rfl⟩
    unfold Builtin.«set.__init__» noKeywords Builtin.Frozenset.updateFrom
    generalize hPI : pyIter = PI
    wp_walk
    subst hPI
    refine wpAny_pyIter_list hl1 ?_
    refine wpAny_bind (wpAny_runValue ?_)
    have hlS : l < s.heap.objs.size := Heap.lt_size hol
    have hh3 : A.in1.in1.in1.handled = none := by simp [hh]
    have hsz1 : (s.heap.push (j9 w)).objs.size = s.heap.objs.size + 1 := by rw [Heap.size_push]
    have hneI : l ≠ (s.heap.push (j9 w)).objs.size := by rw [hsz1]; exact Nat.ne_of_lt (Nat.lt_succ_of_lt hlS)
    have hSf : s.heap.objs.size ∉ [(s.heap.push (j9 w)).objs.size, l] := by
     simp only [mem_cons, not_mem_nil, or_false, not_or]
     exact ⟨by rw [hsz1]; exact Nat.ne_of_lt (Nat.lt_succ_self _), Nat.ne_of_gt hlS⟩
    refine loopG ((Walks.list hh3 _ l hneI items).toS) s.heap.objs.size hSf (fun i => ns.getD i 0) (fun i v hv => IntsAre.int_at hi i v (by rw [Array.getElem?_toList]; exact hv)) small (G0 w) (items.size - 0) 0 _ (by omega) (Nat.zero_le _) ⟨⟨_, Heap.get?_push_size _ rfl, rfl, rfl⟩, (hl1.push _)⟩ ?g0 ?gR
    case g0 => exact (setObj0_G (Heap.get?_push_of_some _ hS)).congr (fun _ => rfl) rfl
    case gR =>
     intro s' mv g
     obtain ⟨h', g', d', tk', os'⟩ := s'
     have eg : g' = s.gens := mv.gens
     have ed : d' = s.drawn := mv.drawn
     have eo : os' = s.os := mv.os
     subst eg; subst ed; subst eo
     show wpAny _ _ _ _ _ _
     refine wpAny_pure ?_
     show wpAny _ _ (ret Value.none) _ _ _
     refine wpAny_pure ⟨rfl, h', tk', rfl, g, fun b o hb e => ?_⟩
     exact mv.heap b o (by simp only [mem_cons, not_mem_nil, or_false, not_or]; exact ⟨Nat.ne_of_lt hb, by rw [Heap.size_push]; exact Nat.ne_of_lt (Nat.lt_succ_of_lt hb)⟩) (Heap.get?_push_of_some _ (Heap.get?_push_of_some _ e))
   ·cases r2 with
    | error e => exact hr2
    | ok fl2 =>
     cases fl2 with
     | ret r =>
      obtain ⟨rfl, h', tk, rfl, g, kk⟩ := hr2
      repeat (any_goals (first | assumption | wp_step))
      exact fin _ _ g kk
     | _ => exact hr2.elim
  | _ => exact hr.elim
end
end
section
theorem slot_si_next : Slot "set_iterator" "__next__" "set_iterator.__next__" :=
 .of (owner := "set_iterator") (n := "__next__") (by rw [typeLookup_type, builtinLookup_eq_fast]; kernel_rfl) (by decide +kernel) (by decide +kernel) (by decide +kernel)
  (by first | exact .inl (by decide +kernel) | exact .inr (by decide +kernel)) (by rw [isSubtype_type]; kernel_rfl)
theorem g5 : entryFor table "set_iterator.__next__" = some Builtin.«set_iterator.__next__» := entryFor_of_tree (by kernel_rfl)
theorem b9 (a : Value) : argsOk "set_iterator.__next__" ⟨[a], []⟩ := by unfold argsOk; kernel_rfl
theorem G4 : entryFor table "set.__iter__" = some Builtin.«frozenset.__iter__» := entryFor_alias (id' := "frozenset.__iter__") (by kernel_rfl) rfl (by decide +kernel) (by kernel_rfl)
section
variable {prog : Program} {w : World} {A : Around} {E : Value -> Shared -> Prop} {s : Shared}
def IsSI (h : Heap) (it : Addr) (first : Value) (i : Nat) (a : Addr) (n ep : Nat) : Prop := ∃ o, h.get? it = some o /\ o.cls = .type "set_iterator" /\ o.data = .fields #[first, .int i 0, .ref a, .int n 0, .int ep 0]
theorem IsSI.typeIs {it : Addr} {first : Value} {i : Nat} {a : Addr} {n ep : Nat} (x : IsSI s.heap it first i a n ep) : s.TypeIs (.ref it) "set_iterator" := let ⟨o, ho, hc, _⟩ := x; ⟨o, ho, hc⟩
theorem next_int {it a : Addr} {slot : Int} {t0 i n ep nx : Nat} {x : Value} {S : Int -> Bool} {led : Bool} {o : Obj} {fs : Array (Int × Value)} {u : SetTable} {Q : Option Value -> Shared -> Prop} (hit : IsSI s.heap it (.int slot t0) i a n ep) (G : SG prog w s.heap a S n led o fs ep u)
  (hn : ∀ (A : Around) (Q : Option (Value × Nat) -> Shared -> Prop) (E : Value -> Shared -> Prop), Q (some (x, nx)) s -> wpAny (model prog w) A (setNext a slot.toNat i ep) Q E s)
  (hQ : ∀ h', IsSI h' it (.int nx 0) (i + 1) a n ep -> Heap.SameBut it s.heap h' -> Q (some x) { s with heap := h' }) :
  wpAny (model prog w) A (pyNext (.ref it)) Q E s := by
 obtain ⟨oi, ho, hc, hd⟩ := id hit
 unfold pyNext
 refine wpAny_bind (wpAny_attempt (wpAny_callSpecial?_slot (name := Str.ofString "__next__") hit.typeIs slot_si_next
  (wpAny_call_entry slot_si_next hit.typeIs g5 ?_ (b9 _))))
 show wpAny _ _ (fieldsOf (.ref it) >>= _) _ _ s
 refine wpAny_bind (wpAny_fieldsOf ho hd ?_)
 show wpAny _ _ (setEntries a >>= _) _ _ s
 refine wpAny_bind (wpAny_setEntries_of G.at_ G.dat G.fit ?_)
 rw [if_neg (by rw [G.many]; simp)]
 dsimp only
 refine wpAny_bind ?_
 show wpAny _ _ (setNext a slot.toNat (i : Int).toNat (ep : Int).toNat) _ _ s
 rw [Int.toNat_natCast, Int.toNat_natCast]
 refine hn _ _ _ ?_
 dsimp only
 refine wpAny_bind (wpAny_setField ho hd (by simp) ?_)
 have g1 := Heap.get?_update_self (Obj.mapFields (·.setIfInBounds 0 (rawInt nx))) ho (Obj.isFreed_of_fields (Obj.data_mapFields hd _))
 have d1 := Obj.data_mapFields hd (·.setIfInBounds 0 (rawInt nx))
 refine wpAny_bind (wpAny_setField g1 d1 (by simp) (wpAny_pure ⟨x, rfl, wpAny_pure (hQ _ ?_ ((Heap.SameBut.update ..).trans (Heap.SameBut.update ..)))⟩))
 refine ⟨_, Heap.get?_update_self _ g1 (Obj.isFreed_of_fields (Obj.data_mapFields d1 _)), (Obj.cls_mapFields ..).trans ((Obj.cls_mapFields ..).trans hc), ?_⟩
 rw [Obj.data_mapFields d1]
 simp [rawInt]
theorem zw0 {it a : Addr} {slot : Int} {t0 i n ep : Nat} {S : Int -> Bool} {led : Bool} {o : Obj} {fs : Array (Int × Value)} {u : SetTable} {Q : Option Value -> Shared -> Prop} (hh : A.handled = none) (hit : IsSI s.heap it (.int slot t0) i a n ep) (G : SG prog w s.heap a S n led o fs ep u)
  (hn : ∀ (A : Around) (Q : Option (Value × Nat) -> Shared -> Prop) (E : Value -> Shared -> Prop), Q none s -> wpAny (model prog w) A (setNext a slot.toNat i ep) Q E s)
  (hQ : ∀ h', Heap.ExtBut it s.heap h' -> Q none { s with heap := h' }) :
  wpAny (model prog w) A (pyNext (.ref it)) Q E s := by
 obtain ⟨oi, ho, hc, hd⟩ := id hit
 unfold pyNext
 refine wpAny_bind (wpAny_attempt (wpAny_callSpecial?_slot (name := Str.ofString "__next__") hit.typeIs slot_si_next
  (wpAny_call_entry slot_si_next hit.typeIs g5 ?_ (b9 _))))
 show wpAny _ _ (fieldsOf (.ref it) >>= _) _ _ s
 refine wpAny_bind (wpAny_fieldsOf ho hd ?_)
 show wpAny _ _ (setEntries a >>= _) _ _ s
 refine wpAny_bind (wpAny_setEntries_of G.at_ G.dat G.fit ?_)
 rw [if_neg (by rw [G.many]; simp)]
 dsimp only
 refine wpAny_bind ?_
 show wpAny _ _ (setNext a slot.toNat (i : Int).toNat (ep : Int).toNat) _ _ s
 rw [Int.toNat_natCast, Int.toNat_natCast]
 refine hn _ _ _ ?_
 dsimp only
 refine wpAny_bind (wpAny_setField ho hd (by simp) ?_)
 show wpAny _ _ (newExc (.type "StopIteration") [] >>= _) _ _ _
 refine wpAny_bind ?_
 simp only [newExc, newTuple]
 refine wpAny_bind (wpAny_newObj_type ?_ (by size_fits))
 refine wpAny_bind (m := firstArgMember _ _) (wpAny_of_eq (a := Value.none) (by first | rfl | (simp only [firstArgMember]; rfl)) ?_)
 refine wpAny_newObj_type ?_ (by size_fits)
 simp only [raiseNew]
 refine wpAny_bind (wpAny_handled ?_)
 first | rw [show A.in1.handled = none from hh] | rw [hh]
 refine wpAny_bind (wpAny_pure (wpAny_throw ?_))
 refine wpAny_bind (wpAny_isInstance (T := "StopIteration") (b := true) ⟨_, Heap.get?_push_size _ rfl, rfl⟩ isSubtype_stop ?_)
 exact wpAny_pure (hQ _ (((Heap.SameBut.update ..).extBut.push _).push _))
theorem R5 {Q : Bool -> Shared -> Prop} (h : Q (w.params.followText "set-order") s) : wpAny (model prog w) A setsByText Q E s := by
 unfold setsByText
 exact wpAny_bind (wpAny_askSetting (wpAny_pure h))
variable {a : Addr} {S : Int -> Bool} {n ep : Nat} {led : Bool} {o : Obj} {fs : Array (Int × Value)} {u : SetTable}
theorem P2 (G : SG prog w s.heap a S n led o fs ep u) (ht : w.params.followText "set-order" = true) (slot i : Nat) {Q : Option (Value × Nat) -> Shared -> Prop} (h : Q (((pickOrder (w.params.setOrder a ep) fs)[i]?).map fun e => (e.2, slot)) s) : wpAny (model prog w) A (setNext a slot i ep) Q E s := by
 unfold setNext
 refine wpAny_bind (wpAny_setState_of G.at_ G.dat G.fit ?_)
 dsimp only
 refine wpAny_bind (R5 ?_)
 rw [ht]
 simp only [if_true, bne_self_eq_false, Bool.false_eq_true, if_false]
 refine wpAny_bind ?_
 unfold setWalk
 refine wpAny_bind (wpAny_setState_of G.at_ G.dat G.fit ?_)
 dsimp only
 refine wpAny_bind (R5 ?_)
 rw [ht]
 simp only [if_true]
 exact wpAny_bind (wpAny_askSetting (wpAny_pure (wpAny_pure h)))
theorem U1 (G : SG prog w s.heap a S n led o fs ep u) (ht : w.params.followText "set-order" = false) (hl : led = true) (hp : (!u.plain && decide (fs.size > 1)) = false) (slot i : Nat) {Q : Option (Value × Nat) -> Shared -> Prop}
  (h : Q (match fs[SetTable.below u.place slot]?, u.place[SetTable.below u.place slot]? with | some (_, x), some j => some (x, j + 1) | _, _ => none) s) : wpAny (model prog w) A (setNext a slot i ep) Q E s := by
 unfold setNext
 refine wpAny_bind (wpAny_setState_of G.at_ G.dat G.fit ?_)
 dsimp only
 refine wpAny_bind (R5 ?_)
 rw [ht]
 simp only [Bool.false_eq_true, if_false]
 show wpAny _ _ (if (!u.plain && decide (fs.size > 1)) = true then _ else _) _ _ s
 rw [hp]
 simp only [Bool.false_eq_true, if_false]
 show wpAny _ _ ((if (!u.led && !fs.isEmpty) = true then unsupported "set:maker-not-led" else pure ()) >>= _) _ _ s
 rw [G.good.1, hl]
 simp only [Bool.not_true, Bool.false_and, Bool.false_eq_true, if_false]
 exact wpAny_bind (wpAny_pure (wpAny_pure h))
end
end
section
section
variable {prog : Program} {w : World} {A : Around} {E : Value -> Shared -> Prop} {s : Shared}
theorem choose_any {src : Source} {n : Nat} (hn : n ≠ 0) {Q : Nat -> Shared -> Prop} (h : ∀ v, v < n -> Q v { s with drawn := s.drawn.bump src }) : wpAny (model prog w) A (choose src n) Q E s := fun Γ p hΓ => by
 unfold choose
 exact ⟨hn, h _ (Nat.mod_lt _ (Nat.pos_of_ne_zero hn))⟩
theorem R1 {α : Type} : ∀ (n : Nat) (xs : List α) {s : Shared} {Q : List α -> Shared -> Prop}, xs.length = n -> (∀ ys d, ys.Perm xs -> Q ys { s with drawn := d }) -> wpAny (model prog w) A (drawOrder n xs) Q E s
 | 0, xs, s, Q, h, q => by
  rw [List.length_eq_zero_iff.mp h] at q ⊢
  exact wpAny_pure (q [] s.drawn (.refl _))
 | n + 1, [], s, Q, h, q => by cases h
 | n + 1, x :: xs, s, Q, h, q => by
  show wpAny _ _ (choose .order (x :: xs).length >>= _) _ _ s
  refine wpAny_bind (choose_any (by simp) fun v hv => ?_)
  rw [getElem?_eq_getElem hv]
  dsimp only
  refine wpAny_bind (R1 n _ (by rw [length_eraseIdx_of_lt hv]; omega) fun ys d hp => ?_)
  exact wpAny_pure (q _ d ((hp.cons _).trans (E7 (x :: xs) v hv)))
variable {a : Addr} {S : Int -> Bool} {n ep : Nat} {led : Bool} {o : Obj} {fs : Array (Int × Value)} {u : SetTable}
theorem iter_set (G : SG prog w s.heap a S n led o fs ep u) {Q : Value -> Shared -> Prop}
  (h1 : (w.params.followText "set-order" = true \/ (!u.plain && decide (fs.size > 1)) = false) -> Q (.ref s.heap.objs.size) { s with heap := s.heap.push { cls := .type "set_iterator", data := .fields #[.int 0 0, .int 0 0, .ref a, .int n 0, .int ep 0] } })
  (h2 : ∀ (ys : List Nat) d, ys.Perm (List.range n) -> Q (.ref (s.heap.objs.size + 1)) { s with heap := (s.heap.push (seqObj "tuple" (ys.map fun (i : Nat) => Value.int i 0).toArray 0)).push { cls := .type "set_iterator", data := .fields #[.ref s.heap.objs.size, .int 0 0, .ref a, .int n 0, .int ep 0] }, drawn := d }) :
  wpAny (model prog w) A (pyIter (.ref a)) Q E s := by
 have hT : s.TypeIs (.ref a) "set" := ⟨o, G.at_, G.ex.1⟩
 refine wpAny_pyIter_slot hT PySem.F.slot_set_iter (wpAny_call_entry PySem.F.slot_set_iter hT G4 ?_ (PySem.F.args_set_iter_1 _))
 show wpAny _ _ (Builtin.Frozenset.sizeOf a >>= _) _ _ s
 unfold Builtin.Frozenset.sizeOf
 refine wpAny_bind (wpAny_bind (wpAny_setEntries_of G.at_ G.dat G.fit (wpAny_pure ?_)))
 show wpAny _ _ (setDrawn a >>= _) _ _ s
 unfold setDrawn
 refine wpAny_bind (wpAny_bind (wpAny_setState_of G.at_ G.dat G.fit ?_))
 dsimp only
 refine wpAny_bind (R5 (wpAny_pure ?_))
 have last : ∀ (s1 : Shared) (first : Value), s1.heap.get? a = some o -> (Q (.ref s1.heap.objs.size) { s1 with heap := s1.heap.push { cls := .type "set_iterator", data := .fields #[first, .int 0 0, .ref a, .int n 0, .int ep 0] } }) ->
   wpAny (model prog w) A.in1 (do
    let e ← setEpoch a
    let r ← newFields "set_iterator" [first, rawInt 0, .ref a, rawInt fs.size, rawInt e]
    ret r) (fun fin s' => ∃ v, fin = Fin.done (Flow.ret v) /\ ∃ T' r, s'.TypeIs v T' /\ typeLookup (Value.type T') (Str.ofString "__next__") = pure (some r) /\ Q v s') E s1 := fun s1 first ha q => by
  refine wpAny_bind (wpAny_setEpoch_of ha G.dat G.fit ?_)
  rw [G.many]
  exact wpAny_bind (wpAny_newObj_type (wpAny_pure ⟨_, rfl, "set_iterator", _, ⟨_, Heap.get?_push_size _ rfl, rfl⟩, slot_si_next.lookup, q⟩))
 show wpAny _ _ (if (!w.params.followText "set-order" && (!u.plain && decide (fs.size > 1))) = true then _ else _) _ _ s
 cases hb : (!w.params.followText "set-order" && (!u.plain && decide (fs.size > 1))) with
 | true =>
  simp only [if_true]
  refine wpAny_bind (R1 _ _ (by simp) fun ys d hp => ?_)
  refine wpAny_bind (wpAny_newTuple ?_ (by have := hp.length_eq; have := fits_of_scanBound G.small; simp at *; omega))
  refine last _ _ (Heap.get?_push_of_some _ G.at_) ?_
  have := h2 ys d (by rw [<- G.many]; exact hp)
  have e : (s.heap.push (seqObj "tuple" (ys.map fun (i : Nat) => Value.int i 0).toArray 0)).objs.size = s.heap.objs.size + 1 := by rw [Heap.size_push]
  rw [<- e] at this
  exact this
 | false =>
  simp only [Bool.false_eq_true, if_false]
  refine last s (rawInt 0) G.at_ (h1 ?_)
  cases ht : w.params.followText "set-order" with
  | true => exact .inl rfl
  | false => rw [ht] at hb; exact .inr hb
end
end
section
section
variable {prog : Program} {w : World} {A : Around} {E : Value -> Shared -> Prop} {s : Shared}
variable {it a pt : Addr} {i n ep : Nat} {S : Int -> Bool} {led : Bool} {o : Obj} {fs : Array (Int × Value)} {u : SetTable} {items : Array Value}
theorem next_drawn {y t : Nat} {e : Int × Value} {Q : Option Value -> Shared -> Prop} (hit : IsSI s.heap it (.ref pt) i a n ep) (G : SG prog w s.heap a S n led o fs ep u) (hp : s.heap.IsTuple pt items) (hy : items[i]? = some (.int (y : Int) t)) (he : fs[y]? = some e)
  (hQ : ∀ h', IsSI h' it (.ref pt) (i + 1) a n ep -> Heap.SameBut it s.heap h' -> Q (some e.2) { s with heap := h' }) :
  wpAny (model prog w) A (pyNext (.ref it)) Q E s := by
 obtain ⟨oi, ho, hc, hd⟩ := id hit
 obtain ⟨ot, hot, _, nt, hdt⟩ := hp
 unfold pyNext
 refine wpAny_bind (wpAny_attempt (wpAny_callSpecial?_slot (name := Str.ofString "__next__") hit.typeIs slot_si_next
  (wpAny_call_entry slot_si_next hit.typeIs g5 ?_ (b9 _))))
 show wpAny _ _ (fieldsOf (.ref it) >>= _) _ _ s
 refine wpAny_bind (wpAny_fieldsOf ho hd ?_)
 show wpAny _ _ (setEntries a >>= _) _ _ s
 refine wpAny_bind (wpAny_setEntries_of G.at_ G.dat G.fit ?_)
 rw [if_neg (by rw [G.many]; simp)]
 show wpAny _ _ (seqItems? (.ref pt) >>= _) _ _ s
 refine wpAny_bind (wpAny_seqItems hot hdt ?_)
 simp only [Int.toNat_natCast, hy]
 refine wpAny_bind ?_
 unfold setNextDrawn
 refine wpAny_bind (wpAny_setState_of G.at_ G.dat G.fit ?_)
 simp only [bne_self_eq_false, Bool.false_eq_true, if_false, he]
 refine wpAny_pure ?_
 refine wpAny_bind (wpAny_setField ho hd (by simp) (wpAny_pure ⟨e.2, rfl, wpAny_pure (hQ _ ?_ (Heap.SameBut.update ..))⟩))
 exact ⟨_, Heap.get?_update_self _ ho (Obj.isFreed_of_fields (Obj.data_mapFields hd _)), (Obj.cls_mapFields ..).trans hc, by
  rw [Obj.data_mapFields hd]; simp [rawInt]⟩
theorem next_drawnE {Q : Option Value -> Shared -> Prop} (hh : A.handled = none) (hit : IsSI s.heap it (.ref pt) i a n ep) (G : SG prog w s.heap a S n led o fs ep u) (hp : s.heap.IsTuple pt items) (hy : items[i]? = none)
  (hQ : ∀ h', Heap.ExtBut it s.heap h' -> Q none { s with heap := h' }) :
  wpAny (model prog w) A (pyNext (.ref it)) Q E s := by
 obtain ⟨oi, ho, hc, hd⟩ := id hit
 obtain ⟨ot, hot, _, nt, hdt⟩ := hp
 unfold pyNext
 refine wpAny_bind (wpAny_attempt (wpAny_callSpecial?_slot (name := Str.ofString "__next__") hit.typeIs slot_si_next
  (wpAny_call_entry slot_si_next hit.typeIs g5 ?_ (b9 _))))
 show wpAny _ _ (fieldsOf (.ref it) >>= _) _ _ s
 refine wpAny_bind (wpAny_fieldsOf ho hd ?_)
 show wpAny _ _ (setEntries a >>= _) _ _ s
 refine wpAny_bind (wpAny_setEntries_of G.at_ G.dat G.fit ?_)
 rw [if_neg (by rw [G.many]; simp)]
 show wpAny _ _ (seqItems? (.ref pt) >>= _) _ _ s
 refine wpAny_bind (wpAny_seqItems hot hdt ?_)
 simp only [Int.toNat_natCast, hy]
 have g1 := Heap.get?_update_self (Obj.mapFields (·.setIfInBounds 0 (rawInt 0))) ho (Obj.isFreed_of_fields (Obj.data_mapFields hd _))
 have d1 := Obj.data_mapFields hd (·.setIfInBounds 0 (rawInt 0))
 refine wpAny_bind (wpAny_setField ho hd (by simp) ?_)
 refine wpAny_bind (wpAny_setField g1 d1 (by simp) ?_)
 show wpAny _ _ (newExc (.type "StopIteration") [] >>= _) _ _ _
 refine wpAny_bind ?_
 simp only [newExc, newTuple]
 refine wpAny_bind (wpAny_newObj_type ?_ (by size_fits))
 refine wpAny_bind (m := firstArgMember _ _) (wpAny_of_eq (a := Value.none) (by first | rfl | (simp only [firstArgMember]; rfl)) ?_)
 refine wpAny_newObj_type ?_ (by size_fits)
 simp only [raiseNew]
 refine wpAny_bind (wpAny_handled ?_)
 first | rw [show A.in1.handled = none from hh] | rw [hh]
 refine wpAny_bind (wpAny_pure (wpAny_throw ?_))
 refine wpAny_bind (wpAny_isInstance (T := "StopIteration") (b := true) ⟨_, Heap.get?_push_size _ rfl, rfl⟩ isSubtype_stop ?_)
 exact wpAny_pure (hQ _ ((((Heap.SameBut.update ..).trans (Heap.SameBut.update ..)).extBut.push _).push _))
end
end
section
section
variable {prog : Program} {w : World} {A : Around} {E : Value -> Shared -> Prop} {s : Shared}
def MD (w : World) (h : Heap) (a : Addr) (ws : List Value) (i n ep : Nat) (led : Bool) (fs : Array (Int × Value)) (u : SetTable) (first : Value) : Prop :=
 (w.params.followText "set-order" = true /\ (∃ (k : Int), ∃ t : Nat, first = .int k t) /\ ws = (pickOrder (w.params.setOrder a ep) fs).toList.map (·.2)) \/
 (w.params.followText "set-order" = false /\ led = true /\ (!u.plain && decide (fs.size > 1)) = false /\ Up u.place /\ u.place.size = fs.size /\ (∃ k : Nat, ∃ t : Nat, first = .int (k : Int) t /\ SetTable.below u.place k = i) /\ ws = fs.toList.map (·.2)) \/
 (∃ pt, ∃ ys : List Nat, first = .ref pt /\ h.IsTuple pt (ys.map fun (y : Nat) => Value.int y 0).toArray /\ (∀ y ∈ ys, y < fs.size) /\ ws = ys.map fun y => (fs.getD y default).2)
def StS (prog : Program) (w : World) (it a : Addr) (ws : List Value) (i : Nat) (s : Shared) : Prop := ∃ S n led o fs ep u first, SG prog w s.heap a S n led o fs ep u /\ IsSI s.heap it first i a n ep /\ ws.length = n /\ MD w s.heap a ws i n ep led fs u first
variable {it a : Addr} {ws : List Value} {i : Nat}
theorem SG.to {h h' : Heap} {S : Int -> Bool} {n ep : Nat} {led : Bool} {o : Obj} {fs : Array (Int × Value)} {u : SetTable} (G : SG prog w h a S n led o fs ep u) (k : h'.get? a = some o) : SG prog w h' a S n led o fs ep u := ⟨k, G.ex, G.dat, G.el, G.mem, G.small, G.fit, G.many, G.good⟩
theorem SG.ne {h : Heap} {S : Int -> Bool} {n ep m j : Nat} {led : Bool} {o : Obj} {fs : Array (Int × Value)} {u : SetTable} {first : Value} (G : SG prog w h a S n led o fs ep u) (x : IsSI h it first j a m ep) : a ≠ it := fun z => by
 obtain ⟨oi, ho, hc, _⟩ := x
 have := G.at_
 rw [z, ho] at this
 cases this
 rw [G.ex.1] at hc
 exact absurd hc (by decide)
theorem StS.frame {h' : Heap} {tk : Nat} (x : StS prog w it a ws i s) (k : ∀ b o, s.heap.get? b = some o -> o.cls ≠ .type "list" -> h'.get? b = some o) : StS prog w it a ws i { s with heap := h', toks := tk } := by
 obtain ⟨S, n, led, o, fs, ep, u, first, G, ⟨oi, ho, hc, hd⟩, hl, md⟩ := x
 refine ⟨S, n, led, o, fs, ep, u, first, G.to (k _ _ G.at_ (by rw [G.ex.1]; decide)), ⟨oi, k _ _ ho (by rw [hc]; decide), hc, hd⟩, hl, ?_⟩
 rcases md with md | md | ⟨pt, ys, e, ⟨ot, hot, hct, nt, hdt⟩, r⟩
 ·exact .inl md
 ·exact .inr (.inl md)
 ·exact .inr (.inr ⟨pt, ys, e, ⟨ot, k _ _ hot (by rw [hct]; decide), hct, nt, hdt⟩, r⟩)
theorem StS.item {Q : Option Value -> Shared -> Prop} (x : StS prog w it a ws i s) (hi : i < ws.length) (hQ : ∀ h', StS prog w it a ws (i + 1) { s with heap := h' } -> Heap.SameBut it s.heap h' -> Q (some ws[i]) { s with heap := h' }) : wpAny (model prog w) A (pyNext (.ref it)) Q E s := by
 obtain ⟨S, n, led, o, fs, ep, u, first, G, hit, hl, md⟩ := x
 have hne := G.ne hit
 rcases md with ⟨ht, ⟨k, t, rfl⟩, hws⟩ | ⟨ht, hled, hp, hu, hsz, ⟨k, t, rfl, hb⟩, hws⟩ | ⟨pt, ys, rfl, htp, hys, hws⟩
 ·have hlen : i < (pickOrder (w.params.setOrder a ep) fs).toList.length := by rw [hws, length_map] at hi; exact hi
  refine next_int (x := ws[i]) (nx := k.toNat) hit G (fun A Q E q => P2 G ht _ _ ?_) fun h' y sb => hQ h' ⟨S, n, led, o, fs, ep, u, _, G.to ((sb.2 a hne).trans G.at_), y, hl, .inl ⟨ht, ⟨_, _, rfl⟩, hws⟩⟩ sb
  have e : (pickOrder (w.params.setOrder a ep) fs)[i]? = some ((pickOrder (w.params.setOrder a ep) fs).toList[i]'hlen) := by rw [<- Array.getElem?_toList]; exact getElem?_eq_getElem hlen
  rw [e]
  have : ws[i] = ((pickOrder (w.params.setOrder a ep) fs).toList[i]'hlen).2 := by simp [hws]
  rw [this] at q
  exact q
 ·have hlen : i < fs.size := by rw [hws, length_map, Array.length_toList] at hi; exact hi
  have hpl : i < u.place.size := by omega
  refine next_int (x := ws[i]) (nx := u.place[i] + 1) hit G (fun A Q E q => U1 G ht hled hp _ _ ?_) fun h' y sb => hQ h' ⟨S, n, led, o, fs, ep, u, _, G.to ((sb.2 a hne).trans G.at_), y, hl, .inr (.inl ⟨ht, hled, hp, hu, hsz, ⟨u.place[i] + 1, _, rfl, below_next hu hpl⟩, hws⟩)⟩ sb
  rw [Int.toNat_natCast, hb, Array.getElem?_eq_getElem hlen, Array.getElem?_eq_getElem hpl]
  have : ws[i] = fs[i].2 := by simp [hws]
  rw [this] at q
  exact q
 ·have hlen : i < ys.length := by rw [hws, length_map] at hi; exact hi
  have hy := hys ys[i] (getElem_mem hlen)
  have hpt : pt ≠ it := fun z => by
   obtain ⟨ot, hot, hct, _⟩ := htp
   obtain ⟨oi, ho, hc, _⟩ := hit
   rw [z, ho] at hot; cases hot
   rw [hct] at hc
   exact absurd hc (by decide)
  have hw : ws[i] = fs[ys[i]].2 := by simp [hws, hy]
  rw [hw] at hQ
  refine next_drawn (y := ys[i]) (t := 0) (e := fs[ys[i]]) hit G htp (by simp [hlen]) (Array.getElem?_eq_getElem hy) fun h' y sb => hQ h' ⟨S, n, led, o, fs, ep, u, _, G.to ((sb.2 a hne).trans G.at_), y, hl, .inr (.inr ⟨pt, ys, rfl, ?_, hys, hws⟩)⟩ sb
  obtain ⟨ot, hot, r⟩ := htp
  exact ⟨ot, (sb.2 pt hpt).trans hot, r⟩
theorem StS.done {Q : Option Value -> Shared -> Prop} (hh : A.handled = none) (x : StS prog w it a ws ws.length s) (hQ : ∀ h', Heap.ExtBut it s.heap h' -> Q none { s with heap := h' }) : wpAny (model prog w) A (pyNext (.ref it)) Q E s := by
 obtain ⟨S, n, led, o, fs, ep, u, first, G, hit, hl, md⟩ := x
 rcases md with ⟨ht, ⟨k, t, rfl⟩, hws⟩ | ⟨ht, hled, hp, hu, hsz, ⟨k, t, rfl, hb⟩, hws⟩ | ⟨pt, ys, rfl, htp, hys, hws⟩
 ·refine zw0 hh hit G (fun A Q E q => P2 G ht _ _ ?_) hQ
  rw [Array.getElem?_eq_none (by rw [hws, length_map, Array.length_toList]; exact Nat.le_refl _)]
  exact q
 ·refine zw0 hh hit G (fun A Q E q => U1 G ht hled hp _ _ ?_) hQ
  rw [Int.toNat_natCast, hb, Array.getElem?_eq_none (by rw [hws, length_map, Array.length_toList]; exact Nat.le_refl _)]
  exact q
 ·exact next_drawnE hh hit G htp (by simp [hws]) hQ
end
end
section
section
variable {prog : Program} {w : World} {A : Around} {E : Value -> Shared -> Prop} {s : Shared} {it a : Addr} {ws : List Value}
def lstO (acc : Array Value) (c : Nat) : Obj := { cls := .type "list", dict := none, data := .seq acc c, slots := #[] }
theorem extS {R : Result -> Shared -> Prop} (hh : A.handled = none) (hz : ws.length <= sizeLine) (L : Addr) (res : Value) :
  ∀ (r i : Nat) (s : Shared) (acc : Array Value) (c : Nat), ws.length - i = r -> i <= ws.length -> StS prog w it a ws i s -> s.heap.get? L = some (lstO acc c) -> acc.toList = ws.take i -> L ≠ it ->
   (∀ h' c', (∀ b o, b ≠ L -> b ≠ it -> s.heap.get? b = some o -> h'.get? b = some o) -> h'.get? L = some (lstO ws.toArray c') -> R (.ok (.ret res)) { s with heap := h' }) ->
   codeAny (model prog w) A (.builtin "list.extend.loop" ⟨[.ref L, .ref it, res], []⟩) R s := by
 intro r
 induction r with
 | zero =>
  intro i s acc c hr hi st hL hacc hne fin
  obtain rfl : i = ws.length := by omega
  refine codeAny_builtin PySem.F.entry_extend_loop ?_
  rw [Around.under_plainId PySem.F.plain_extend_loop _]
  show wpAny _ A.in1 (pyNext (.ref it) >>= _) _ _ s
  refine wpAny_bind (st.done (by simpa using hh) fun h' eb => ?_)
  rw [take_length] at hacc
  have e : acc = ws.toArray := by rw [<- hacc]
  subst e
  exact wpAny_pure (fin h' c (fun b o _ z q => eb b o z q) (eb L _ hne hL))
 | succ r ih =>
  intro i s acc c hr hi st hL hacc hne fin
  have lt : i < ws.length := by omega
  have hsz : acc.size = i := by rw [<- Array.length_toList, hacc, length_take]; omega
  refine codeAny_builtin PySem.F.entry_extend_loop ?_
  rw [Around.under_plainId PySem.F.plain_extend_loop _]
  show wpAny _ A.in1 (pyNext (.ref it) >>= _) _ _ s
  refine wpAny_bind (st.item lt fun h1 st1 sb => ?_)
  have hL1 : h1.get? L = some (lstO acc c) := (sb.2 L hne).trans hL
  show wpAny _ A.in1 (updateSeq L (·.push ws[i]) >>= _) _ _ _
  refine wpAny_bind ?_
  refine wpAny_updateSeq hL1 rfl (wpAny_pure ⟨plainId_quiet PySem.F.plain_extend_loop _, ih (i + 1) _ (acc.push ws[i]) _ (by omega) lt (st1.frame (tk := s.toks) fun b o e hc => ?_) (Heap.get?_update_self _ hL1 rfl) ?_ hne fun h2 c2 k2 g2 => ?_⟩) (by rw [hsz]; omega) (by show (acc.push ws[i]).size <= sizeLine + 1; rw [Array.size_push, hsz]; omega)
  ·refine (Heap.get?_update_other _ _ (fun z : L = b => ?_)).trans e
   subst z
   have e : h1.get? L = some o := e
   rw [hL1] at e; cases e
   exact hc rfl
  ·rw [Array.toList_push, hacc, take_append_getElem lt]
  ·refine fin h2 c2 (fun b o hb hb2 e => k2 b o hb hb2 ?_) g2
   exact (Heap.get?_update_other _ _ (Ne.symm hb)).trans ((sb.2 b hb2).trans e)
end
end
section
section
variable {prog : Program} {w : World} {A : Around} {E : Value -> Shared -> Prop} {s : Shared} {a : Addr}
theorem hint_set {Q : Bool -> Shared -> Prop} (hT : s.TypeIs (.ref a) "set") (h : Q false s) : wpAny (model prog w) A (Builtin.List.listLengthHint (.ref a)) Q E s := by
 unfold Builtin.List.listLengthHint
 refine wpAny_bind (wpAny_specialOf hT PySem.F.slot_set_len.lookup ?_)
 generalize hid : ("set.__len__" : String) = id0
 wp_delta
 rw [show splitId id0 = some ("set", "__len__") from by subst hid; decide +kernel]
 subst hid
 refine wpAny_bind (wpAny_isInstance (T := "set") (b := true) hT (by rw [isSubtype_type]; kernel_rfl) ?_)
 refine wpAny_ite_split (fun z => absurd z (by decide)) (fun _ => ?_)
 refine wpAny_ite_split (fun _ => ?_) (fun z => absurd (by decide +kernel) z)
 refine wpAny_bind (wpAny_typeOf hT ?_)
 exact wpAny_pure h
variable {S : Int -> Bool} {n ep : Nat} {led : Bool} {o : Obj} {fs : Array (Int × Value)} {u : SetTable}
theorem up_small {xs : Array Nat} (h : xs.size <= 1) : Up xs := by
 obtain ⟨l⟩ := xs
 match l with
 | [] => exact List.Pairwise.nil
 | [x] => exact pairwise_singleton ..
 | x :: y :: r => simp at h
theorem walk_perm {ys : List Nat} (h : ys.Perm (List.range fs.size)) : (ys.map fun y => (fs.getD y default).2).Perm (fs.toList.map (·.2)) := by
 refine (h.map _).trans ?_
 have : (List.range fs.size).map (fun y => (fs.getD y default).2) = fs.toList.map (·.2) := by
  apply ext_getElem
  ·simp
  ·intro i h1 h2
   have : i < fs.size := by simpa using h1
   simp [this]
 rw [this]
theorem O5 {s2 : Shared} {it L : Addr} {ws : List Value} {R : Result -> Shared -> Prop} (hh : A.handled = none) (hz : ws.length <= sizeLine) (hT : s2.TypeIs (.ref a) "set") (st : StS prog w it a ws 0 s2) (hL : s2.heap.get? L = some (lstO #[] 0)) (hne : L ≠ it)
  {P : PySem.Fin -> Shared -> Prop} {E' : Value -> Shared -> Prop} (hP : ∀ c' s', (c'.quiet = true /\ codeAny (model prog w) A c' R s') -> P (.again c') s')
  (fin : ∀ h' c', (∀ b o, b ≠ L -> b ≠ it -> s2.heap.get? b = some o -> h'.get? b = some o) -> h'.get? L = some (lstO ws.toArray c') -> R (.ok (.ret (.ref L))) { s2 with heap := h' }) :
  wpAny (model prog w) A.in1 (do
   let room ← holding [.ref it] (Builtin.List.listLengthHint (.ref a))
   if (room || ["set", "frozenset", "dict", "dict_keys", "dict_values", "dict_items"].any (Value.type "set" == .type ·)) = true then do
    rule "list.extend.makes-room"
    Builtin.List.listTouch (.ref L)
    again (.builtin "list.extend.loop" ⟨[.ref L, .ref it, .ref L], []⟩)
   else again (.builtin "list.extend.loop" ⟨[.ref L, .ref it, .ref L], []⟩)) P E' s2 := by
 refine wpAny_bind (wpAny_holding (hint_set hT ?_))
 rw [if_pos (by decide)]
 refine wpAny_bind (wpAny_rule ?_)
 refine wpAny_bind ?_
 show wpAny _ A.in1 (updateSeq L (·.push .none) >>= fun _ => updateSeq L (·.pop)) _ _ _
 refine wpAny_bind (wpAny_updateSeq hL rfl ?_)
 have g2 := Heap.get?_update_self (Obj.mapSeq (·.push Value.none)) hL rfl
 refine wpAny_updateSeq g2 rfl ?_
 have g3 := Heap.get?_update_self (Obj.mapSeq (·.pop)) g2 rfl
 have oth : ∀ b o, b ≠ L -> s2.heap.get? b = some o -> ((s2.heap.update L (Obj.mapSeq (·.push Value.none))).update L (Obj.mapSeq (·.pop))).get? b = some o := fun b o hb e => (Heap.get?_update_other _ _ (Ne.symm hb)).trans ((Heap.get?_update_other _ _ (Ne.symm hb)).trans e)
 refine wpAny_pure (hP _ _ ⟨plainId_quiet PySem.F.plain_extend_loop _, extS hh hz L _ ws.length 0 _ _ _ rfl (Nat.zero_le _) (st.frame (tk := s2.toks) fun b o e hc => oth b o (fun z => ?_) e) g3 rfl hne fun h' c' k g => fin h' c' (fun b o hb hb2 e => k b o hb hb2 (oth b o hb e)) g⟩)
 subst z
 rw [hL] at e; cases e
 exact hc rfl
end
end
section
section
variable {prog : Program} {w : World} {A : Around} {E : Value -> Shared -> Prop} {s : Shared} {a : Addr}
variable {S : Int -> Bool} {n ep : Nat} {led : Bool} {o : Obj} {fs : Array (Int × Value)} {u : SetTable}
theorem collectSet (hh : A.handled = none) (G : SG prog w s.heap a S n led o fs ep u) (hled : led = G0 w) {Q : List Value -> Shared -> Prop}
  (fin : ∀ ws h' d, ws.Perm (fs.toList.map (·.2)) -> (∀ b o, b < s.heap.objs.size -> s.heap.get? b = some o -> h'.get? b = some o) -> s.heap.objs.size < h'.objs.size -> Q ws { s with heap := h', drawn := d }) :
  wpAny (model prog w) A (collect (.ref a)) Q E s := by
 have hlt : a < s.heap.objs.size := Heap.lt_size G.at_
 have hfz : fs.size <= sizeLine := fits_of_scanBound G.small
 unfold collect
 refine wpAny_bind (wpAny_runValue (codeAny_builtin PySem.F.entry_proto_collect ?_))
 rw [Around.under_plainId PySem.F.plain_proto_collect _]
 show wpAny _ A.in1 (newList [] >>= fun l => again (.builtin "list.__iadd__" ⟨[l, .ref a], []⟩)) _ _ s
 refine wpAny_bind (wpAny_newObj_type ?_)
 refine wpAny_pure ⟨plainId_quiet PySem.F.plain_list_iadd _, codeAny_builtin PySem.F.entry_list_iadd ?_⟩
 rw [Around.under_plainId PySem.F.plain_list_iadd _]
 have G1 : SG prog w (s.heap.push (lstO #[] 0)) a S n led o fs ep u := G.to (Heap.get?_push_of_some _ G.at_)
 have hL : (s.heap.push (lstO #[] 0)).get? s.heap.objs.size = some (lstO #[] 0) := Heap.get?_push_size _ rfl
 have hsz : (s.heap.push (lstO #[] 0)).objs.size = s.heap.objs.size + 1 := by rw [Heap.size_push]
 show wpAny _ A.in1 (Builtin.List.listExtendWith (.ref s.heap.objs.size) (.ref a) (.ref s.heap.objs.size)) _ _ { s with heap := s.heap.push (lstO #[] 0) }
 unfold Builtin.List.listExtendWith
 have hT1 : Shared.TypeIs { s with heap := s.heap.push (lstO #[] 0) } (.ref a) "set" := ⟨o, G1.at_, G.ex.1⟩
 refine wpAny_bind (wpAny_typeOf hT1 ?_)
 have h1 : Builtin.List.listSameRef (.ref s.heap.objs.size) (.ref a) = false := by simp [Builtin.List.listSameRef, Nat.ne_of_gt hlt]
 rw [if_neg (by rw [h1]; decide)]
 refine wpAny_bind (iter_set G1 (fun hc => ?_) fun ys d hp => ?_)
 ·obtain ⟨ws, hp, md⟩ : ∃ ws : List Value, ws.Perm (fs.toList.map (·.2)) /\ MD w ((s.heap.push (lstO #[] 0)).push { cls := .type "set_iterator", data := .fields #[.int 0 0, .int 0 0, .ref a, .int n 0, .int ep 0] }) a ws 0 n ep led fs u (.int 0 0) := by
   cases ht : w.params.followText "set-order" with
   | true => exact ⟨_, (pick_perm _ _).map _, .inl ⟨ht, ⟨_, _, rfl⟩, rfl⟩⟩
   | false =>
    have hp : (!u.plain && decide (fs.size > 1)) = false := by
     rcases hc with hc | hc
     ·rw [ht] at hc; cases hc
     ·exact hc
    have hps : u.place.size = fs.size := by
     have := G.fit
     simp only [SetTable.fits, Bool.and_eq_true, beq_iff_eq] at this
     exact this.1
    have hu : Up u.place := by
     cases hpl : u.plain with
     | true => exact G.good.2 hpl
     | false =>
      rw [hpl] at hp
      simp only [Bool.not_false, Bool.true_and, decide_eq_false_iff_not] at hp
      exact up_small (by omega)
    exact ⟨_, .refl _, .inr (.inl ⟨ht, by rw [hled]; unfold G0; rw [ht]; rfl, hp, hu, hps, ⟨0, 0, rfl, below_zero hu⟩, rfl⟩)⟩
  have hwl : ws.length = n := by rw [hp.length_eq, length_map, Array.length_toList, G.many]
  have hne : s.heap.objs.size ≠ (s.heap.push (lstO #[] 0)).objs.size := by rw [hsz]; exact Nat.ne_of_lt (Nat.lt_succ_self _)
  have gs : ((s.heap.push (lstO #[] 0)).push { cls := .type "set_iterator", data := .fields #[.int 0 0, .int 0 0, .ref a, .int n 0, .int ep 0] }).get? (s.heap.push (lstO #[] 0)).objs.size = some { cls := .type "set_iterator", data := .fields #[.int 0 0, .int 0 0, .ref a, .int n 0, .int ep 0] } := Heap.get?_push_size _ rfl
  have ga := Heap.get?_push_of_some { cls := .type "set_iterator", data := .fields #[.int 0 0, .int 0 0, .ref a, .int n 0, .int ep 0] } G1.at_
  have gl := Heap.get?_push_of_some { cls := .type "set_iterator", data := .fields #[.int 0 0, .int 0 0, .ref a, .int n 0, .int ep 0] } hL
  refine O5 (s2 := { s with heap := (s.heap.push (lstO #[] 0)).push { cls := .type "set_iterator", data := .fields #[.int 0 0, .int 0 0, .ref a, .int n 0, .int ep 0] } }) (a := a) (it := (s.heap.push (lstO #[] 0)).objs.size) (L := s.heap.objs.size) (ws := ws) hh (by rw [hwl, <- G.many]; exact hfz) ⟨o, ga, G.ex.1⟩ ⟨S, n, led, o, fs, ep, u, .int 0 0, G1.to ga, ⟨_, gs, rfl, rfl⟩, hwl, md⟩ gl hne (fun c' s' h => h) fun h' c' k g => ?_
  show wpAny _ A (load s.heap.objs.size >>= _) _ _ _
  refine wpAny_bind (wpAny_load g ?_)
  refine wpAny_pure (fin ws h' s.drawn hp (fun b o hb e => k b o (Nat.ne_of_lt hb) (by rw [hsz]; exact Nat.ne_of_lt (Nat.lt_succ_of_lt hb)) (Heap.get?_push_of_some _ (Heap.get?_push_of_some _ e))) (Heap.lt_size g))
 ·have hpf : ys.Perm (List.range fs.size) := by rw [G.many]; exact hp
  have hwp := walk_perm (fs := fs) hpf
  have hwl : (ys.map fun y => (fs.getD y default).2).length = n := by rw [hwp.length_eq, length_map, Array.length_toList, G.many]
  have hne : s.heap.objs.size ≠ (s.heap.push (lstO #[] 0)).objs.size + 1 := by rw [hsz]; exact Nat.ne_of_lt (Nat.lt_succ_of_lt (Nat.lt_succ_self _))
  have hat : ((s.heap.push (lstO #[] 0)).push (seqObj "tuple" (ys.map fun (i : Nat) => Value.int i 0).toArray 0)).objs.size = (s.heap.push (lstO #[] 0)).objs.size + 1 := by rw [Heap.size_push]
  generalize htp : seqObj "tuple" (ys.map fun (i : Nat) => Value.int i 0).toArray 0 = tp at *
  generalize hio : ({ cls := .type "set_iterator", data := .fields #[.ref (s.heap.push (lstO #[] 0)).objs.size, .int 0 0, .ref a, .int n 0, .int ep 0] } : Obj) = io
  have hic : io.cls = .type "set_iterator" := by rw [<- hio]
  have hid : io.data = .fields #[.ref (s.heap.push (lstO #[] 0)).objs.size, .int 0 0, .ref a, .int n 0, .int ep 0] := by rw [<- hio]
  have htt : tp.cls = .type "tuple" /\ tp.data = .seq (ys.map fun (i : Nat) => Value.int i 0).toArray 0 := by rw [<- htp]; exact ⟨rfl, rfl⟩
  have gt : ((s.heap.push (lstO #[] 0)).push tp).get? (s.heap.push (lstO #[] 0)).objs.size = some tp := Heap.get?_push_size _ (by rw [<- htp]; rfl)
  have gs : (((s.heap.push (lstO #[] 0)).push tp).push io).get? ((s.heap.push (lstO #[] 0)).objs.size + 1) = some io := by
   rw [<- hat]; exact Heap.get?_push_size _ (by rw [<- hio]; rfl)
  have ga : (((s.heap.push (lstO #[] 0)).push tp).push io).get? a = some o := Heap.get?_push_of_some _ (Heap.get?_push_of_some _ G1.at_)
  have gl : (((s.heap.push (lstO #[] 0)).push tp).push io).get? s.heap.objs.size = some (lstO #[] 0) := Heap.get?_push_of_some _ (Heap.get?_push_of_some _ hL)
  have st : StS prog w ((s.heap.push (lstO #[] 0)).objs.size + 1) a (ys.map fun y => (fs.getD y default).2) 0 { s with heap := ((s.heap.push (lstO #[] 0)).push tp).push io, drawn := d } :=
   ⟨S, n, led, o, fs, ep, u, .ref (s.heap.push (lstO #[] 0)).objs.size, G1.to ga, ⟨io, gs, hic, hid⟩, hwl, .inr (.inr ⟨_, ys, rfl, ⟨tp, Heap.get?_push_of_some _ gt, htt.1, 0, htt.2⟩, fun y hy => List.mem_range.mp (hpf.mem_iff.mp hy), rfl⟩)⟩
  refine O5 (s2 := { s with heap := ((s.heap.push (lstO #[] 0)).push tp).push io, drawn := d }) (a := a) (it := (s.heap.push (lstO #[] 0)).objs.size + 1) (L := s.heap.objs.size) hh (by rw [hwl, <- G.many]; exact hfz) ⟨o, ga, G.ex.1⟩ st gl hne (fun c' s' h => h) fun h' c' k g => ?_
  show wpAny _ A (load s.heap.objs.size >>= _) _ _ _
  refine wpAny_bind (wpAny_load g ?_)
  refine wpAny_pure (fin _ h' d hwp (fun b o hb e => k b o (Nat.ne_of_lt hb) (by rw [hsz]; exact Nat.ne_of_lt (Nat.lt_succ_of_lt (Nat.lt_succ_of_lt hb))) (Heap.get?_push_of_some _ (Heap.get?_push_of_some _ (Heap.get?_push_of_some _ e)))) (Heap.lt_size g))
end
end
section
theorem L4 : ∀ {l m : List Int}, l.Nodup -> (∀ x ∈ l, x ∈ m) -> l.length = m.length -> l.Perm m
 | [], m, _, _, h => by rw [List.length_eq_zero_iff.mp h.symm]
 | x :: l, m, hd, hs, hl => by
  have hx := hs x (by simp)
  have hn := List.nodup_cons.mp hd
  refine (List.Perm.cons x (L4 hn.2 (fun y hy => ?_) ?_)).trans (perm_cons_erase hx).symm
  ·exact (mem_erase_of_ne (fun z : y = x => hn.1 (by rw [<- z]; exact hy))).mpr (hs y (by simp [hy]))
  ·rw [length_erase_of_mem hx]
   simp only [length_cons] at hl
   omega
theorem Z1 (val : Nat -> Int) : ∀ i, (firstMet val i).Nodup
 | 0 => by rw [firstMet_zero]; exact nodup_nil
 | i + 1 => by
  rw [firstMet_succ]
  unfold step_dedup
  split
  ·exact Z1 val i
  ·rename_i h
   refine List.nodup_append.mpr ⟨Z1 val i, by simp, fun a ha b hb => ?_⟩
   rw [mem_singleton] at hb
   intro z
   subst hb
   exact h (List.any_eq_true.mpr ⟨a, ha, by simp [z]⟩)
section
variable {prog : Program} {w : World} {A : Around} {E : Value -> Shared -> Prop} {s : Shared} {a : Addr}
variable {S : Int -> Bool} {n ep : Nat} {led : Bool} {o : Obj} {fs : Array (Int × Value)} {u : SetTable}
theorem ints_of : ∀ {l : List (Int × Value)}, ElemsOf (KI prog w) l -> ∃ ks : List Int, IntsAre (l.map (·.2)) ks /\ ∀ k, k ∈ ks ↔ ∃ e ∈ l, (KI prog w).is k e.2 = true
 | [], _ => ⟨[], .nil, fun k => by simp⟩
 | e :: l, h => by
  obtain ⟨ks, h1, h2⟩ := ints_of h.tail
  obtain ⟨⟨k, hk, _⟩, _⟩ := h.head
  obtain ⟨t, ht⟩ := Value.isInt_shape hk
  refine ⟨k :: ks, ?_, fun j => ?_⟩
  ·rw [map_cons, ht]; exact .cons k t h1
  ·rw [mem_cons, h2]
   constructor
   ·rintro (rfl | ⟨f, hf, q⟩)
    ·exact ⟨e, by simp, hk⟩
    ·exact ⟨f, by simp [hf], q⟩
   ·rintro ⟨f, hf, q⟩
    rcases List.mem_cons.mp hf with rfl | hf
    ·exact .inl ((KI prog w).inj _ _ _ q hk)
    ·exact .inr ⟨f, hf, q⟩
theorem ints_perm : ∀ {vs ws : List Value}, ws.Perm vs -> ∀ {ns : List Int}, IntsAre vs ns -> ∃ ms, IntsAre ws ms /\ ms.Perm ns := by
 intro vs ws p
 induction p with
 | nil => exact fun h => ⟨_, h, .refl _⟩
 | cons x _ ih =>
  intro ns h
  cases h with
  | cons n t h => obtain ⟨ms, a, b⟩ := ih h; exact ⟨n :: ms, .cons n t a, b.cons n⟩
 | swap x y l =>
  intro ns h
  cases h with
  | cons n t h =>
   cases h with
   | cons m t2 h => exact ⟨_, .cons _ _ (.cons _ _ h), .swap _ _ _⟩
 | trans _ _ ih1 ih2 =>
  intro ns h
  obtain ⟨ms, a, b⟩ := ih2 h
  obtain ⟨ks, c, d⟩ := ih1 a
  exact ⟨ks, c, d.trans b⟩
theorem sortedSet (hh : A.handled = none) (G : SG prog w s.heap a S n led o fs ep u) (hled : led = G0 w) (D : List Int) (hS : ∀ k, S k = D.any (· == k)) (hn : n = D.length) (hd : D.Nodup) (h64 : n < 64) {Q : Value -> Shared -> Prop}
  (fin : ∀ (q : Addr) h' d out e, IntsAre out.toList (N4 D) -> h'.get? q = some (seqObj "list" out e) -> s.heap.objs.size <= q -> (∀ b o, b < s.heap.objs.size -> s.heap.get? b = some o -> h'.get? b = some o) -> Q (.ref q) { s with heap := h', drawn := d }) :
  wpAny (model prog w) A (call (.builtin "sorted") [.ref a]) Q E s := by
 obtain ⟨ks, hk1, hk2⟩ := ints_of G.el
 have hkl : ks.length = D.length := by rw [<- hn, <- G.many, <- IntsAre.length hk1]; simp
 have hkp : D.Perm ks := L4 hd (fun x hx => (hk2 x).mpr ((G.mem x).mp (by rw [hS]; exact List.any_eq_true.mpr ⟨x, hx, by simp⟩))) hkl.symm
 refine Calls.call_function_entry kind_sorted plain_sorted entry_sorted (args_sorted1 _) ?_
 unfold Builtin.«sorted»
 refine wpAny_bind (m := checkCount "sorted" 1 1 _) (wpAny_pure ?_)
 refine wpAny_bind (collectSet (by simpa using hh) G hled fun ws h' d hp keep hsz => ?_)
 obtain ⟨ms, hm1, hm2⟩ := ints_perm hp hk1
 have hwl : ws.length < 64 := by rw [hp.length_eq, length_map, Array.length_toList, G.many]; exact h64
 refine wpAny_bind (wpAny_newList ?_)
 have hoL : (h'.push (seqObj "list" ws.toArray 0)).get? h'.objs.size = some (seqObj "list" ws.toArray 0) := Heap.get?_push_size _ rfl
 show wpAny _ _ _ _ _ { s with heap := h'.push (seqObj "list" ws.toArray 0), drawn := d }
 refine wpAny_bind (wpAny_holding (wpAny_call_entry slot_list_sort ⟨_, hoL, rfl⟩ entry_list_sort (list_sort_tree hoL hm1 hwl fun out ns' a1 a2 a3 => ⟨_, rfl, ?_⟩) (args_list_sort _)))
 have e : ns' = N4 D := M7 ((a2.trans (hm2.trans hkp.symm)).trans (V6 D).symm) a3 (O0 D)
 subst e
 obtain ⟨c, hc⟩ := sortedHeap_at (out := out) hoL
 refine wpAny_pure ⟨_, rfl, fin _ _ d out c a1 hc (Nat.le_of_lt hsz) fun b o hb e => ?_⟩
 rw [sortedHeap_old (Nat.ne_of_lt (Nat.lt_trans hb hsz)) (by rw [size_push']; exact Nat.lt_succ_of_lt (Nat.lt_trans hb hsz))]
 exact Heap.get?_push_of_some _ (keep b o hb e)
end
end
section
def ddI (ns : List Int) : List Int := firstMet (fun i => ns.getD i 0) ns.length
def SetH (P : Program) (w : World) (a : Addr) (ns : List Int) : HO := .ext fun h => SetG P w h a (inL (fun i => ns.getD i 0) ns.length) (ddI ns).length (G0 w)
def rSet (P : Program) (w : World) (K : W.Frag) : List V -> Hp -> VK -> Prop := fun vs H Q => ∃ (p : Addr) (ns : List Int), vs = [.ref p] /\ SqL K H p (ns.map V.int) /\ ns.length < 64 /\ ∀ a, H a = none -> Q (.ref a) (upd H a (SetH P w a ns))
def rSortS (P : Program) (w : World) : List V -> Hp -> VK -> Prop := fun vs H Q => ∃ (a : Addr) (ns : List Int), vs = [.ref a] /\ H a = some (SetH P w a ns) /\ ns.length < 64 /\ ∀ q, H q = none -> Q (.ref q) (upd H q (.lst ((N4 (ddI ns)).map V.int)))
section
variable {X : Cx} {e : Expr} {pos : Pos}
theorem call_setL (hc : X.calm = true) : CallR X (.type "set") (rSet X.prog X.w X.K) := by
 intro pins s σ H xs us Q I r h
 obtain ⟨p, ns, rfl, sq, h64, q⟩ := h
 obtain ⟨v, rfl, rx⟩ := V7 r
 cases rx
 obtain ⟨its, vr, pl, hz⟩ := I.list sq
 have hl : its.length = ns.length := by rw [<- vr.length, length_map]
 have hsz : its.toArray.size = ns.length := by simp [hl]
 refine callSetG (items := its.toArray) (ns := ns) (I.ok.hd hc) pl.isList (by simpa using zv0 vr) (by rw [hsz]; unfold scanBound; omega) fun h' tk g keep => ?_
 rw [hsz] at g
 refine ⟨.ref s.heap.objs.size, _, I.laid (t' := tk) (o := SetH X.prog X.w s.heap.objs.size ns) (fun b u e => keep b u (Heap.lt_size e) e) (Nat.le_refl _) ⟨g, ?_, fun h1 h2 g1 k => SetG.stay g1 k⟩, rfl, q _ (I.hok.fresh (Nat.le_refl _))⟩
 obtain ⟨o, _, _, _, G⟩ := g
 exact ⟨o, G.at_⟩
theorem call_sortS (hc : X.calm = true) : CallR X (.builtin "sorted") (rSortS X.prog X.w) := by
 intro pins s σ H xs us Q I r h
 obtain ⟨a, ns, rfl, ha, h64, q⟩ := h
 obtain ⟨v, rfl, rx⟩ := V7 r
 cases rx
 have ok := I.hok a _ ha
 obtain ⟨g, _, _⟩ := ok
 obtain ⟨o, fs, ep, u, G⟩ := g
 have hle : (ddI ns).length <= ns.length := firstMet_length_le _ _
 refine sortedSet (I.ok.hd hc) G rfl (ddI ns) (fun k => rfl) rfl (Z1 _ _) (by omega) fun w h' d out e hi hw hlt keep => ?_
 have I' : Inv X pins σ H { s with drawn := d } := ⟨I.ok, I.os, I.bare, I.base, I.loc, I.cell, I.free, I.freeC, I.pin, I.hok, I.len⟩
 refine ⟨.ref w, _, I'.laid (t' := s.toks) (o := .lst ((N4 (ddI ns)).map V.int)) (fun b u e => keep b u (Heap.lt_size e) e) hlt ⟨?_, out.toList, e, G7 hi, by simpa using hw⟩, rfl, q _ (I.hok.fresh hlt)⟩
 rw [length_map, zw9, sizeLine_eq]; omega
@[irreducible] def Y0 (m : ML) : ML := fun ρ => match m ρ with | some ds => (match S7 ds with | some ns => if ns.length < 64 then some ((N4 (ddI ns)).map .int) else none | none => none) | none => none
theorem pf_sortSet {p p2 pos2 : Pos} {m : ML} (hc : X.calm = true) (hg : Gl X "sorted") (hm : X.mg "sorted" = none) (hg2 : Gl X "set") (hm2 : X.mg "set" = none) (ha : PB X e m) (hv : bootBuiltins "sorted" = some (.builtin "sorted")) (hv2 : bootBuiltins "set" = some (.type "set"))
  (hs : starEach (e :: []) X.env = (false, eval e X.env) :: starEach [] X.env := by rfl) (he : starEach [e] X.env = (false, eval e X.env) :: starEach [] X.env := by rfl)
  (hs2 : starEach ((.Call (.Name "set" p2) [e] [] pos2) :: []) X.env = (false, eval (.Call (.Name "set" p2) [e] [] pos2) X.env) :: starEach [] X.env := by rfl) (he2 : starEach [(.Call (.Name "set" p2) [e] [] pos2)] X.env = (false, eval (.Call (.Name "set" p2) [e] [] pos2) X.env) :: starEach [] X.env := by rfl)
  (hpl2 : (backTo pos2 (starEach [] X.env)).any (·.1) = false := by rfl) (hpl : (backTo pos (starEach [] X.env)).any (·.1) = false := by rfl) : PF X (.Call (.Name "sorted" p) [.Call (.Name "set" p2) [e] [] pos2] [] pos) (Y0 m) :=
 (l7 (call_sortS hc) hg hm hv (u8 (L5 (call_setL hc) hg2 hm2 hv2 (u8 ha pa_nil hs) (by decide) (by decide) he hpl2) pa_nil hs2) (by decide) (by decide) he2 hpl).imp fun σ H Q hpat => by
  obtain ⟨F0, H0, F, ρ, g, rl, e, q⟩ := hpat
  unfold Y0 at e
  cases h1 : m ρ with
  | none => simp only [h1] at e; cases e
  | some ds =>
   simp only [h1] at e
   cases h2 : S7 ds with
   | none => simp only [h2] at e; cases e
   | some ns =>
    simp only [h2] at e
    split at e
    ·rename_i h64
     cases e
     refine ⟨F0, H0, F, ρ, ds, rl, h1, fun p xs F1 H1 x1 s1 r1 => ⟨p, ns, rfl, ?_, h64, fun a hna => ⟨a, ns, rfl, y3, h64, fun w hw => ?_⟩⟩⟩
     ·rw [<- Z7 r1 h2]; exact s1
     ·have x2 : Ext F1 H1 F1 (upd H1 a (SetH X.prog X.w a ns)) := Ext.own x1.fh hna
      have hw1 : H1 w = none := x2.hh.free hw
      exact q w _ F1 _ (x1.trans (x2.trans (Ext.own x2.fh hw))) (x1.hh.free hw1) (x1.fh.free hw1) y3 (M9 _)
    ·cases e
end
end
section
theorem w9 : ∀ (names : List (Str × NameKind)) (n : Nat) (acc : List (Str × Addr)), cellsFrom n names acc = cellsFrom n names [] ++ acc
 | [], n, acc => rfl
 | (x, k) :: r, n, acc => by
  unfold cellsFrom
  split
  ·rw [w9 r (n + 1) ((x, n) :: acc), w9 r (n + 1) [(x, n)], append_assoc]; rfl
  ·exact w9 r n acc
theorem Y3 {x : Str} {c : Addr} : ∀ (names : List (Str × NameKind)) (n : Nat), (x, c) ∈ cellsFrom n names [] -> (x, NameKind.cell) ∈ names
 | [], n, h => by cases h
 | (y, k) :: r, n, h => by
  unfold cellsFrom at h
  split at h
  ·rename_i hk
   rw [w9] at h
   rcases List.mem_append.mp h with h | h
   ·exact mem_cons_of_mem _ (Y3 r _ h)
   ·rw [mem_singleton] at h
    cases h
    rw [beq_iff_eq.mp hk]; exact mem_cons_self
  ·exact mem_cons_of_mem _ (Y3 r _ h)
theorem Z0 {x : Str} {c : Addr} : ∀ (l : List (Str × Addr)), (x, c) ∈ l -> ∃ d, l.lookup x = some d
 | [], h => by cases h
 | (y, d) :: r, h => by
  rw [lookup_cons]
  cases hb : x == y with
  | true => exact ⟨d, rfl⟩
  | false =>
   rcases List.mem_cons.mp h with e | h
   ·cases e; simp at hb
   ·exact Z0 r h
theorem g8 {x : Str} : ∀ (names : List (Str × NameKind)) (n : Nat), (x, NameKind.cell) ∈ names -> ∃ c, (x, c) ∈ cellsFrom n names []
 | [], n, h => by cases h
 | (y, k) :: r, n, h => by
  unfold cellsFrom
  rcases List.mem_cons.mp h with e | h
  ·cases e
   rw [if_pos (by rfl), w9]
   exact ⟨n, mem_append_right _ (List.mem_singleton.mpr rfl)⟩
  ·split
   ·rw [w9]
    obtain ⟨c, hc⟩ := g8 r (n + 1) h
    exact ⟨c, mem_append_left _ hc⟩
   ·exact g8 r n h
theorem Q9 (l1 l2 : List (Str × Addr)) (x : Str) : (l1 ++ l2).lookup x = match l1.lookup x with | some c => some c | none => l2.lookup x := by
 induction l1 with
 | nil => rfl
 | cons y r ih =>
  obtain ⟨a, b⟩ := y
  rw [cons_append, lookup_cons, lookup_cons]
  cases x == a with
  | true => rfl
  | false => exact ih
structure BlkC (X : Cx) (sc : Scope) (N : List Str) (src : List (Option Nat)) : Prop where
 kind : sc.kind = .function
 cells : ∀ y ∈ sc.names, y.2 = .cell -> sc.names.lookup y.1 = some .cell
 names : ∀ y ∈ sc.names, y.2 = .local -> sc.names.lookup y.1 = some .local
 free : ∀ y ∈ sc.names, y.2 = .free -> X.env.kindOf y.1 = some .cell \/ X.env.kindOf y.1 = some .free
 fv : ∀ (j i : Nat), src[j]? = some (some i) -> ∃ x, N[j]? = some x /\ X.N[i]? = some x /\ sc.names.lookup x = some .free
 len : src.length = N.length
def c8 (X : Cx) (sc : Scope) (C : Addr) (N : List Str) (fp : List Addr) (s : Shared) (H : Hp) : Cx where
 prog := X.prog
 w := X.w
 K := X.K
 mg := X.mg
 base := X.base
 A := X.A
 N := N
 s₀ := s
 H₀ := H
 env := { compEnvC sc (clOf X.env.cells sc.names []) C X.env with cells := cellsFrom (C + 1) sc.names (clOf X.env.cells sc.names []) }
 outer := X.stack
 stack := X.stack
 ex := fp
 fn := fun y => sc.names.lookup y == some .cell
 calm := true
 pn := []
 xe := fun _ _ => False
theorem L0 {env : Env} : ∀ {names : List (Str × NameKind)} {x : Str} {k : NameKind},
  (names.map fun (n, k) => if (k == NameKind.free && env.scope.kind == .function && env.kindOf n == some .cell) then (n, NameKind.cell) else (n, k)).lookup x = some k -> (k = .cell \/ k = .free) -> (x, NameKind.free) ∈ names \/ (x, NameKind.cell) ∈ names
 | [], _, _, h, _ => by simp at h
 | (n, k') :: r, x, k, h, hk => by
  have ih := @L0 env r x k
  have h : List.lookup x ((if (k' == NameKind.free && env.scope.kind == .function && env.kindOf n == some .cell) = true then (n, NameKind.cell) else (n, k')) :: _) = _ := h
  have go : ∀ {z : NameKind} {l : List (Str × NameKind)}, List.lookup x ((n, z) :: l) = some k -> (x = n /\ z = k) \/ l.lookup x = some k := fun {z l} e => by
   rw [lookup_cons] at e
   cases hx : x == n with
   | true => rw [hx] at e; exact .inl ⟨beq_iff_eq.mp hx, Option.some.inj e⟩
   | false => rw [hx] at e; exact .inr e
  have up : ((x, NameKind.free) ∈ r \/ (x, NameKind.cell) ∈ r) -> (x, NameKind.free) ∈ (n, k') :: r \/ (x, NameKind.cell) ∈ (n, k') :: r := fun z => z.imp (mem_cons_of_mem _) (mem_cons_of_mem _)
  by_cases hc : (k' == NameKind.free && env.scope.kind == .function && env.kindOf n == some .cell) = true
  ·rw [if_pos hc] at h
   have hf : k' = .free := by
    simp only [Bool.and_eq_true, beq_iff_eq] at hc
    exact hc.1.1
   rcases go h with ⟨e, _⟩ | e
   ·left; rw [e, hf]; exact mem_cons_self
   ·exact up (ih e hk)
  ·rw [if_neg hc] at h
   rcases go h with ⟨e, e2⟩ | e
   ·rw [e, e2]
    rcases hk with z | z
    ·right; rw [z]; exact mem_cons_self
    ·left; rw [z]; exact mem_cons_self
   ·exact up (ih e hk)
section
variable {X : Cx} {pins : List (Addr × Obj)} {σ : St} {H : Hp} {s : Shared}
theorem BlkC.cl {sc : Scope} {N : List Str} {src : List (Option Nat)} (B : BlkC X sc N src) (ok : X.Ok) : closureFor sc X.env = pure (clOf X.env.cells sc.names []) :=
 W7 fun x hx hk => ok.has x.1 (B.free x hx hk)
theorem cellC {sc : Scope} {C : Addr} {x : Str} {c : Addr} (h : (cellsFrom (C + 1) sc.names (clOf X.env.cells sc.names [])).lookup x = some c) :
  ((x, c) ∈ cellsFrom (C + 1) sc.names [] /\ (cellsFrom (C + 1) sc.names []).lookup x = some c) \/ ((cellsFrom (C + 1) sc.names []).lookup x = none /\ X.env.cells.lookup x = some c) := by
 rw [w9, Q9] at h
 cases e : (cellsFrom (C + 1) sc.names []).lookup x with
 | some d => rw [e] at h; cases h; exact .inl ⟨PySem.mem_of_lookup e, rfl⟩
 | none => rw [e] at h; exact .inr ⟨rfl, W8 h⟩
theorem blk_startC {sc : Scope} {N : List Str} {src : List (Option Nat)} {fp : List Addr} {D C : Addr} {h4 : Heap} {t : Nat} {m : Str -> Option Value}
  (B : BlkC X sc N src) (I : Inv X pins σ H s) (hc : X.calm = true) (hf : ∀ b ∈ fp, FpOk X pins H b) (hfo : ∀ b ∈ fp, ∃ o, s.heap.get? b = some o)
  (hk : ∀ b o, s.heap.get? b = some o -> h4.get? b = some o) (hD : s.heap.objs.size <= D) (hDl : h4.get? D = some { cls := .type "list", data := .seq #[] 0 })
  (hn : h4.Ns C m) (hC : s.heap.objs.size <= C) (hDC : @LT.lt Nat _ D C) (hcs : CellsOk h4 (C + 1) (cellsFrom (C + 1) sc.names [])) :
  Inv (c8 X sc C N fp s H) [] (blk0 src σ) (upd H D (.lst [])) { s with heap := h4, toks := t } := by
 have hHD : H D = none := I.hok.fresh hD
 have hHC : H C = none := I.hok.fresh hC
 have new : ObjOk X.prog X.w (upd H D (.lst [])) h4 D (.lst []) := ⟨Nat.zero_le _, [], 0, .nil, hDl⟩
 have old : ∀ x c, X.env.cells.lookup x = some c -> @LT.lt Nat _ c s.heap.objs.size := fun x c e => by
  obtain ⟨v, q⟩ := I.cell x c e
  exact q.lt
 have nw : ∀ x c, (x, c) ∈ cellsFrom (C + 1) sc.names [] -> @LT.lt Nat _ C c := fun x c e => (hcs.empty x c e).2
 refine ⟨⟨I.ok.mod, ?_, I.ok.glob, I.ok.blt, hC, fun x y c h1 h2 => ?_, fun x hx => ?_, fun x c h e => ?_, fun _ => I.ok.hd hc, I.ok.frames, .inl rfl, fun b hb => ⟨?_, fun x c e => ?_⟩, I.bs, Nat.le_trans I.ok.bsz I.sz, fun b o e hb => ?_, fun b hb z => ?_, I.stack, I.stkFree⟩,
  rfl, I.bare, Un.laid hk hD hHD, ⟨m, hn, fun i x v e1 e2 e3 => ?_⟩, fun x c e => ?_, ?_, fun x c e => ?_, fun p hp => ?_, I.hok.laid hk hD new, ?_⟩
 ·show (relabel sc X.env).kind = _
  exact B.kind
 ·rcases cellC h1 with ⟨a1, _⟩ | ⟨_, a1⟩ <;> rcases cellC h2 with ⟨a2, _⟩ | ⟨_, a2⟩
  ·exact name_of_addr hcs.apart a1 a2
  ·have := nw x c a1; have := old y c a2; omega
  ·have := nw y c a2; have := old x c a1; omega
  ·exact I.ok.inj x y c a1 a2
 ·have hx' : (∃ k, (relabel sc X.env).names.lookup x = some k /\ (k = .cell \/ k = .free)) := by
   rcases hx with hx | hx
   ·exact ⟨_, hx, .inl rfl⟩
   ·exact ⟨_, hx, .inr rfl⟩
  obtain ⟨k, e, hk'⟩ := hx'
  show ∃ c, (cellsFrom (C + 1) sc.names (clOf X.env.cells sc.names [])).lookup x = some c
  rw [w9]
  rw [Q9]
  cases q : (cellsFrom (C + 1) sc.names []).lookup x with
  | some d => exact ⟨d, rfl⟩
  | none =>
   rcases L0 e hk' with hm | hm
   ·obtain ⟨c, hc'⟩ := I.ok.has x (B.free _ hm rfl)
    exact Option.isSome_iff_exists.mp (Y2 hc' sc.names [] hm)
   ·obtain ⟨c, hc'⟩ := g8 sc.names (C + 1) hm
    obtain ⟨d, hd⟩ := Z0 _ hc'
    rw [q] at hd; cases hd
 ·have h : (sc.names.lookup x == some .cell) = true := h
  obtain ⟨c', hc'⟩ := g8 sc.names (C + 1) (PySem.mem_of_lookup (beq_iff_eq.mp h))
  obtain ⟨d, hd⟩ := Z0 _ hc'
  rcases cellC e with ⟨a1, _⟩ | ⟨a1, _⟩
  ·have := nw x c a1
   show s.heap.objs.size <= c
   omega
  ·rw [a1] at hd; cases hd
 ·obtain ⟨o, e⟩ := hfo b hb
  exact Nat.ne_of_lt (Nat.lt_of_lt_of_le (Heap.lt_size e) hC)
 ·rcases cellC e with ⟨a1, _⟩ | ⟨_, a1⟩
  ·obtain ⟨o, e⟩ := hfo b hb
   exact Nat.ne_of_gt (Nat.lt_trans (Nat.lt_of_lt_of_le (Heap.lt_size e) hC) (nw x c a1))
  ·exact (hf b hb).2.2.2.2.1 x c a1
 ·rcases (hf b hb).2.2.2.1 with z | z
  ·exact I.ok.noex b o e z
  ·exact absurd (Nat.lt_of_lt_of_le (Heap.lt_size e) (Nat.le_trans I.ok.bsz z)) (Nat.lt_irrefl _)
 ·rcases List.mem_cons.mp (I.stkSub b z) with z | z
  ·exact (hf b hb).2.1 z
  ·exact (hf b hb).2.2.1 z
 ·have e2' : ∃ k, src[i]? = some (some k) /\ σ[k]? = some (some v) := by
   unfold blk0 at e2
   rw [getElem?_map] at e2
   cases q : src[i]? with
   | none => rw [q] at e2; cases e2
   | some o =>
    rw [q] at e2
    cases o with
    | none => cases e2
    | some k =>
     refine ⟨k, rfl, ?_⟩
     have e2 : (σ[k]?).join = some v := Option.some.inj e2
     cases qq : σ[k]? with
     | none => rw [qq] at e2; cases e2
     | some z => rw [qq] at e2; exact congrArg some e2
  obtain ⟨k, ek, ev⟩ := e2'
  obtain ⟨x', n1, n2, n3⟩ := B.fv i k ek
  have : x' = x := by
   have e1 : N[i]? = some x := e1
   rw [n1] at e1; exact Option.some.inj e1
  subst this
  obtain ⟨m0, hn0, hl0⟩ := I.loc
  have hfk := B.free (x', .free) (PySem.mem_of_lookup n3) rfl
  obtain ⟨u, r, l⟩ := hl0 k x' v n2 ev (by rcases hfk with z | z; exact .inr (.inl z); exact .inr (.inr z))
  refine ⟨u, r, .inr ⟨?_, ?_⟩⟩
  ·exact l9 n3
  ·rcases l with ⟨l, _⟩ | ⟨_, c, ec, z⟩
   ·rcases hfk with q | q <;> (rw [q] at l; cases l)
   ·obtain ⟨c', ec'⟩ := Option.isSome_iff_exists.mp (Y2 ec sc.names [] (PySem.mem_of_lookup n3))
    have := W8 ec'
    rw [ec] at this; cases this
    obtain ⟨o, ho, hd⟩ := z
    refine ⟨c, ?_, o, hk c o ho, hd⟩
    show (cellsFrom (C + 1) sc.names (clOf X.env.cells sc.names [])).lookup x' = some c
    rw [w9, Q9]
    cases q : (cellsFrom (C + 1) sc.names []).lookup x' with
    | none => exact ec'
    | some d =>
     have := B.cells _ (Y3 _ _ (PySem.mem_of_lookup q)) rfl
     rw [n3] at this; cases this
 ·rcases cellC e with ⟨a1, _⟩ | ⟨_, a1⟩
  ·exact ⟨_, (hcs.empty x c a1).1⟩
  ·obtain ⟨v, o, ho, hd⟩ := I.cell x c a1
   exact ⟨v, o, hk c o ho, hd⟩
 ·show upd H D _ C = none
  rw [y0 (Nat.ne_of_gt hDC)]; exact hHC
 ·rcases cellC e with ⟨a1, _⟩ | ⟨_, a1⟩
  ·have := nw x c a1
   rw [y0 (Nat.ne_of_gt (Nat.lt_trans hDC this))]; exact I.hok.fresh (Nat.le_trans hC (Nat.le_of_lt this))
  ·have := old x c a1
   rw [y0 (Nat.ne_of_lt (Nat.lt_of_lt_of_le this hD))]; exact I.freeC x c a1
 ·exact absurd (show p ∈ ([] : List (Addr × Obj)) ++ [] from hp) (by simp)
 ·show (blk0 src σ).length = N.length
  unfold blk0; rw [length_map]; exact B.len
end
theorem O9 {M : Model} {A : Around} {E : Value -> Shared -> Prop} {s : Shared} {sc : Scope} {g : Addr} {cl : List (Str × Addr)} {qual : Str} {env : Env} {Q : Env -> Shared -> Prop}
  (hQ : Q { scope := sc, locals := s.heap.objs.size, globals := g, cells := cellsFrom (s.heap.objs.size + 1) sc.names cl, qual := qual, func := none, code := env.code, frame := env.frame, builtins := env.builtins } { s with heap := pushCells (s.heap.push { cls := .type "dict", data := .dict #[] }) sc.names }) :
  wpAny M A (newFunctionEnv sc g cl [] qual none .none (some env)) Q E s := by
 simp only [newFunctionEnv, Option.isSome_some, if_true]
 refine wpAny_bind (wpAny_alloc ?_)
 refine wpAny_bind (wpAny_layCells _ (fun name kind cells => by cases hkc : kind == NameKind.cell <;> simp [hkc]) _ _ _ _ ?_)
 rw [show ({ s with heap := s.heap.push { cls := .type "dict", data := .dict #[] } } : Shared).heap.objs.size = s.heap.objs.size + 1 from Heap.size_push ..]
 refine wpAny_bind ?_
 rw [forIn_nil]
 exact wpAny_pure (wpAny_pure hQ)
section
variable {X : Cx}
theorem comp_blockC {sc : Scope} {N : List Str} {src : List (Option Nat)} {tg elt iter : Expr} {ifs : List Expr} {pos : Pos} {g : TG} {tc : TT} {te : TE} (B : BlkC X sc N src) (hc : X.calm = true)
  (hg : ∀ C fp s H, PG (c8 X sc C N fp s H) tg g) (ht : ∀ C fp s H, PTs (c8 X sc C N fp s H) ifs tc) (he : ∀ C fp s H, PE (c8 X sc C N fp s H) elt te)
  {pins : List (Addr × Obj)} {σ : St} {H : Hp} {s : Shared} {it : Addr} {fp : List Addr} {tn : Nat -> Heap -> Prop} {J : It} {Q : VK} {E : Value -> Shared -> Prop}
  (I : Inv X pins σ H s) (T : Turn X.prog X.w X.K tg J fp it tn) (st : tn 0 s.heap) (hf : ∀ b ∈ fp, FpOk X pins H b)
  (hW : ∀ D, H D = none -> ∃ W : Nat -> Nat -> St -> Hp -> Prop, (∃ m, W 0 m (blk0 src σ) (upd H D (.lst []))) /\ ∀ i m σ' H', W i m σ' H' ->
   (J.stop i H' /\ Q (.ref D) H') \/ (J.go i H' /\ ∃ N : St -> Hp -> Prop, (∀ σ2 H2, N σ2 H2 -> ∃ m', m' < m /\ W (i + 1) m' σ2 H2) /\ ∀ x H2, J.yld i H' x H2 -> g x σ' H2 fun σ3 H3 => tc σ3 H3 fun b H4 =>
    if b = true then te σ3 H4 fun y H5 => ∃ xs, H5 D = some (.lst xs) /\ xs.length < sizeLine /\ N σ3 (upd H5 D (.lst (xs ++ [y]))) else N σ3 H4))
  {RR : Value -> Addr -> Result -> Shared -> Prop}
  (hRR : ∀ D C H' s' m', Inv X pins σ H' s' -> s'.heap.Ns C m' -> H' C = none -> s.heap.objs.size <= C -> Q (.ref D) H' -> RR (.ref D) C (.ok .next) s') :
  wpAny (model X.prog X.w) X.A (newList []) (fun acc s₃ => wpAny (model X.prog X.w) X.A (newFunctionEnv sc X.env.globals (clOf X.env.cells sc.names []) [] X.env.qual none .none (some X.env)) (fun cenv s₄ =>
   codeAny (model X.prog X.w) X.A (.compStart (.ListComp elt [⟨tg, iter, ifs, 0⟩] sc pos) 0 (.ref it) acc { cenv with scope := relabel sc X.env }) (RR acc cenv.locals) s₄) E s₃) E s := by
 refine wpAny_newObj_type (O9 ?_)
 dsimp only
 generalize hH2 : s.heap.push { cls := .type "list", dict := none, data := .seq ([] : List Value).toArray } = H2
 have hns₁ : (pushCells (H2.push { cls := .type "dict", data := .dict #[] }) sc.names).Ns H2.objs.size (fun _ => none) := (Heap.Ns.new H2 (.type "dict")).keeps (pushCells_keeps _ _)
 have hcs := cellsFrom_ok sc.names (H2.push { cls := .type "dict", data := .dict #[] }) (H2.objs.size + 1) [] ⟨fun _ _ hm => (nomatch hm), List.Pairwise.nil⟩ (by rw [Heap.size_push]; exact Nat.le_refl _)
 rw [Heap.size_push] at hcs
 have hold : ∀ b o, H2.get? b = some o -> (pushCells (H2.push { cls := .type "dict", data := .dict #[] }) sc.names).get? b = some o := fun b o e => pushCells_keeps _ _ b o (Heap.get?_push_of_some _ e)
 generalize hh1 : pushCells (H2.push { cls := .type "dict", data := .dict #[] }) sc.names = h₁ at hns₁ hcs hold ⊢
 have hC : H2.objs.size = s.heap.objs.size + 1 := by rw [<- hH2, Heap.size_push]
 have hDC : @LT.lt Nat _ s.heap.objs.size H2.objs.size := by rw [hC]; exact Nat.lt_succ_self _
 have hCle : s.heap.objs.size <= H2.objs.size := by rw [hC]; exact Nat.le_succ _
 have old : ∀ b o, s.heap.get? b = some o -> h₁.get? b = some o := fun b o e => hold b o (hH2 ▸ Heap.get?_push_of_some _ e)
 have hacc : h₁.get? s.heap.objs.size = some { cls := .type "list", data := .seq #[] 0 } := hold _ _ (hH2 ▸ Heap.get?_push_size _ rfl)
 have hfo : ∀ b ∈ fp, ∃ o, s.heap.get? b = some o := fun b hb => by obtain ⟨o, e, _⟩ := T.obj _ _ st b hb; exact ⟨o, e⟩
 have st1 : tn 0 h₁ := T.keep _ _ _ st fun b _ o e => old b o e
 obtain ⟨W, ⟨m0, w0⟩, turn⟩ := hW s.heap.objs.size I.fresh
 have I1 := blk_startC (t := s.toks) B I hc hf hfo old (Nat.le_refl _) hacc hns₁ hCle hDC hcs
 have stat : ∀ {H' : Hp}, (∀ b ∈ fp, H' b = none) -> ∀ b ∈ fp, FpOk (c8 X sc H2.objs.size N fp s H) [] H' b := fun {H'} hn b hb => by
  obtain ⟨f0, f1, f2, f3, f4, f5⟩ := hf b hb
  refine ⟨hn b hb, I1.ok.exf b hb |>.1, I1.ok.exfs b hb, .inl hb, (I1.ok.exf b hb).2, fun p hp => absurd (show p ∈ ([] : List (Addr × Obj)) ++ [] from hp) (by simp)⟩
 have hfD : ∀ b ∈ fp, b ≠ s.heap.objs.size := fun b hb z => by
  obtain ⟨o, e⟩ := hfo b hb
  exact absurd (Heap.lt_size e) (by rw [z]; exact Nat.lt_irrefl _)
 have loop : ∀ s₃ : Shared, s₃ = { s with heap := h₁ } ->
   codeAny (model X.prog X.w) X.A (.compLoop (.ListComp elt [⟨tg, iter, ifs, 0⟩] sc pos) 0 (.ref it) (.ref s.heap.objs.size) { compEnvC sc (clOf X.env.cells sc.names []) H2.objs.size X.env with cells := cellsFrom (H2.objs.size + 1) sc.names (clOf X.env.cells sc.names []) })
    (RR (.ref s.heap.objs.size) H2.objs.size) s₃ := by
  rintro s₃ rfl
  refine O4 (fun n s' => ∃ i σ' H', Inv (c8 X sc H2.objs.size N fp s H) [] σ' H' s' /\ tn i s'.heap /\ (∀ b ∈ fp, H' b = none) /\ W i n σ' H') ?_ m0
   ⟨0, _, _, I1, st1, fun b hb => by rw [y0 (hfD b hb)]; exact (hf b hb).1, w0⟩
  rintro n s3 ⟨i, σ3, H3, I3, st3, fr3, w3⟩
  rcases turn i n σ3 H3 w3 with ⟨stop, qn⟩ | ⟨go, N', hN', step⟩
  ·refine thn (T.done (c8 X sc H2.objs.size N fp s H) rfl rfl rfl rfl i [] s3 σ3 H3 noE I3 (stat fr3) st3 stop) fun r s4 ⟨hr, I4⟩ => ?_
   subst hr
   obtain ⟨m4, hn4, _⟩ := id I4.loc
   refine hRR _ _ H3 s4 m4 ?_ hn4 I4.free hCle qn
   exact I.call' (ch := fp) I4.os I4.base I4.hok I4.bare fun b hb => ⟨(hf b hb).2.2.2.1, (hf b hb).2.1, (hf b hb).2.2.2.2.1, (hf b hb).2.2.2.2.2⟩
  ·refine thn (T.item (c8 X sc H2.objs.size N fp s H) rfl rfl rfl rfl i [] s3 σ3 H3 noE I3 (stat fr3) st3 go) fun r s4 ⟨u, hr, h4⟩ => ?_
   subst hr
   refine thn h4 fun _ s5 hpat => ?_
   obtain ⟨x, H5, I5, r5, y5, st5, fr5⟩ := hpat
   have I5' := I5.pinned (stat fr5) (T.obj _ _ st5)
   have again : ∀ {s7 : Shared} {σ7 : St} {H7 : Hp}, Inv (c8 X sc H2.objs.size N fp s H) ([] ++ P4 fp s5.heap) σ7 H7 s7 -> N' σ7 H7 -> ∃ m, m < n /\ ∃ i σ' H', Inv (c8 X sc H2.objs.size N fp s H) [] σ' H' s7 /\ tn i s7.heap /\ (∀ b ∈ fp, H' b = none) /\ W i m σ' H' := fun {s7 σ7 H7} I7 n7 => by
    obtain ⟨m', hm, w7⟩ := hN' σ7 H7 n7
    refine ⟨m', hm, i + 1, σ7, H7, I7.unpinned, T.keep _ _ _ st5 fun b hb o e => (I7.pin (b, o) (mem_append_right _ (mem_append_right _ (m5 hb e)))).1, fun b hb => ?_, w7⟩
    obtain ⟨o, e, d⟩ := T.obj _ _ st5 b hb
    exact (I7.pin (b, o) (mem_append_right _ (mem_append_right _ (m5 hb e)))).2.1
   refine thn (hg _ _ _ _ _ s5 σ3 H5 x u _ I5' r5 (step x H5 y5)) fun _ s6 hpat => ?_
   obtain ⟨σ6, H6, I6, q6⟩ := hpat
   refine thn (ht _ _ _ _ _ s6 σ6 H6 _ I6 q6) fun ok s7 hpat => ?_
   obtain ⟨H7, I7, q7⟩ := hpat
   cases ok with
   | false =>
    rw [if_neg Bool.false_ne_true] at q7 ⊢
    exact again I7 q7
   | true =>
    rw [if_pos rfl] at q7 ⊢
    refine thn (he _ _ _ _ _ s7 σ6 H7 _ I7 q7) fun y s8 hpat => ?_
    obtain ⟨v8, H8, I8, r8, q8⟩ := hpat
    obtain ⟨xs, hD8, hz8, n8⟩ := q8
    refine thn (S4 _ s8 σ6 H8 (.ref s.heap.objs.size) [v8] (.ref s.heap.objs.size) [y] (fun _ H9 => H9 = upd H8 s.heap.objs.size (.lst (xs ++ [v8]))) I8 rfl (.cons r8 .nil) ⟨_, xs, v8, rfl, rfl, hD8, hz8, rfl⟩) fun _ s9 hpat => ?_
    obtain ⟨v9, H9, I9, r9, q9⟩ := hpat
    subst q9
    exact again I9 n8
 refine codeAny_compStart_list (loop _ rfl) (toE (T.self X.A 0 { s with heap := h₁ } (fun v s' => v = .ref it /\ s' = { s with heap := h₁ }) noE st1 ⟨rfl, rfl⟩) fun v s' hpat => ?_)
 obtain ⟨e1, e2⟩ := hpat
 subst e1; subst e2
 exact loop _ rfl
theorem ps_setCC {i : Nat} {y : Str} {py : Pos} {sc : Scope} {N : List Str} {src : List (Option Nat)} {tg elt iter : Expr} {ifs : List Expr} {pos spos : Pos} {wi : TI} {g : TG} {tc : TT} {te : TE} (hN : X.N.Nodup) (hi' : X.N[i]? = some y) (hx : Loc X.env.scope y)
  (B : BlkC X sc N src) (hc : X.calm = true)
  (hi : PI X tg iter wi) (hg : ∀ C fp s H, PG (c8 X sc C N fp s H) tg g) (ht : ∀ C fp s H, PTs (c8 X sc C N fp s H) ifs tc) (he : ∀ C fp s H, PE (c8 X sc C N fp s H) elt te)
  (hsw : swapsWith (.ListComp elt [⟨tg, iter, ifs, 0⟩] sc pos) (some (.Name y py)) spos.line X.env = pure true := by rfl)
  (hs : ∀ x, foldedSetIterable iter X.env x = pure x := by intro _; rfl) (hf : X.fn y = true \/ X.env.scope.names.lookup y = some .local := by first | exact .inl rfl | exact .inr rfl | assumption) :
  PS X (.Assign [.Name y py] (.ListComp elt [⟨tg, iter, ifs, 0⟩] sc pos) spos) (tAsg (tComp src wi g tc te) (S8 i)) := by
 intro pins s σ H Dn I h
 rw [exec_Assign_Name_used _ _ _ _ hsw]
 refine wpAny_bind (wpAny_standAt (wpAny_bind ?_))
 show wpAny _ _ (do let _ ← comprehension (.ListComp elt [⟨tg, iter, ifs, 0⟩] sc pos) sc X.env _ (newList []) false (eval iter X.env) (some (assign (.Name y py) X.env))) _ _ s
 refine wpAny_bind (wpAny_mono (wpAny_comprehension_free (use := some (assign (.Name y py) X.env)) (Q := fun _ s' => SP X pins Dn .next s') rfl hs (B.cl I.ok) B.kind B.names
  (wpAny_mono (hi pins s σ H _ I h) (fun xv s₁ h₁ => wpAny_mono h₁ (fun itv s₂ h₂ => ?_) fun _ _ e => e) fun _ _ e => e)) (fun _ s' hq => wpAny_pure (wpAny_pure hq)) fun _ _ e => e)
 obtain ⟨it, fp, tn, J, H2, rfl, I2, T, st2, f2, hW⟩ := h₂
 refine comp_blockC (RR := fun acc C => compPost (model X.prog X.w) X.A X.xe (some (assign (.Name y py) X.env)) (fun _ s' => SP X pins Dn .next s') acc C) (Q := fun x H1 => S8 i x σ H1 Dn.nx) B hc hg ht he I2 T st2 f2 hW ?_
 intro D C H' s' m' I' hn hC hCs q
 show wpAny _ _ (assign (.Name y py) X.env (.ref D)) _ _ _
 refine wpAny_assign_Name (T8 I' hN hi' hx (v := .ref D) rfl (fun s'' I'' hpat => ?_) hf)
 obtain ⟨a, hsb, ha⟩ := hpat
 have hCa : C ≠ a := fun z => by
  rcases ha with ha | ha
  ·have := I2.lt; rw [<- ha, <- z] at this
   exact absurd (Nat.lt_of_lt_of_le this hCs) (Nat.lt_irrefl _)
  ·obtain ⟨v, qv⟩ := I2.cell y a ha
   exact absurd (Nat.lt_of_lt_of_le qv.lt (by rw [<- z]; exact hCs)) (Nat.lt_irrefl _)
 exact ⟨m', hn.sameBut hsb hCa, fun h'' hs'' => ⟨_, H', I''.letGo ⟨_, _, I2⟩ hCs hC hs'', q⟩⟩
end
section
variable {X : Cx} {pos : Pos}
end
def blkOkC (fsc : Scope) (fN : List Str) (sc : Scope) (N : List Str) (src : List (Option Nat)) : Bool :=
 (sc.kind == .function) && sc.names.all (fun y => y.2 != .cell || sc.names.lookup y.1 == some .cell) && sc.names.all (fun y => y.2 != .local || sc.names.lookup y.1 == some .local)
  && sc.names.all (fun y => y.2 != .free || (fsc.names.lookup y.1 == some .cell || fsc.names.lookup y.1 == some .free)) && (src.length == N.length)
  && (List.range src.length).all fun j => match src[j]? with
   | some (some i) => match N[j]? with
    | some x => fN[i]? == some x && sc.names.lookup x == some .free
    | none => false
   | _ => true
theorem blk_ofC {X : Cx} {sc : Scope} {N : List Str} {src : List (Option Nat)} (fsc : Scope) (fN : List Str) (h1 : X.env.scope = fsc) (h2 : X.N = fN) (h : blkOkC fsc fN sc N src = true) : BlkC X sc N src := by
 unfold blkOkC at h
 simp only [Bool.and_eq_true, all_eq_true, beq_iff_eq, Bool.or_eq_true, bne_iff_ne, ne_eq] at h
 obtain ⟨⟨⟨⟨⟨a1, a2⟩, a3⟩, a4⟩, a5⟩, a6⟩ := h
 refine ⟨a1, fun y hy hk => ?_, fun y hy hk => ?_, fun y hy hk => ?_, fun j i e => ?_, a5⟩
 ·rcases a2 y hy with z | z
  ·exact absurd hk z
  ·exact z
 ·rcases a3 y hy with z | z
  ·exact absurd hk z
  ·exact z
 ·have k : ∀ x, X.env.kindOf x = fsc.names.lookup x := fun x => by rw [<- h1]; rfl
  rw [k]
  rcases a4 y hy with z | z
  ·exact absurd hk z
  ·exact z
 ·have hj : j < src.length := (List.getElem?_eq_some_iff.mp e).1
  have := a6 j (List.mem_range.mpr hj)
  rw [e] at this
  simp only at this
  cases hx : N[j]? with
  | none => rw [hx] at this; cases this
  | some x =>
   rw [hx] at this
   simp only [Bool.and_eq_true, beq_iff_eq] at this
   exact ⟨x, rfl, by rw [h2]; exact this.1, this.2⟩
theorem blk_of2C {X : Cx} {sc0 sc : Scope} {N0 N : List Str} {src : List (Option Nat)} {C : Addr} {fp : List Addr} {s : Shared} {H : Hp} (fsc : Scope) (h1 : X.env.scope = fsc) (h : blkOk (relab sc0 fsc) N0 sc N src = true) : Blk (c8 X sc0 C N0 fp s H) sc N src :=
 k5 (relab sc0 fsc) N0 (by rw [<- h1]; rfl) rfl h
end
section
section
variable {X : Cx} {pos : Pos}
end
end
section
structure ItH (K : W.Frag) (H0 : Hp) (J : It) (its : List D) : Prop where
 go : ∀ (i : Nat) F1 H1, Same H0 H1 -> Same F1 H1 -> i < its.length -> J.go i H1
 yld : ∀ (i : Nat) F1 H1 x H2 d, Same H0 H1 -> Same F1 H1 -> its[i]? = some d -> J.yld i H1 x H2 -> ∃ F2, Ext F1 H1 F2 H2 /\ Rep K F2 x d
 stop : ∀ F1 H1, Same H0 H1 -> Same F1 H1 -> J.stop its.length H1
def TIh (K : W.Frag) (mi : ML) : TI := fun σ H R => ∃ F0 H0 F ρ its, Rl K F0 H0 F H σ ρ /\ mi ρ = some its /\ ∀ J, ItH K H0 J its -> R J H
def PIh (X : Cx) (tg iter : Expr) (mi : ML) : Prop := PI X tg iter (TIh X.K mi)
@[irreducible] def rdl (i : Nat) : ML := fun ρ => match ρ[i]? with | some (some (.rd _ ds)) => some ds | _ => none
theorem rdl_some {i : Nat} {ρ : Ro} {ds : List D} (h : rdl i ρ = some ds) : ∃ q, ρ[i]? = some (some (.rd q ds)) := by
 unfold rdl at h
 split at h
 ·rename_i q es h1; cases h; exact ⟨q, h1⟩
 ·cases h
@[irreducible] def rde (i : Nat) : ML := fun ρ => match rdl i ρ with | some ds => some (P1 0 ds) | none => none
theorem ints_at {ns : List Int} {k : Nat} {d : D} (h : (ns.map D.int)[k]? = some d) : ∃ n, (ns.map V.int)[k]? = some (.int n) /\ d = .int n := by
 rw [getElem?_map] at h ⊢
 cases hn : ns[k]? with
 | none => rw [hn] at h; cases h
 | some n => rw [hn] at h; cases h; exact ⟨n, rfl, rfl⟩
theorem Rd.mono {H H' : Hp} {q : Addr} {u : HO} (r : Rd H q u) (s : Same H H') : Rd H' q u := by
 rcases r with z | ⟨o, z⟩
 ·exact .inl (s _ _ z)
 ·exact .inr ⟨o, s _ _ z⟩
theorem ith_enum {K : W.Frag} {H0 : Hp} {q : Addr} {ns : List Int} (r : Rd H0 q (.lst (ns.map V.int))) : ItH K H0 (Ite K q) (P1 0 (ns.map D.int)) where
 go := fun i F1 H1 a b hi => by
  rw [l0] at hi
  have : (ns.map V.int)[i]? = some ((ns.map V.int)[i]'(by simpa using hi)) := getElem?_eq_getElem _
  exact ⟨_, _, .inl (r.mono a), this⟩
 yld := fun i F1 H1 x H2 d a b e y => by
  obtain ⟨t, u, rfl, ht, rfl, y1⟩ := y
  have hl : i < (ns.map D.int).length := by
   have := (List.getElem?_eq_some_iff.mp e).1
   rwa [l0] at this
  have h1 := getElem?_eq_getElem hl
  obtain ⟨n, e1, e2⟩ := ints_at h1
  rw [e2] at h1
  have := y1 _ (.inl (r.mono a))
  rw [e1] at this; cases this
  have hi := R0 0 _ i _ h1
  rw [e, Nat.zero_add] at hi
  cases hi
  exact ⟨_, Ext.laid b ht, .tup (SqT.of y3) (.cons (.int _) (.cons (.int _) .nil))⟩
 stop := fun F1 H1 a b => ⟨_, .inl (r.mono a), by rw [l0]; simp⟩
section
variable {X : Cx} {a b c e : Expr} {ma mb : ME} {pos : Pos} {st : Stmt}
theorem Rl.rdA {K : W.Frag} {F0 H0 F H : Hp} {σ : St} {ρ : Ro} (r : Rl K F0 H0 F H σ ρ) {i : Nat} {ds : List D} (h : rdl i ρ = some ds) : ∃ q, ∃ ns : List Int, ρ[i]? = some (some (.rd q ds)) /\ σ[i]? = some (some (.ref q)) /\ ds = ns.map D.int /\ F0 q = none /\ Rd H0 q (.lst (ns.map V.int)) := by
 obtain ⟨q, h1⟩ := rdl_some h
 obtain ⟨e1, e2, ns, e3, e4⟩ := r.rd i q ds h1
 exact ⟨q, ns, h1, e1, e3, e2, e4⟩
theorem pih_enum {i : Nat} {x : Str} {px p : Pos} {es : List Expr} {tk : Nat} {tp cpos : Pos} (hgl : Gl X "enumerate") (hmm : X.mg "enumerate" = none) (hv : PE X (.Name x px) (tVar i)) (hs1 : starEach [.Name x px] X.env = [(false, eval (.Name x px) X.env)] := by rfl) :
  PIh X (.Tuple es tk tp) (.Call (.Name "enumerate" p) [.Name x px] [] cpos) (rde i) := PI.imp (pi_enum hgl hmm (u8 hv pa_nil (by rw [hs1]; rfl)) hs1) fun σ H R hpat => by
 obtain ⟨F0, H0, F, ρ, its, rl, e, q⟩ := hpat
 unfold rde at e
 split at e
 ·rename_i ds h0
  cases e
  obtain ⟨p, ns, h1, h2, rfl, h3, h4⟩ := rl.rdA h0
  exact ⟨_, h2, p, _, rfl, .inl (h4.mono rl.ext.hh), q _ (ith_enum h4)⟩
 ·cases e
theorem psd_forH {tg iter : Expr} {body : List Stmt} {mi : ML} {g : Tg} {mb : MS} (hp : PassesOwn (model X.prog X.w) X.A X.env X.xe) (hc : X.calm = true) (hi : PIh X tg iter mi) (hg : PGd X tg g) (hb : PSsd X body mb)
  (hs : ∀ x, foldedSetIterable iter X.env x = pure x := by intro _; rfl) : PSd X (.For tg iter body [] pos) (mfor mi g mb) := (ps_for hp hc hi hg hb hs).imp fun Dn σ H hpat => by
 obtain ⟨F0, H0, F, ρ, o, rl, e, ok⟩ := hpat
 unfold mfor at e
 cases h1 : mi ρ with
 | none => rw [h1] at e; cases e
 | some its =>
  rw [h1] at e
  have e : forD g mb its ρ = some o := e
  refine ⟨F0, H0, F, ρ, its, rl, h1, fun J I => ?_⟩
  refine ⟨fun i m σ' H' => ∃ F' ρ', Rl X.K F0 H0 F' H' σ' ρ' /\ Same F F' /\ i <= its.length /\ m = its.length - i /\ forD g mb (its.drop i) ρ' = some o, ⟨_, F, ρ, rl, Same.refl _, Nat.zero_le _, rfl, e⟩, ?_⟩
  rintro i m σ' H' ⟨F', ρ', rl', sf, hi', rfl, e'⟩
  by_cases hlt : i < its.length
  ·right
   have hd := getElem?_eq_getElem hlt
   refine ⟨I.go i F' H' rl'.ext.hh rl'.fh hlt, fun σ2 H2 => ∃ F2 ρ2, Rl X.K F0 H0 F2 H2 σ2 ρ2 /\ Same F F2 /\ forD g mb (its.drop (i + 1)) ρ2 = some o, ?_, fun x H2 y => ?_⟩
   ·rintro σ2 H2 ⟨F2, ρ2, rl2, sf2, e2⟩
    exact ⟨its.length - (i + 1), by omega, F2, ρ2, rl2, sf2, hlt, rfl, e2⟩
   ·obtain ⟨F2, x2, r2⟩ := I.yld i F' H' x H2 _ rl'.ext.hh rl'.fh hd y
    rw [g6 hd] at e'
    unfold forD at e'
    cases h2 : tgD g its[i] ρ' with
    | none => simp only [h2] at e'; cases e'
    | some ρ1 =>
     simp only [h2] at e'
     refine ⟨F0, H0, F2, ρ', _, ρ1, rl'.go x2, r2, h2, fun F3 H3 σ3 rl3 x3 => ?_⟩
     have s3 : Same F F3 := (sf.trans x2.ff).trans x3.ff
     cases h3 : mb ρ1 with
     | none => simp only [h3] at e'; cases e'
     | some o1 =>
      simp only [h3] at e'
      refine ⟨F0, H0, F3, ρ1, o1, rl3, h3, ?_⟩
      cases o1 with
      | nx ρ2 => exact fun F4 H4 σ4 rl4 s4 => ⟨F4, ρ2, rl4, s3.trans s4, e'⟩
      | ct ρ2 => exact fun F4 H4 σ4 rl4 s4 => ⟨F4, ρ2, rl4, s3.trans s4, e'⟩
      | bk ρ2 =>
       cases e'
       exact fun F4 H4 σ4 rl4 s4 => ok F4 H4 σ4 rl4 (s3.trans s4)
      | rt d => cases e'; exact ok
      | rf d => cases e'; exact ok
      | rp d ds => cases e'; exact ok
      | rg d p r => cases e'; exact ok
      | rgf d p r => cases e'; exact ok
  ·left
   have hieq : i = its.length := by omega
   subst hieq
   rw [drop_length] at e'
   have e' : some (Out.nx ρ') = some o := e'
   cases e'
   exact ⟨I.stop F' H' rl'.ext.hh rl'.fh, ok F' H' σ' rl' sf⟩
end
end
section
def NrP (p : Addr) (ρ : Ro) : Prop := ∀ (i : Nat) q ds, ρ[i]? = some (some (.rd q ds)) -> q ≠ p
theorem NrP.set {p : Addr} {ρ : Ro} (h : NrP p ρ) (i : Nat) (d : D) : NrP p (ρ.set i (some (.sh d))) := fun j q ds e => h j q ds (S0 e).2
theorem NrP.all {p : Addr} : ∀ (is : List Nat) (ds : List D) {ρ ρ' : Ro}, NrP p ρ -> P3 is ds ρ = some ρ' -> NrP p ρ'
 | [], [], _, _, h, e => by cases e; exact h
 | [], _ :: _, _, _, _, e => by cases e
 | _ :: _, [], _, _, _, e => by cases e
 | i :: is, d :: ds, ρ, ρ', h, e => NrP.all is ds (h.set i d) e
theorem NrP.tg {p : Addr} {g : Tg} {d : D} {ρ ρ' : Ro} (h : NrP p ρ) (e : tgD g d ρ = some ρ') : NrP p ρ' := by
 cases g with
 | nm i => cases e; exact h.set i d
 | tp is => cases d <;> first | (cases e; done) | exact NrP.all is _ h e
 | nt i is =>
  cases d with
  | tup ds =>
   match ds, e with
   | [d, .tup ds], e => exact NrP.all is _ (h.set i d) e
  | _ => cases e
theorem Rl.rebaseR {K : W.Frag} {F1 F H B : Hp} {σ : St} {ρ : Ro} {p : Addr} {xs ys : List V} (r : Rl K F1 (upd B p (.lst xs)) F H σ ρ) (hF : F p = none) (nr : NrP p ρ) : Rl K F1 (upd B p (.lst ys)) F (upd H p (.lst ys)) σ ρ := by
 have ne : ∀ q, upd B p (.lst xs) q = none -> q ≠ p := fun q z w => by rw [w, y3] at z; cases z
 refine ⟨⟨r.ext.ff, fun b u e => ?_, r.fh.put hF, fun b e n => ?_, r.ext.nf⟩, r.len, r.sh, fun i ds e => ?_, r.inj, fun i q ds e => ?_, r.obn, r.ob1, fun i q ds e => ?_⟩
 ·by_cases hb : b = p
  ·subst hb; rw [y3] at e ⊢; exact e
  ·rw [y0 hb] at e ⊢
   exact r.ext.hh b u (by rw [y0 hb]; exact e)
 ·have hb : b ≠ p := fun w => by rw [w, hF] at n; exact n rfl
  have := r.ext.new b e n
  rw [y0 hb] at this ⊢; exact this
 ·obtain ⟨q, zs, a, b, c, d, z⟩ := r.own i ds e
  have hq := ne q z
  rw [y0 hq] at z
  exact ⟨q, zs, a, b, by rw [y0 hq]; exact c, d, by rw [y0 hq]; exact z⟩
 ·obtain ⟨a, b, z, zs, c, d⟩ := r.ob i q ds e
  have hq := ne q z
  rw [y0 hq] at z
  exact ⟨a, b, by rw [y0 hq]; exact z, zs, by rw [y0 hq]; exact c, d⟩
 ·obtain ⟨a, b, ns, c, z⟩ := r.rd i q ds e
  have hq := nr i q ds e
  refine ⟨a, b, ns, c, ?_⟩
  unfold Rd at z ⊢
  rw [y0 hq] at z ⊢; exact z
theorem comp_loopR {K : PySem.W.Frag} {src : List (Option Nat)} {g : Tg} {c : MB} {elt : ME} {its out : List D} {F1 H1 B : Hp} {σ : St} {ρb : Ro} {p : Addr} {J : It} {Q : VK} (f1 : Same F1 H1) (hp : H1 p = none) (rb : Rl K F1 (upd B p (.lst [])) F1 (upd H1 p (.lst [])) (blk0 src σ) ρb) (nr : NrP p ρb) (I : ItD K F1 J its) (e : g7 g c elt its ρb [] = some out)
  (q : ∀ xs F' H', Ext F1 H1 F' H' -> F' p = none -> H' p = some (.lst xs) -> Reps K F' xs out -> Q (.ref p) H') :
  ∃ W : Nat -> Nat -> St -> Hp -> Prop, (∃ m, W 0 m (blk0 src σ) (upd H1 p (.lst []))) /\ ∀ i m σ' H', W i m σ' H' ->
   (J.stop i H' /\ Q (.ref p) H') \/ (J.go i H' /\ ∃ N : St -> Hp -> Prop, (∀ σ2 H2, N σ2 H2 -> ∃ m', m' < m /\ W (i + 1) m' σ2 H2) /\ ∀ x H2, J.yld i H' x H2 -> TGd K g x σ' H2 fun σ3 H3 => TC K c σ3 H3 fun b H4 =>
    if b = true then TD K elt σ3 H4 fun y H5 => ∃ xs, H5 p = some (.lst xs) /\ xs.length < sizeLine /\ N σ3 (upd H5 p (.lst (xs ++ [y]))) else N σ3 H4) := by
 have hF1 : F1 p = none := f1.free hp
 refine ⟨fun i m σ' H' => ∃ F' ρ' acc xs, Rl K F1 (upd B p (.lst xs)) F' H' σ' ρ' /\ Ext F1 H1 F' H' /\ H' p = some (.lst xs) /\ F' p = none /\ Reps K F' xs acc /\ i <= its.length /\ m = its.length - i /\ g7 g c elt (its.drop i) ρ' acc = some out /\ NrP p ρ',
  ⟨_, F1, ρb, [], [], rb, (Ext.refl f1).acc hp hF1, y3, hF1, .nil, Nat.zero_le _, rfl, e, nr⟩, ?_⟩
 clear rb e nr
 rintro i m σ' H' ⟨F', ρ', acc, xs, rl', xe, hH', hF', ra, hi', rfl, e', nr'⟩
 by_cases hlt : i < its.length
 ·right
  have hd := getElem?_eq_getElem hlt
  refine ⟨I.go i F' H' xe.ff rl'.fh hlt, fun σ2 H2 => ∃ F2 ρ2 acc2 xs2, Rl K F1 (upd B p (.lst xs2)) F2 H2 σ2 ρ2 /\ Ext F1 H1 F2 H2 /\ H2 p = some (.lst xs2) /\ F2 p = none /\ Reps K F2 xs2 acc2 /\ g7 g c elt (its.drop (i + 1)) ρ2 acc2 = some out /\ NrP p ρ2, ?_, fun x H2 y => ?_⟩
  ·rintro σ2 H2 ⟨F2, ρ2, acc2, xs2, b1, b2, b3, b4, b5, b6, b7⟩
   exact ⟨its.length - (i + 1), Nat.sub_lt_sub_left hlt (Nat.lt_succ_self i), F2, ρ2, acc2, xs2, b1, b2, b3, b4, b5, hlt, rfl, b6, b7⟩
  ·obtain ⟨F2, x2, r2⟩ := I.yld i F' H' x H2 _ xe.ff rl'.fh hd y
   rw [g6 hd] at e'
   obtain ⟨ρ1, h2, e3⟩ := E9 e'
   have nr1 := nr'.tg h2
   clear e' I q y hd
   refine ⟨F1, _, F2, ρ', _, ρ1, rl'.go x2, r2, h2, fun F3 H3 σ3 rl3 x3 => ?_⟩
   have x23 := x2.trans x3
   rcases e3 with ⟨h3, e4⟩ | ⟨d, h3, h4, hz, e4⟩
   ·refine ⟨F1, _, F3, ρ1, false, rl3, h3, fun F4 H4 x4 => ?_⟩
    have x24 := x23.trans x4
    exact iteF ⟨F4, ρ1, acc, xs, rl3.go x4, xe.trans x24, x24.hh _ _ hH', x24.stay hF' hH', ra.mono x24.ff, e4, nr1⟩
   ·refine ⟨F1, _, F3, ρ1, true, rl3, h3, fun F4 H4 x4 => iteT ⟨F1, _, F4, ρ1, d, rl3.go x4, h4, fun v F5 H5 x5 r5 => ?_⟩⟩
    have x25 := (x23.trans x4).trans x5
    have pn := x25.stay hF' hH'
    exact ⟨xs, x25.hh _ _ hH', by rw [ra.length]; exact hz, F5, ρ1, acc ++ [d], xs ++ [v], ((rl3.go x4).go x5).rebaseR pn nr1, (xe.trans x25).acc hp pn, y3, pn, (ra.mono x25.ff).append (.cons r5 .nil), e4, nr1⟩
 ·left
  have hieq : i = its.length := Nat.le_antisymm hi' (Nat.le_of_not_lt hlt)
  subst hieq
  rw [drop_length] at e'
  have e' : some acc = some out := e'
  cases e'
  exact ⟨I.stop F' H' xe.ff rl'.fh, q xs F' H' xe hF' hH' ra⟩
def O8 (src : List (Option Nat)) (ρ : Ro) : Ro := src.map fun o => o.bind fun i => match ρ[i]? with | some (some (.sh d)) => some (.sh d) | some (some (.own ds)) => some (.own ds) | some (some (.rd q ds)) => some (.rd q ds) | _ => none
@[irreducible] def L9 (src : List (Option Nat)) (mi : ML) (g : Tg) (c : MB) (elt : ME) : ML := fun ρ => (mi ρ).bind fun its => g7 g c elt its (O8 src ρ) []
theorem Y4 {src : List (Option Nat)} {ρ : Ro} {i : Nat} {x : S} (e : (O8 src ρ)[i]? = some (some x)) : ∃ k, src[i]? = some (some k) /\ ρ[k]? = some (some x) /\ nob (some x) := by
 unfold O8 at e
 rw [getElem?_map] at e
 cases h : src[i]? with
 | none => rw [h] at e; cases e
 | some o =>
  rw [h] at e
  cases o with
  | none => cases e
  | some k =>
   simp only [Option.map_some, Option.bind_some] at e
   split at e
   ·rename_i d h'; cases e; exact ⟨k, rfl, h', True.intro⟩
   ·rename_i ds h'; cases e; exact ⟨k, rfl, h', True.intro⟩
   ·rename_i q ds h'; cases e; exact ⟨k, rfl, h', True.intro⟩
   ·cases e
def capB (F H0 H : Hp) : Hp := fun b => match F b with | some o => some o | none => match H0 b with | some _ => H b | none => none
theorem Rl.blkR {K : W.Frag} {F0 H0 F H : Hp} {σ : St} {ρ : Ro} (r : Rl K F0 H0 F H σ ρ) {src : List (Option Nat)} (ok : srcOk src) {p : Addr} (hp : H p = none) : Rl K F (upd (capB F H0 H) p (.lst [])) F (upd H p (.lst [])) (blk0 src σ) (O8 src ρ) := by
 have hF : F p = none := r.fh.free hp
 refine ⟨⟨Same.refl F, fun b u e => ?_, r.fh.put hF, fun b e n => absurd e n, fun _ _ _ z => z⟩, by unfold blk0 O8; simp, fun i d e => ?_, fun i ds e => ?_, fun i j q ds es hij e1 e2 s1 s2 => ?_, fun i q ds e => ?_, fun i j q ds es e => ?_, fun i j q q' ds es e => ?_, fun i q ds e => ?_⟩
 ·by_cases hb : b = p
  ·subst hb; rw [y3] at e ⊢; exact e
  ·rw [y0 hb] at e ⊢
   unfold capB at e
   split at e
   ·rename_i o h1; cases e; exact r.fh _ _ h1
   ·split at e
    ·exact e
    ·cases e
 ·obtain ⟨k, h1, h2, _⟩ := Y4 e
  obtain ⟨v, a, b⟩ := r.sh k d h2
  exact ⟨v, blk0_at h1 a, b⟩
 ·obtain ⟨k, h1, h2, _⟩ := Y4 e
  obtain ⟨q, xs, a, b, c, d, z⟩ := r.own k ds h2
  have hq : q ≠ p := fun w => by rw [w, hp] at c; cases c
  exact ⟨q, xs, blk0_at h1 a, b, by rw [y0 hq]; exact c, d, by rw [y0 hq]; unfold capB; rw [b, z]⟩
 ·obtain ⟨k, h1, h2, _⟩ := Y4 e1
  obtain ⟨l, h3, h4, _⟩ := Y4 e2
  refine r.inj k l q ds es (fun w => ?_) h2 h4 (zu3 h1 s1) (zu3 h3 s2)
  subst w
  exact hij (ok i j k h1 h3)
 ·obtain ⟨k, h1, h2, n⟩ := Y4 e; exact n.elim
 ·obtain ⟨k, h1, h2, n⟩ := Y4 e; exact n.elim
 ·obtain ⟨k, h1, h2, n⟩ := Y4 e; exact n.elim
 ·obtain ⟨k, h1, h2, _⟩ := Y4 e
  obtain ⟨a, b, ns, c, d, z⟩ := r.rdF h2
  have hn : H q ≠ none := by rcases d with d | ⟨o, d⟩ <;> rw [d] <;> simp
  have hq : q ≠ p := fun w => hn (w ▸ hp)
  refine ⟨blk0_at h1 a, b, ns, c, ?_⟩
  have hc : capB F H0 H q = H q := by
   unfold capB
   rw [b]
   cases h0 : H0 q with
   | none => exact absurd h0 z
   | some o => rfl
  unfold Rd at d ⊢
  rw [y0 hq, hc]; exact d
theorem Rl.nrp {K : W.Frag} {F0 H0 F H : Hp} {σ : St} {ρ : Ro} (r : Rl K F0 H0 F H σ ρ) (src : List (Option Nat)) {p : Addr} (hp : H p = none) : NrP p (O8 src ρ) := fun i q ds e w => by
 obtain ⟨k, h1, h2, _⟩ := Y4 e
 obtain ⟨a, b, ns, c, d, z⟩ := r.rdF h2
 rw [w] at d
 rcases d with d | ⟨o, d⟩ <;> rw [hp] at d <;> cases d
theorem comp_tfR {K : W.Frag} {src : List (Option Nat)} {mi : ML} {g : Tg} {c : MB} {elt : ME} (so : srcOk src) {σ : St} {H : Hp} {Q : VK} (h : TF K (L9 src mi g c elt) σ H Q) : tComp src (TId K mi) (TGd K g) (TC K c) (TD K elt) σ H Q := by
 obtain ⟨F0, H0, F, ρ, out, rl, e, q⟩ := h
 unfold L9 at e
 cases h1 : mi ρ with
 | none => rw [h1] at e; cases e
 | some its =>
  rw [h1] at e
  refine ⟨F0, H0, F, ρ, its, rl, h1, fun J F1 H1 x1 I p hp => ?_⟩
  exact comp_loopR x1.fh hp ((rl.go x1).blkR so hp) ((rl.go x1).nrp src hp) I e fun xs F' H' xe hF' hH' ra => q p xs F' H' (x1.trans xe) (x1.hh.free hp) hF' hH' ra
section
variable {X : Cx} {a b c e o : Expr} {ma mb mo : ME} {pos : Pos} {st : Stmt}
theorem N7 {sc : Scope} {N : List Str} {src : List (Option Nat)} {tg elt iter : Expr} {ifs : List Expr} {mi : ML} {g : Tg} {cc : MB} {me : ME} (so : srcOk src) (B : Blk X sc N src) (hc : X.calm = true)
  (hi : PId X tg iter mi) (hg : ∀ C fp s H, PGd (t9 X sc C N fp s H) tg g) (ht : ∀ C fp s H, PTsd (t9 X sc C N fp s H) ifs cc) (he : ∀ C fp s H, PD (t9 X sc C N fp s H) elt me)
  (hs : ∀ x, foldedSetIterable iter X.env x = pure x := by intro _; rfl) :
  PF X (.ListComp elt [⟨tg, iter, ifs, 0⟩] sc pos) (L9 src mi g cc me) := (pe_comp (g := TGd X.K g) (tc := TC X.K cc) (te := TD X.K me) B hc hi (fun C fp s H => hg C fp s H) (fun C fp s H => ht C fp s H) (fun C fp s H => he C fp s H) hs).imp fun _ _ _ h => comp_tfR so h
end
end
section
def RepS (K : W.Frag) (F H : Hp) (v : V) : S -> Prop
 | .sh d => Rep K F v d
 | .rd q ds => v = .ref q /\ F q = none /\ ∃ ns : List Int, ds = ns.map D.int /\ Rd H q (.lst (ns.map V.int))
 | _ => False
inductive RpS (K : W.Frag) (F H : Hp) : List V -> List S -> Prop
 | nil : RpS K F H [] []
 | cons {v : V} {x : S} {vs : List V} {xs : List S} : RepS K F H v x -> RpS K F H vs xs -> RpS K F H (v :: vs) (x :: xs)
theorem RepS.mono {K : W.Frag} {F H F' H' : Hp} {v : V} (e : Ext F H F' H') : ∀ {x : S}, RepS K F H v x -> RepS K F' H' v x
 | .sh d, h => Rep.mono e.ff h
 | .rd q ds, ⟨a, b, ns, c, d⟩ => by
   refine ⟨a, ?_, ns, c, d.mono e.hh⟩
   cases hF : F' q with
   | none => rfl
   | some u =>
    have := e.new q b (by rw [hF]; simp)
    rcases d with d | ⟨o, d⟩ <;> rw [this] at d <;> cases d
 | .own _, h => h
 | .ob _ _, h => h
theorem RpS.length {K : W.Frag} {F H : Hp} : ∀ {vs : List V} {xs : List S}, RpS K F H vs xs -> vs.length = xs.length
 | _, _, .nil => rfl
 | _, _, .cons _ r => by rw [length_cons, length_cons, r.length]
theorem RpS.get {K : W.Frag} {F H : Hp} : ∀ {vs : List V} {xs : List S}, RpS K F H vs xs -> ∀ {i : Nat} {x : S}, xs[i]? = some x -> ∃ v, vs[i]? = some v /\ RepS K F H v x
 | _, _, .nil, _, _, e => by cases e
 | _, _, .cons r _, 0, _, e => by cases e; exact ⟨_, rfl, r⟩
 | _, _, .cons _ r, i + 1, _, e => r.get (i := i) e
abbrev MK := List S -> Option Rt
abbrev MA := Ro -> Option (List S)
def TAk (K : W.Frag) (m : MA) : TA := fun σ H Q => ∃ F0 H0 F ρ ss, Rl K F0 H0 F H σ ρ /\ m ρ = some ss /\ ∀ vs F' H', Ext F H F' H' -> RpS K F' H' vs ss -> Q vs H'
def PAk (X : Cx) (es : List Expr) (m : MA) : Prop := PA X es (TAk X.K m)
def knil : MA := fun _ => some []
@[irreducible] def P0 (x : ME) (r : MA) : MA := fun ρ => match x ρ with | some d => (match r ρ with | some ss => some (.sh d :: ss) | none => none) | none => none
@[irreducible] def krd (i : Nat) (r : MA) : MA := fun ρ => match ρ[i]? with | some (some (.rd q ds)) => (match r ρ with | some ss => some (.rd q ds :: ss) | none => none) | _ => none
def spK (K : W.Frag) (n : Nat) (m : MK) : Sp := fun vs H Q _ => vs.length = n /\ ∃ F ss r, Same F H /\ RpS K F H vs ss /\ m ss = some r /\ okT K F H Q r
def U0 (n : Nat) (ss : List S) : Ro := ss.map some ++ List.replicate (n - ss.length) none
def runK (n : Nat) (m : MS) : MK := fun ss => match m (U0 n ss) with
 | some (.nx _) => some (.sh .non)
 | some (.rt d) => some (.sh d)
 | some (.rf es) => some (.fr es)
 | some (.rp d es) => some (.pr d es)
 | _ => none
theorem rl_startK {K : W.Frag} {F H : Hp} {N : List Str} {vs : List V} {ss : List S} (s : Same F H) (r : RpS K F H vs ss) : Rl K F H F H (start N vs) (U0 N.length ss) := by
 have get : ∀ (i : Nat) x, (U0 N.length ss)[i]? = some (some x) -> ∃ v, (start N vs)[i]? = some (some v) /\ RepS K F H v x := fun i x e => by
  unfold U0 at e
  by_cases hi : i < ss.length
  ·rw [getElem?_append_left (by simpa using hi), getElem?_map] at e
   cases q : ss[i]? with
   | none => rw [q] at e; cases e
   | some d =>
    rw [q] at e; cases e
    obtain ⟨v, e3, e4⟩ := r.get q
    have hl : i < vs.length := (List.getElem?_eq_some_iff.mp e3).1
    refine ⟨v, ?_, e4⟩
    unfold start
    rw [getElem?_append_left (by simpa using hl), getElem?_map, e3]; rfl
  ·rw [getElem?_append_right (by simpa using hi), getElem?_replicate] at e
   split at e <;> cases e
 refine ⟨.refl s, ?_, fun i d e => get i _ e, fun i ds e => ?_, fun i j p ds es _ e => ?_, fun i p ds e => ?_, fun i j p ds es e => ?_, fun i j p q ds es e => ?_, fun i q ds e => ?_⟩
 ·unfold start U0; simp [r.length]
 ·obtain ⟨v, _, z⟩ := get i _ e; exact z.elim
 ·obtain ⟨v, _, z⟩ := get i _ e; exact z.elim
 ·obtain ⟨v, _, z⟩ := get i _ e; exact z.elim
 ·obtain ⟨v, _, z⟩ := get i _ e; exact z.elim
 ·obtain ⟨v, _, z⟩ := get i _ e; exact z.elim
 ·obtain ⟨v, h1, rfl, h2, ns, h3, h4⟩ := get i _ e
  exact ⟨h1, h2, ns, h3, h4⟩
theorem Fun.okK {P : Program} {w : World} {K : W.Frag} {mg : Str -> Option Value} {base : Heap} {x qual : Str} {st : Stmt} {f : Addr} {fd : FuncData} {N ps : List Str} {k : Nat} {m : MS} (Fn : Fun K x qual st f fd) (Sc : FnScope N ps (z9 st))
  (hbody : ∀ (cdv : Value) (A : Around) (outer : List Env) (s : Shared) (H : Hp) (E : XK), Room k (A.deeper (envOfC qual (z9 st) s.heap.objs.size f cdv)) -> PSsd (cxOf CX0 P w K mg base N qual (z9 st) f cdv A outer s H E).nox (i9 st) m) :
  FnOk P w K mg base CX0 (k + 1) f fd ps (spK K ps.length (runK N.length m)) := by
 refine Fn.ok Sc (fun vs H Q E h => h.1) fun cdv A outer s H vs Q E hr h => ?_
 obtain ⟨hl, F, ss, r, sf, rs, e, ok⟩ := h
 unfold runK at e
 cases h1 : m (U0 N.length ss) with
 | none => rw [h1] at e; cases e
 | some o =>
  rw [h1] at e
  refine ⟨_, hbody cdv A outer s H E hr, F, H, F, U0 N.length ss, o, rl_startK sf rs, h1, ?_⟩
  cases o with
  | nx ρ => cases e; exact fun F' H' σ' rl _ => ok .non F' H' rl.ext .non
  | rt d => cases e; exact ok
  | rf es => cases e; exact ok
  | rp d es => cases e; exact ok
  | rg d p r => cases e
  | rgf d p r => cases e
  | bk ρ => cases e
  | ct ρ => cases e
@[irreducible] def W5 (f : MK) (m : MA) : ME := fun ρ => (m ρ).bind fun ss => match f ss with | some (.sh d) => some d | some (.fr es) => some (.lst es) | some (.pr d es) => some (.tup [d, .lst es]) | none => none
section
variable {X : Cx} {a b c e o : Expr} {ma mb mo : ME} {pos : Pos} {st : Stmt} {E : XK} {es : List Expr} {mf : MK} {m : MA}
theorem pak_nil : PAk X [] knil := pa_nil.imp fun σ H Q hpat => by
 obtain ⟨F0, H0, F, ρ, g, rl, e, q⟩ := hpat
 cases e; exact q [] F H (.refl rl.fh) .nil
theorem C9 (ha : PD X a ma) (hr : PAk X es m) (hs : starEach (a :: es) X.env = (false, eval a X.env) :: starEach es X.env := by rfl) : PAk X (a :: es) (P0 ma m) := (u8 ha hr hs).imp fun σ H Q hpat => by
 obtain ⟨F0, H0, F, ρ, g, rl, e, q⟩ := hpat
 unfold P0 at e
 split at e
 ·rename_i d h1
  split at e
  ·rename_i ss h2
   cases e
   exact ⟨F0, H0, F, ρ, d, rl, h1, fun x F1 H1 x1 r1 => ⟨F0, H0, F1, ρ, ss, rl.go x1, h2, fun xs F2 H2 x2 r2 => q _ F2 H2 (x1.trans x2) (.cons (Rep.mono x2.ff r1) r2)⟩⟩
  ·cases e
 ·cases e
theorem pak_rd {i : Nat} (ha : PE X a (tVar i)) (hr : PAk X es m) (hs : starEach (a :: es) X.env = (false, eval a X.env) :: starEach es X.env := by rfl) : PAk X (a :: es) (krd i m) := (u8 ha hr hs).imp fun σ H Q hpat => by
 obtain ⟨F0, H0, F, ρ, g, rl, e, q⟩ := hpat
 unfold krd at e
 split at e
 ·rename_i p ds h1
  split at e
  ·rename_i ss h2
   cases e
   obtain ⟨e1, e2, ns, e3, e4, _⟩ := rl.rdF h1
   have r0 : RepS X.K F H (.ref p) (.rd p ds) := ⟨rfl, e2, ns, e3, e4⟩
   exact ⟨_, e1, F0, H0, F, ρ, ss, rl, h2, fun xs F2 H2 x2 r2 => q _ F2 H2 x2 (.cons (r0.mono x2) r2)⟩
  ·cases e
 ·cases e
theorem C8 {n : Nat} (h : ∀ t, PA X es t -> PE X e (tCall (spK X.K n mf) [] E t)) (hl : es.length = n) (ha : PAk X es m) (hm : ∀ ρ ss, m ρ = some ss -> ss.length = es.length) : PD X e (W5 mf m) := (h _ ha).imp fun σ H Q hpat => by
 obtain ⟨F0, H0, F, ρ, d, rl, e, q⟩ := hpat
 unfold W5 at e
 cases h1 : m ρ with
 | none => rw [h1] at e; cases e
 | some ss =>
  rw [h1] at e
  refine ⟨F0, H0, F, ρ, ss, rl, h1, fun vs F1 H1 x1 r1 => ?_⟩
  dsimp only [Option.bind] at e
  show spK X.K n mf (vs ++ []) H1 Q E
  rw [append_nil]
  refine ⟨by rw [r1.length, hm ρ ss h1, hl], F1, ss, ?_⟩
  split at e
  ·rename_i d' h2
   cases e
   exact ⟨_, x1.fh, r1, h2, fun v F2 H2 x2 r2 => q v F2 H2 (x1.trans x2) r2⟩
  ·rename_i es' h2
   cases e
   exact ⟨_, x1.fh, r1, h2, fun p xs F2 H2 x2 hp hF hH r2 => q _ (upd F2 p (.lst xs)) H2 (x1.trans (x2.freeze hF hp hH)) (.lst (SqL.of y3) (r2.mono ((Same.refl F2).put hF)))⟩
  ·rename_i d' es' h2
   cases e
   refine ⟨_, x1.fh, r1, h2, fun t v p xs F2 H2 x2 ht hp hne hFt hFp hHt hHp rv rs => ?_⟩
   have x3 := x2.freeze hFp hp hHp
   have hFt' : upd F2 p (.lst xs) t = none := by rw [y0 hne]; exact hFt
   have s2 : Same F2 (upd F2 p (.lst xs)) := (Same.refl F2).put hFp
   have s3 : Same (upd F2 p (.lst xs)) (upd (upd F2 p (.lst xs)) t (.tup [v, .ref p])) := (Same.refl _).put hFt'
   exact q _ (upd (upd F2 p (.lst xs)) t (.tup [v, .ref p])) H2 (x1.trans (x3.freeze hFt' ht hHt)) (.tup (SqT.of y3) (.cons (rv.mono (s2.trans s3)) (.cons (.lst (SqL.of (by rw [y0 (Ne.symm hne)]; exact y3)) (rs.mono (s2.trans s3))) .nil)))
  ·cases e
theorem B9 (ρ : Ro) (ss : List S) (h : knil ρ = some ss) : ss.length = 0 := by cases h; rfl
theorem K4 {n : Nat} (hm : ∀ ρ ss, m ρ = some ss -> ss.length = n) (ρ : Ro) (ss : List S) (h : P0 ma m ρ = some ss) : ss.length = n + 1 := by
 unfold P0 at h
 split at h
 ·split at h
  ·rename_i h2; cases h; rw [length_cons, hm _ _ h2]
  ·cases h
 ·cases h
theorem krd_len {n i : Nat} (hm : ∀ ρ ss, m ρ = some ss -> ss.length = n) (ρ : Ro) (ss : List S) (h : krd i m ρ = some ss) : ss.length = n + 1 := by
 unfold krd at h
 split at h
 ·split at h
  ·rename_i h2; cases h; rw [length_cons, hm _ _ h2]
  ·cases h
 ·cases h
end
def hp0 : Hp := fun _ => none
theorem c3 {K : W.Frag} {F : Hp} : ∀ {ns : List Int} {vs : List V}, Reps K F vs (ns.map D.int) -> vs = ns.map V.int
 | [], _, .nil => rfl
 | n :: ns, _, .cons (.int _) r => by rw [c3 r]; rfl
theorem rep_rd {K : W.Frag} (hL : NoL K) {F H : Hp} (s : Same F H) {v : V} {ns : List Int} (r : Rep K F v (.lst (ns.map D.int))) : ∃ q, RepS K hp0 H v (.rd q (ns.map D.int)) := by
 cases r with
 | lst sq rs =>
  rename_i q xs
  rw [c3 rs] at sq
  rcases sq with sq | ⟨o, its, n, hk, hc, _⟩
  ·exact ⟨q, rfl, rfl, ns, rfl, sq.mono s⟩
  ·exact absurd hc (hL _ _ hk)
end
section
open Classical in
end
section
section
variable {X : Cx} {pins : List (Addr × Obj)} {σ : St}
end
section
variable {X : Cx} {pos : Pos}
end
end
section
section
variable {prog : Program} {w : World} {A : Around} {E : Value -> Shared -> Prop} {s : Shared}
theorem V9 {l : Addr} {i j : Int} {t u v : Tok} {Q : Value -> Shared -> Prop} (hl : IsRange s.heap l i j 1 t u v) (h1 : -(2 ^ 62) <= j) (h2 : j < 2 ^ 62) (h3 : -(2 ^ 62) <= i) (h4 : i < 2 ^ 62)
  (h : Q (.ref s.heap.objs.size) { s with heap := s.heap.push (zy3 (i + (((j - i).toNat : Int) - 1)) (j - i).toNat (-1)) }) : wpAny (model prog w) A (call (.builtin "range.__reversed__") [.ref l]) Q E s := by
 have hT : s.TypeIs (.ref l) "range" := ⟨_, hl, rfl⟩
 refine wpAny_call_entry F.slot_range_reversed hT F.entry_range_reversed ?_ (F.args_range_reversed_1 _)
 have hsz : Builtin.Range.rangeSize i j 1 = ((j - i).toNat : Int) := by rw [rangeSize_one]; split <;> omega
 unfold Builtin.«range.__reversed__»
 refine wpAny_bind (wpAny_of_eq (a := Value.ref l) rfl ?_)
 unfold Builtin.Range.rangeFields
 refine wpAny_bind ?_
 refine wpAny_bind (wpAny_field hl rfl (x := .int i t) rfl ?_)
 refine wpAny_bind (wpAny_of_eq (a := some i) rfl ?_)
 refine wpAny_bind (wpAny_field hl rfl (x := .int j u) rfl ?_)
 refine wpAny_bind (wpAny_of_eq (a := some j) rfl ?_)
 refine wpAny_bind (wpAny_field hl rfl (x := .int 1 v) rfl ?_)
 refine wpAny_bind (wpAny_of_eq (a := some (1 : Int)) rfl ?_)
 refine wpAny_pure ?_
 dsimp only
 rw [hsz]
 have hsm : (Builtin.Range.rangeFitsLong i && Builtin.Range.rangeFitsLong j && Builtin.Range.rangeFitsLong 1 && Builtin.Range.rangeFitsLong (-1) && Builtin.Range.rangeFitsLong (i - 1) && Builtin.Range.rangeFitsLong ((j - i).toNat : Int)) = true := by
  simp only [Builtin.Range.rangeFitsLong, Bool.and_eq_true, decide_eq_true_eq]
  omega
 simp only [hsm, Bool.not_true, Bool.false_eq_true, if_false, if_true]
 have e : i + (((j - i).toNat : Int) - 1) * 1 = i + (((j - i).toNat : Int) - 1) := by omega
 rw [e]
 exact wpAny_bind (wpAny_newObj_type (wpAny_pure ⟨_, rfl, h⟩))
theorem T5 {l : Addr} {i j : Int} {t u v : Tok} {Q₁ : Value -> Shared -> Prop} (hl : IsRange s.heap l i j 1 t u v) (h1 : -(2 ^ 62) <= j) (h2 : j < 2 ^ 62) (h3 : -(2 ^ 62) <= i) (h4 : i < 2 ^ 62)
  (h : Q₁ (.ref s.heap.objs.size) { s with heap := s.heap.push (zy3 (i + (((j - i).toNat : Int) - 1)) (j - i).toNat (-1)) }) :
  codeAny (model prog w) A (.call (.builtin "reversed.__new__") ⟨[.type "reversed", .ref l], []⟩) (wants Q₁ E) s := by
 have hT : s.TypeIs (.ref l) "range" := ⟨_, hl, rfl⟩
 refine codeAny_of_tree ?_
 show wpAny _ A.in1 (do checkBuiltinCall "reversed.__new__" ⟨[.type "reversed", .ref l], []⟩; again (.builtin "reversed.__new__" ⟨[.type "reversed", .ref l], []⟩)) _ _ s
 refine wpAny_bind (wpAny_of_eq (F.newCall_reversed_1 _) (wpAny_pure ⟨plainId_quiet F.plain_reversed_new _, codeAny_builtin F.entry_reversed_new ?_⟩))
 rw [Around.under_plainId F.plain_reversed_new _]
 unfold Builtin.«reversed.__new__»
 refine wpAny_bind (wpAny_of_eq (newClass_reversed _) ?_)
 try dsimp only
 refine wpAny_bind (wpAny_of_eq (a := ()) (by first | rfl | kernel_rfl) ?_)
 refine wpAny_bind (wpAny_of_eq (a := ()) (by first | rfl | kernel_rfl) ?_)
 try dsimp only
 refine wpAny_bind (wpAny_specialOf hT F.slot_range_reversed.lookup ?_)
 try dsimp only
 refine wpAny_bind (wpAny_of_eq (F.slot_range_reversed.bind _) ?_)
 try dsimp only
 first
 | rw [if_neg (show ¬ ((Value.builtin "range.__reversed__" == Value.none) = true) from Bool.false_ne_true)]
 | (show wpAny _ _ (if (Value.builtin "range.__reversed__" == Value.none) = true then _ else _) _ _ _; rw [if_neg (show ¬ ((Value.builtin "range.__reversed__" == Value.none) = true) from Bool.false_ne_true)])
 refine wpAny_bind (wpAny_rule ?_)
 refine wpAny_bind (m := runValue (.call (.builtin "range.__reversed__") ⟨[.ref l], []⟩)) (show wpAny _ _ (call (.builtin "range.__reversed__") [.ref l]) _ _ _ from V9 hl h1 h2 h3 h4 ?_)
 first
 | exact wpAny_pure h
 | exact wpAny_bind (wpAny_pure (wpAny_pure h))
theorem V8 {l : Addr} {i j : Int} {t u v : Tok} {Q : Value -> Shared -> Prop} (hl : IsRange s.heap l i j 1 t u v) (h1 : -(2 ^ 62) <= j) (h2 : j < 2 ^ 62) (h3 : -(2 ^ 62) <= i) (h4 : i < 2 ^ 62)
  (h : Q (.ref s.heap.objs.size) { s with heap := s.heap.push (zy3 (i + (((j - i).toNat : Int) - 1)) (j - i).toNat (-1)) }) : wpAny (model prog w) A (call (.type "reversed") [.ref l]) Q E s := by
 refine callType_other (U := "range_iterator") (Q₁ := fun obj s₁ => obj = .ref s.heap.objs.size /\ s₁ = { s with heap := s.heap.push (zy3 (i + (((j - i).toNat : Int) - 1)) (j - i).toNat (-1)) }) (by decide +kernel) F.create_reversed ⟨_, _, F.mro_reversed⟩ F.made_reversed N1 (F.typeCall_reversed_1 _) (T5 hl h1 h2 h3 h4 ⟨rfl, rfl⟩) ?_
 rintro obj s₁ ⟨rfl, rfl⟩
 exact ⟨⟨_, Heap.get?_push_size _ rfl, rfl⟩, h⟩
end
section
variable {X : Cx}
def O3 (lo : Int) (n : Nat) : List D := (List.range n).map fun (k : Nat) => D.int (lo + ((n : Int) - 1) - (k : Int))
theorem R3 (lo : Int) (n : Nat) : (O3 lo n).length = n := by unfold O3; simp
theorem itd_down2 {K : W.Frag} {F : Hp} {lo : Int} {n : Nat} : ItD K F (Itdn (lo + ((n : Int) - 1)) n) (O3 lo n) where
 go := fun i F1 H1 a b hi => by rw [R3] at hi; exact hi
 yld := fun i F1 H1 x H2 d a b e y => by
  obtain ⟨rfl, rfl⟩ := y
  unfold O3 at e
  rw [getElem?_map] at e
  have hi : i < n := by
   rcases Nat.lt_or_ge i n with h | h
   ·exact h
   ·rw [getElem?_eq_none (by simpa using h)] at e; cases e
  rw [getElem?_range hi] at e
  cases e
  exact ⟨F1, .refl b, .int _⟩
 stop := fun F1 H1 a b => by rw [R3]; exact Nat.le_refl n
def rngD2 : List D -> Option (List D)
 | [.int i, .int j] => if (okR i && okR j) = true then some (O3 i (j - i).toNat) else none
 | _ => none
theorem pid_revR2 {tg a a2 : Expr} {m : ML} {p p2 pos pos2 : Pos} (hg : Gl X "reversed") (hm : X.mg "reversed" = none) (hg' : Gl X "range") (hm' : X.mg "range" = none) (ha : PAs X [a, a2] m) (he : starEach [a, a2] X.env = (false, eval a X.env) :: starEach [a2] X.env := by rfl) (hp2 : ∀ pos, (backTo pos (starEach [a2] X.env)).any (·.1) = false := by intro _; rfl)
  (hpl : ∀ pos, (backTo pos (starEach [] X.env)).any (·.1) = false := by intro _; rfl)
  (hs : starEach (Expr.Call (.Name "range" p2) [a, a2] [] pos2 :: []) X.env = (false, eval (Expr.Call (.Name "range" p2) [a, a2] [] pos2) X.env) :: starEach [] X.env := by rfl) :
  PId X tg (.Call (.Name "reversed" p) [.Call (.Name "range" p2) [a, a2] [] pos2] [] pos) (v5 rngD2 m) := by
 intro pins s σ H R I h
 obtain ⟨F0, H0, F, ρ, its, rl, e, q⟩ := h
 obtain ⟨ds, h1, h2⟩ := Z5 e
 have A := u8 (L5 call_rng2 hg' hm' boot_range ha (by decide) (by decide) he (hp2 _)) pa_nil hs pos pins s σ H (fun vs H1 => ∃ p i j F1 H2, vs = [.ref p] /\ ds = [.int i, .int j] /\ H2 p = none /\ H1 = upd H2 p (.rng i j) /\ Ext F H F1 H2) I ⟨F0, H0, F, ρ, ds, rl, h1, fun vs F1 H1 x1 r1 => by
  unfold rngD2 at h2
  split at h2
  ·rename_i i j
   cases r1 with
   | cons r rr =>
    cases rr with
    | cons r2 rr =>
     cases rr; cases r; cases r2
     exact ⟨i, j, rfl, fun p hp => ⟨p, i, j, F1, H1, rfl, rfl, hp, rfl, x1⟩⟩
  ·cases h2⟩
 refine Call_ (X3 I hg hm boot_reversed (PyProof.Rows.callWith_type1 (thn A fun us s1 hpat => ?_) hs (hpl _)))
 obtain ⟨vs, H1, I1, r1, q1⟩ := hpat
 obtain ⟨l, i, j, F1, H2, ev, ed, hn, eH, x1⟩ := q1
 subst ev ed eH
 obtain ⟨u, rfl, ru⟩ := V7 r1
 cases ru
 have h2 : (if (okR i && okR j) = true then some (O3 i (j - i).toNat) else none) = some its := h2
 split at h2
 case isFalse => cases h2
 rename_i hk
 cases h2
 unfold okR at hk
 simp only [Bool.and_eq_true, decide_eq_true_eq] at hk
 obtain ⟨t, u, v, eo⟩ := I1.hok l _ y3
 refine V8 (i := i) (j := j) eo hk.2.1 hk.2.2 hk.1.1 hk.1.2 ?_
 have hit : IsRangeIter (s1.heap.push (zy3 (i + (((j - i).toNat : Int) - 1)) (j - i).toNat (-1))) s1.heap.objs.size (i + (((j - i).toNat : Int) - 1)) (j - i).toNat (-1) := Heap.get?_push_size _ rfl
 refine wpAny_pyIter_rangeiter hit ?_
 have x2 : Ext F H F1 (upd H2 l (.rng i j)) := x1.trans (Ext.own x1.fh hn)
 refine ⟨s1.heap.objs.size, [s1.heap.objs.size], _, _, _, rfl, I1.kept (t' := s1.toks) fun b o e => Heap.get?_push_of_some _ e, turn_down _ (i + (((j - i).toNat : Int) - 1)) (j - i).toNat, ?_, fun b hb => ?_, q _ F1 _ x2 itd_down2⟩
 ·have e1 : (i + (((j - i).toNat : Int) - 1)) + ((0 : Nat) : Int) * (-1) = i + (((j - i).toNat : Int) - 1) := by simp
  have e2 : ((j - i).toNat : Int) - ((0 : Nat) : Int) = (j - i).toNat := by simp
  show IsRangeIter _ _ ((i + (((j - i).toNat : Int) - 1)) + ((0 : Nat) : Int) * (-1)) (((j - i).toNat : Int) - ((0 : Nat) : Int)) (-1)
  rw [e1, e2]
  exact hit
 ·have e : b = s1.heap.objs.size := by simpa using hb
  subst e
  exact I1.fpOk (Nat.le_refl _) (I1.hok.fresh (Nat.le_refl _))
end
end
section
theorem get_list {X : Cx} : PGet X (rIxL X.K) := by
 intro pins s σ H x y v u Q I rx ry h
 obtain ⟨p, xs, i, z, rfl, rfl, hq, he, q⟩ := h
 cases rx
 obtain ⟨t, rfl⟩ := ry
 obtain ⟨its, r, pl, hz⟩ := I.list hq
 obtain ⟨j, h1, h2, h3, h4, h5⟩ := atI_get he
 obtain ⟨w, ew, rw'⟩ := r.get h2
 have hl := r.length
 have hn := K3
 have fin : EP X pins σ Q w s := ⟨z, H, I, rw', q⟩
 by_cases h0 : 0 <= i
 ·have hj : i.toNat = j := by
   rw [seqIndex_of h0 h5] at h1
   exact Option.some.inj h1
  exact wpAny_getItem_list pl.isList h0 (by omega) (by rw [hj]; simpa using ew) fin
 ·have hj : (i + (its.toArray.size : Int)).toNat = j := by
   rw [seqIndex_neg (by omega) h4] at h1
   rw [size_toArray, <- hl]
   exact Option.some.inj h1
  exact wpAny_getItem_list_neg pl.isList (by omega) (by rw [size_toArray] <;> omega) (by omega) (by rw [hj]; simpa using ew) fin
@[irreducible] def zw3 (i : Nat) (ix v : ME) : MS := fun ρ => match ρ[i]? with
 | some (some (.own ds)) => (match ix ρ with
  | some (.int k) => (match ixN ds.length k with
   | some j => (match ds[j]? with
    | some (.int a) => (match v ρ with | some (.int b) => some (.nx (ρ.set i (some (.own (ds.set j (.int (a + b))))))) | _ => none)
    | _ => none)
   | none => none)
  | _ => none)
 | _ => none
section
variable {X : Cx} {a b c e : Expr} {ma mb : ME} {pos : Pos} {st : Stmt}
theorem psd_augix {i : Nat} {x : Str} {px tpos : Pos} (hv : PE X (.Name x px) (tVar i)) (hx : PD X a ma) (hb : PD X b mb)
  (ha : ∀ ov iv new, augStore a ov iv new = (do holding [new, ov, iv] (setItem ov iv new); release [new, ov, iv] []; pure .next) := by intros; rfl) :
  PSd X (.AugAssign (.Subscript (.Name x px) a tpos) .Add b pos) (zw3 i ma mb) := (ps_augS hv hx get_list hb ip_add D6 ha).imp fun Dn σ H hpat => by
 obtain ⟨F0, H0, F, ρ, o, rl, e, ok⟩ := hpat
 unfold zw3 at e
 split at e
 ·rename_i ds h1
  split at e
  ·rename_i k h2
   split at e
   ·rename_i j h3
    split at e
    ·rename_i n h4
     split at e
     ·rename_i n2 h5
      cases e
      obtain ⟨p, xs, e1, e2, e3, e4, e5⟩ := rl.own i _ h1
      refine ⟨_, e1, F0, H0, F, ρ, .int k, rl, h2, fun z F1 H1 x1 r1 => ?_⟩
      cases r1
      obtain ⟨u, hu, ru⟩ := e4.get h4
      cases ru
      have hz : ixN xs.length k = some j := by rw [e4.length]; exact h3
      refine ⟨p, xs, k, .int n, rfl, rfl, SqL.of (x1.hh _ _ e3), by unfold atI; rw [hz]; exact hu, ?_⟩
      refine ⟨F0, H0, F1, ρ, .int n2, rl.go x1, h5, fun z F2 H2 x2 r2 => ?_⟩
      cases r2
      have rl2 := (rl.go x1).go x2
      have x12 := x1.trans x2
      refine ⟨n, n2, rfl, rfl, p, xs, k, j, rfl, rfl, x12.hh _ _ e3, hz, ok F2 _ σ (rl2.write h1 e1 (Reps.set (.int (n + n2)) j (e4.mono x12.ff))) x12.ff⟩
     ·cases e
    ·cases e
   ·cases e
  ·cases e
 ·cases e
end
end
section
@[irreducible] def mpopS (i : Nat) : MS := fun ρ => match ρ[i]? with
 | some (some (.own ds)) => if 0 < ds.length then some (.nx (ρ.set i (some (.own ds.dropLast)))) else none
 | _ => none
theorem Reps.dropLast {K : W.Frag} {F : Hp} : ∀ {vs : List V} {ds : List D}, Reps K F vs ds -> Reps K F vs.dropLast ds.dropLast
 | _, _, .nil => .nil
 | _, _, .cons _ .nil => .nil
 | _, _, .cons r (.cons r2 rr) => .cons r (Reps.dropLast (.cons r2 rr))
section
variable {X : Cx} {pos : Pos}
theorem psd_popS {i : Nat} {x : Str} {px apos cpos : Pos} (hv : PE X (.Name x px) (tVar i))
  (hE : PE X (.Call (.Attribute (.Name x px) "pop" apos) [] [] cpos) (tBM0 X.K "list" rPop (tVar i))) (hs : swapsWith (.Call (.Attribute (.Name x px) "pop" apos) [] [] cpos) none pos.line X.env = pure false := by rfl) :
  PSd X (.Expr (.Call (.Attribute (.Name x px) "pop" apos) [] [] cpos) pos) (mpopS i) := (ps_expr hE hs).imp fun D σ H hpat => by
 obtain ⟨F0, H0, F, ρ, o, rl, e, ok⟩ := hpat
 unfold mpopS at e
 split at e
 ·rename_i ds h1
  obtain ⟨p, xs, e1, e2, e3, e4, e5⟩ := rl.own i _ h1
  split at e
  ·rename_i hz
   cases e
   have hl := e4.length
   exact ⟨_, e1, .inl ⟨rfl, _, SqL.of e3⟩, p, xs, _, rfl, rfl, e3, getElem?_eq_getElem (by omega), ok F _ σ (rl.write h1 e1 (Reps.dropLast e4)) (Same.refl F)⟩
  ·cases e
 ·cases e
end
end
section
theorem new_list {K : W.Frag} (hL : NoL K) {F H : Hp} {Q : VK} (s : Same F H) {ns : List Int} (ok : okT K F H Q (.fr (ns.map D.int))) : okT K hp0 H Q (.sh (.lst (ns.map D.int))) := fun v F' H' x r => by
 have nofz : ∀ b o u, F' b ≠ some (.frz o u) := fun b o u e => by have := x.nf b o u e; cases this
 cases r with
 | lst sq rs =>
  rename_i p ys
  have h2 : F' p = some (.lst ys) := by
   rcases sq with (z | ⟨o, z⟩) | ⟨o, its, m, hk, hc, _⟩
   ·exact z
   ·exact absurd z (nofz _ _ _)
   ·exact absurd hc (hL _ _ hk)
  have n2 := x.new p rfl (by rw [h2]; simp)
  rw [c3 rs] at h2
  exact ok p (ns.map V.int) F H' ⟨Same.refl _, x.hh, s.trans x.hh, fun b e q => absurd e q, fun _ _ _ z => z⟩ n2 (s.free n2) (x.fh _ _ h2) (C0 ns)
theorem new_list' {K : W.Frag} {F H : Hp} {Q : VK} (s : Same F H) {ns : List Int} (ok : okT K F H Q (.fr (ns.map D.int))) : okT K hp0 H Q (.fr (ns.map D.int)) := fun p xs F' H' x hp hF hH r => by
 rw [c3 r] at hH
 exact ok p (ns.map V.int) F H' ⟨Same.refl _, x.hh, s.trans x.hh, fun b e q => absurd e q, fun _ _ _ z => z⟩ hp (s.free hp) hH (C0 ns)
def lsn8P (m : MK) (a : List D) (i : Int) (r : List Int) : Prop := (∃ ns : List Int, a = ns.map D.int) /\ ∀ q : Addr, m [.rd q a, .sh (.int i)] = some (.sh (.lst (r.map D.int))) \/ m [.rd q a, .sh (.int i)] = some (.fr (r.map D.int))
open Classical in
@[irreducible] noncomputable def lsn8 (m : MK) : MF := fun ds => match ds with
 | [.lst a, .int i] => if h : ∃ r, lsn8P m a i r then some (.fr (h.choose.map D.int)) else none
 | _ => none
theorem lsn8_eq {m : MK} {a : List D} {i : Int} {r : List Int} (h : lsn8P m a i r) : lsn8 m [.lst a, .int i] = some (.fr (r.map D.int)) := by
 unfold lsn8
 have hx : ∃ r, lsn8P m a i r := ⟨r, h⟩
 simp only [dif_pos hx]
 rcases hx.choose_spec.2 (0 : Nat) with e | e <;> rcases h.2 (0 : Nat) with e' | e' <;> rw [e'] at e <;> injection e with e
 ·injection e with e; injection e with e; rw [e]
 ·cases e
 ·cases e
 ·injection e with e; rw [e]
theorem spR_lsn8 {K : W.Frag} (hL : NoL K) {m : MK} {vs : List V} {H : Hp} {Q : VK} {E : XK} (h : spR K 2 (lsn8 m) vs H Q E) : spK K 2 m vs H Q E := by
 obtain ⟨hl, F, ds, r, s, rs, e, ok⟩ := h
 unfold lsn8 at e
 split at e
 ·rename_i a i
  split at e
  ·rename_i hx
   cases e
   obtain ⟨⟨ns, h1⟩, h3⟩ := hx.choose_spec
   cases rs with
   | cons r1 rs =>
    cases rs with
    | cons r2 rs =>
     cases rs
     cases r2
     rw [h1] at r1
     obtain ⟨q, rq⟩ := rep_rd hL s r1
     rw [<- h1] at rq
     rcases h3 q with h4 | h4
     ·exact ⟨hl, hp0, _, _, (fun _ _ z => by cases z), .cons rq (.cons (x := .sh (.int i)) (.int i) .nil), h4, new_list hL s ok⟩
     ·exact ⟨hl, hp0, _, _, (fun _ _ z => by cases z), .cons rq (.cons (x := .sh (.int i)) (.int i) .nil), h4, new_list' s ok⟩
  ·cases e
 ·cases e
theorem QHd.lsn8 {P : Program} {w : World} {K : W.Frag} {mg : Str -> Option Value} {base : Heap} {k : Nat} {x : Str} {ps : List Str} {m : MK} (hL : NoL K) (h : QHd P w K mg base k x ps (spK K 2 m)) : QHd P w K mg base k x ps (spR K 2 (L2.lsn8 m)) := by
 obtain ⟨f, fd, G, r⟩ := h
 exact ⟨f, fd, G.imp fun _ _ _ _ z => spR_lsn8 hL z, r⟩
end
section
abbrev lc2 (elt tg iter tg2 iter2 : Expr) (sc : Scope) (pos : Pos) : Expr := .ListComp elt [⟨tg, iter, [], 0⟩, ⟨tg2, iter2, [], 0⟩] sc pos
theorem compTurn2_0 (elt tg iter tg2 iter2 : Expr) (sc : Scope) (pos : Pos) (it acc : Value) (env : Env) :
  compTurn (lc2 elt tg iter tg2 iter2 sc pos) 0 it acc env = (standAt iter.pos >>= fun _ => pyNext it >>= fun r => match r with
   | none => pure (.done .next)
   | some v => letOwnedTupleGo tg it v >>= fun _ => assign tg env v >>= fun _ =>
    eval iter2 env >>= fun x => standAt iter2.pos >>= fun _ => foldedSetIterable iter2 env x >>= fun x => holding [x] (pyIter x) >>= fun it2 =>
     runOwn (.compStart (lc2 elt tg iter tg2 iter2 sc pos) 1 it2 acc env) env >>= fun _ => again (.compLoop (lc2 elt tg iter tg2 iter2 sc pos) 0 it acc env)) := by rfl
theorem compTurn2_1 (elt tg iter tg2 iter2 : Expr) (sc : Scope) (pos : Pos) (it acc : Value) (env : Env) :
  compTurn (lc2 elt tg iter tg2 iter2 sc pos) 1 it acc env = (standAt iter2.pos >>= fun _ => pyNext it >>= fun r => match r with
   | none => pure (.done .next)
   | some v => letOwnedTupleGo tg2 it v >>= fun _ => assign tg2 env v >>= fun _ =>
    (eval elt env >>= fun x => call (.builtin "list.append") [acc, x] >>= fun _ => pure ()) >>= fun _ => again (.compLoop (lc2 elt tg iter tg2 iter2 sc pos) 1 it acc env)) := by rfl
section
variable {prog : Program} {w : World} {A : Around} {R : Result -> Shared -> Prop} {s : Shared} {elt tg iter tg2 iter2 : Expr} {sc : Scope} {pos : Pos} {it acc : Value} {env : Env}
theorem zv8 (h0 : codeAny (model prog w) A (.compLoop (lc2 elt tg iter tg2 iter2 sc pos) 1 it acc env) R s)
  (h : wpAny (model prog w) A (pyIter it) (fun it' s' => codeAny (model prog w) A (.compLoop (lc2 elt tg iter tg2 iter2 sc pos) 1 it' acc env) R s') (notedBy (model prog w) A env fun x s' => R (.error x) s') s) :
  codeAny (model prog w) A (.compStart (lc2 elt tg iter tg2 iter2 sc pos) 1 it acc env) R s := by
 refine codeAny_of_tree ?_
 show wpAny _ _ ((compStart (lc2 elt tg iter tg2 iter2 sc pos) 1 it acc env).onRaise (fun x => do noteFrame x env; standAt theWindowsPlace)) _ _ s
 refine wpAny_notedAt ?_
 unfold compStart
 show wpAny _ _ (ask >>= _) _ _ s
 refine wpAny_bind (wpAny_askSetting (wpAny_ite ?_))
 split
 ·first
   | exact wpAny_bind (wpAny_pure (wpAny_pure (And.intro rfl h0)))
   | exact wpAny_pure (And.intro rfl h0)
 ·first
   | exact wpAny_bind (wpAny_rule (wpAny_bind (wpAny_standAt (wpAny_bind (wpAny_mono h (fun it' s' h' => wpAny_pure (And.intro rfl h')) fun _ _ x => x)))))
   | (refine wpAny_bind (wpAny_rule ?_); show wpAny _ _ (standAt iter2.pos >>= _) _ _ s; exact wpAny_bind (wpAny_standAt (wpAny_bind (wpAny_mono h (fun it' s' h' => wpAny_pure (And.intro rfl h')) fun _ _ x => x))))
theorem compLoop2_1 (I : Nat -> Shared -> Prop)
  (turn : ∀ n s, I n s -> wpAny (model prog w) A (pyNext it) (fun r s₁ => match r with
   | none => R (.ok .next) s₁
   | some v => wpAny (model prog w) A (letOwnedTupleGo tg2 it v) (fun _ s₁' => wpAny (model prog w) A (assign tg2 env v) (fun _ s₂ =>
     wpAny (model prog w) A (eval elt env) (fun x s₄ =>
       wpAny (model prog w) A (call (.builtin "list.append") [acc, x]) (fun _ s₅ => ∃ m, m < n /\ I m s₅) noE s₄) noE s₂) noE s₁') noE s₁) noE s)
  (n : Nat) (h : I n s) : codeAny (model prog w) A (.compLoop (lc2 elt tg iter tg2 iter2 sc pos) 1 it acc env) R s := by
 refine codeAny_loop rfl I (fun n s hI => ?_) n h
 show wpAny _ A ((compTurn (lc2 elt tg iter tg2 iter2 sc pos) 1 it acc env).onRaise (fun x => do noteFrame x env; theTreesLotGoes x)) _ _ s
 refine wpAny_noted ?_
 rw [compTurn2_1]
 refine wpAny_bind (wpAny_standAt (wpAny_bind (toE (turn n s hI) (fun r s₁ h₁ => ?_))))
 cases r with
 | none => exact wpAny_pure h₁
 | some v =>
  refine wpAny_bind (toE h₁ fun _ s₁' h₁' => ?_)
  refine wpAny_bind (toE h₁' (fun _ s₂ h₂ => ?_))
  exact wpAny_bind (wpAny_bind (toE h₂ (fun x s₄ h₄ => wpAny_bind (toE h₄ (fun _ s₅ h₅ => wpAny_pure (wpAny_pure ⟨rfl, h₅⟩))))))
theorem compLoop2_0 (I : Nat -> Shared -> Prop) (hs2 : ∀ x, foldedSetIterable iter2 env x = pure x)
  (turn : ∀ n s, I n s -> wpAny (model prog w) A (pyNext it) (fun r s₁ => match r with
   | none => R (.ok .next) s₁
   | some v => wpAny (model prog w) A (letOwnedTupleGo tg it v) (fun _ s₁' => wpAny (model prog w) A (assign tg env v) (fun _ s₂ =>
     wpAny (model prog w) A (eval iter2 env) (fun x s₃ => wpAny (model prog w) A (pyIter x) (fun it2 s₄ =>
       codeAny (model prog w) A (.compStart (lc2 elt tg iter tg2 iter2 sc pos) 1 it2 acc env) (fun r s₅ => (∃ f, r = .ok f) /\ ∃ m, m < n /\ I m s₅) s₄) noE s₃) noE s₂) noE s₁') noE s₁) noE s)
  (n : Nat) (h : I n s) : codeAny (model prog w) A (.compLoop (lc2 elt tg iter tg2 iter2 sc pos) 0 it acc env) R s := by
 refine codeAny_loop rfl I (fun n s hI => ?_) n h
 show wpAny _ A ((compTurn (lc2 elt tg iter tg2 iter2 sc pos) 0 it acc env).onRaise (fun x => do noteFrame x env; theTreesLotGoes x)) _ _ s
 refine wpAny_noted ?_
 rw [compTurn2_0]
 refine wpAny_bind (wpAny_standAt (wpAny_bind (toE (turn n s hI) (fun r s₁ h₁ => ?_))))
 cases r with
 | none => exact wpAny_pure h₁
 | some v =>
  refine wpAny_bind (toE h₁ fun _ s₁' h₁' => ?_)
  refine wpAny_bind (toE h₁' (fun _ s₂ h₂ => ?_))
  refine wpAny_bind (toE h₂ fun x s₃ h₃ => ?_)
  refine wpAny_bind (wpAny_standAt ?_)
  refine wpAny_bind (wpAny_of_eq (hs2 x) ?_)
  refine wpAny_bind (wpAny_holding (toE h₃ fun it2 s₄ h₄ => ?_))
  refine wpAny_bind (wpAny_runOwn (h := none) (codeAny_mono (show codeAny (model prog w) (A.mark none) _ _ _ from h₄) fun r s₅ ⟨⟨f, hf⟩, h₅⟩ => ?_))
  subst hf
  exact wpAny_pure ⟨rfl, h₅⟩
end
def tComp2 (src : List (Option Nat)) (wi : TI) (g : TG) (wi2 : TI) (g2 : TG) (te : TE) : TE := fun σ H Q => wi σ H fun J H1 => ∀ D, H1 D = none -> ∃ W : Nat -> Nat -> St -> Hp -> Prop, (∃ m, W 0 m (blk0 src σ) (upd H1 D (.lst []))) /\ ∀ i m σ' H', W i m σ' H' ->
 (J.stop i H' /\ Q (.ref D) H') \/ (J.go i H' /\ ∃ N : St -> Hp -> Prop, (∀ σ2 H2, N σ2 H2 -> ∃ m', m' < m /\ W (i + 1) m' σ2 H2) /\ ∀ x H2, J.yld i H' x H2 -> g x σ' H2 fun σ3 H3 => wi2 σ3 H3 fun J2 H4 => ∃ W2 : Nat -> Nat -> St -> Hp -> Prop, (∃ m, W2 0 m σ3 H4) /\ ∀ j m2 σ5 H5, W2 j m2 σ5 H5 ->
  (J2.stop j H5 /\ N σ5 H5) \/ (J2.go j H5 /\ ∃ N2 : St -> Hp -> Prop, (∀ σ2 H2, N2 σ2 H2 -> ∃ m', m' < m2 /\ W2 (j + 1) m' σ2 H2) /\ ∀ y H6, J2.yld j H5 y H6 -> g2 y σ5 H6 fun σ7 H7 => te σ7 H7 fun z H8 => ∃ xs, H8 D = some (.lst xs) /\ xs.length < sizeLine /\ N2 σ7 (upd H8 D (.lst (xs ++ [z])))))
section
variable {X : Cx}
theorem comp_in2 {tg iter tg2 iter2 elt : Expr} {sc : Scope} {pos : Pos} {g2 : TG} {te : TE} (hc : X.calm = true) (hg : PG X tg2 g2) (he : PE X elt te) (hxe : X.xe = noE)
  {pins : List (Addr × Obj)} {σ : St} {H : Hp} {s : Shared} {it D : Addr} {fp : List Addr} {tn : Nat -> Heap -> Prop} {J : It} {Nx : St -> Hp -> Prop}
  (I : Inv X pins σ H s) (T : Turn X.prog X.w X.K tg2 J fp it tn) (st : tn 0 s.heap) (hf : ∀ b ∈ fp, FpOk X pins H b)
  (W : Nat -> Nat -> St -> Hp -> Prop) {m0 : Nat} (w0 : W 0 m0 σ H) (turn : ∀ j m2 σ5 H5, W j m2 σ5 H5 ->
  (J.stop j H5 /\ Nx σ5 H5) \/ (J.go j H5 /\ ∃ N2 : St -> Hp -> Prop, (∀ σ2 H2, N2 σ2 H2 -> ∃ m', m' < m2 /\ W (j + 1) m' σ2 H2) /\ ∀ y H6, J.yld j H5 y H6 -> g2 y σ5 H6 fun σ7 H7 => te σ7 H7 fun z H8 => ∃ xs, H8 D = some (.lst xs) /\ xs.length < sizeLine /\ N2 σ7 (upd H8 D (.lst (xs ++ [z]))))) :
  codeAny (model X.prog X.w) X.A (.compLoop (lc2 elt tg iter tg2 iter2 sc pos) 1 (.ref it) (.ref D) X.env) (fun r s' => (∃ f, r = .ok f) /\ ∃ σ' H', Inv X pins σ' H' s' /\ Nx σ' H') s := by
 have stat : ∀ {H' : Hp}, (∀ b ∈ fp, H' b = none) -> ∀ b ∈ fp, FpOk X pins H' b := fun hn b hb => ⟨hn b hb, (hf b hb).2⟩
 refine compLoop2_1 (fun n s' => ∃ i σ' H', Inv X pins σ' H' s' /\ tn i s'.heap /\ (∀ b ∈ fp, H' b = none) /\ W i n σ' H') ?_ m0 ⟨0, σ, H, I, st, fun b hb => (hf b hb).1, w0⟩
 rintro n s3 ⟨i, σ3, H3, I3, st3, fr3, w3⟩
 rcases turn i n σ3 H3 w3 with ⟨stop, qn⟩ | ⟨go, N', hN', step⟩
 ·refine thn (T.done X rfl rfl rfl hc i pins s3 σ3 H3 noE I3 (stat fr3) st3 stop) fun r s4 ⟨hr, I4⟩ => ?_
  subst hr
  exact ⟨⟨_, rfl⟩, σ3, H3, I4, qn⟩
 ·refine thn (T.item X rfl rfl rfl hc i pins s3 σ3 H3 noE I3 (stat fr3) st3 go) fun r s4 ⟨u, hr, h4⟩ => ?_
  subst hr
  refine thn h4 fun _ s5 hpat => ?_
  obtain ⟨x, H5, I5, r5, y5, st5, fr5⟩ := hpat
  have I5' := I5.pinned (stat fr5) (T.obj _ _ st5)
  have again : ∀ {s7 : Shared} {σ7 : St} {H7 : Hp}, Inv X (pins ++ P4 fp s5.heap) σ7 H7 s7 -> N' σ7 H7 -> ∃ m, m < n /\ ∃ i σ' H', Inv X pins σ' H' s7 /\ tn i s7.heap /\ (∀ b ∈ fp, H' b = none) /\ W i m σ' H' := fun {s7 σ7 H7} I7 n7 => by
   obtain ⟨m', hm, w7⟩ := hN' σ7 H7 n7
   refine ⟨m', hm, i + 1, σ7, H7, I7.unpinned, T.keep _ _ _ st5 fun b hb o e => (I7.pin (b, o) (mem_append_right _ (mem_append_right _ (m5 hb e)))).1, fun b hb => ?_, w7⟩
   obtain ⟨o, e, d⟩ := T.obj _ _ st5 b hb
   exact (I7.pin (b, o) (mem_append_right _ (mem_append_right _ (m5 hb e)))).2.1
  refine thn (hxe ▸ hg _ s5 σ3 H5 x u _ I5' r5 (step x H5 y5)) fun _ s6 hpat => ?_
  obtain ⟨σ6, H6, I6, q6⟩ := hpat
  refine thn (hxe ▸ he _ s6 σ6 H6 _ I6 q6) fun y s8 hpat => ?_
  obtain ⟨v8, H8, I8, r8, q8⟩ := hpat
  obtain ⟨xs, hD8, hz8, n8⟩ := q8
  refine thn (hxe ▸ S4 _ s8 σ6 H8 (.ref D) [v8] (.ref D) [y] (fun _ H9 => H9 = upd H8 D (.lst (xs ++ [v8]))) I8 rfl (.cons r8 .nil) ⟨_, xs, v8, rfl, rfl, hD8, hz8, rfl⟩) fun _ s9 hpat => ?_
  obtain ⟨v9, H9, I9, r9, q9⟩ := hpat
  subst q9
  exact again I9 n8
theorem comp_block2 {sc : Scope} {N : List Str} {src : List (Option Nat)} {tg elt iter tg2 iter2 : Expr} {pos : Pos} {g : TG} {wi2 : TI} {g2 : TG} {te : TE} (B : Blk X sc N src) (hc : X.calm = true)
  (hg : ∀ C fp s H, PG (t9 X sc C N fp s H) tg g) (hi2 : ∀ C fp s H, PI (t9 X sc C N fp s H) tg2 iter2 wi2) (hg2 : ∀ C fp s H, PG (t9 X sc C N fp s H) tg2 g2) (hs2 : ∀ C fp s H x, foldedSetIterable iter2 (t9 X sc C N fp s H).env x = pure x) (he : ∀ C fp s H, PE (t9 X sc C N fp s H) elt te)
  {pins : List (Addr × Obj)} {σ : St} {H : Hp} {s : Shared} {it : Addr} {fp : List Addr} {tn : Nat -> Heap -> Prop} {J : It} {Q : VK} {E : Value -> Shared -> Prop}
  (I : Inv X pins σ H s) (T : Turn X.prog X.w X.K tg J fp it tn) (st : tn 0 s.heap) (hf : ∀ b ∈ fp, FpOk X pins H b)
  (hW : ∀ D, H D = none -> ∃ W : Nat -> Nat -> St -> Hp -> Prop, (∃ m, W 0 m (blk0 src σ) (upd H D (.lst []))) /\ ∀ i m σ' H', W i m σ' H' ->
   (J.stop i H' /\ Q (.ref D) H') \/ (J.go i H' /\ ∃ N : St -> Hp -> Prop, (∀ σ2 H2, N σ2 H2 -> ∃ m', m' < m /\ W (i + 1) m' σ2 H2) /\ ∀ x H2, J.yld i H' x H2 -> g x σ' H2 fun σ3 H3 => wi2 σ3 H3 fun J2 H4 => ∃ W2 : Nat -> Nat -> St -> Hp -> Prop, (∃ m, W2 0 m σ3 H4) /\ ∀ j m2 σ5 H5, W2 j m2 σ5 H5 ->
    (J2.stop j H5 /\ N σ5 H5) \/ (J2.go j H5 /\ ∃ N2 : St -> Hp -> Prop, (∀ σ2 H2, N2 σ2 H2 -> ∃ m', m' < m2 /\ W2 (j + 1) m' σ2 H2) /\ ∀ y H6, J2.yld j H5 y H6 -> g2 y σ5 H6 fun σ7 H7 => te σ7 H7 fun z H8 => ∃ xs, H8 D = some (.lst xs) /\ xs.length < sizeLine /\ N2 σ7 (upd H8 D (.lst (xs ++ [z]))))))
  {RR : Value -> Addr -> Result -> Shared -> Prop}
  (hRR : ∀ D C H' s' m', Inv X pins σ H' s' -> s'.heap.Ns C m' -> H' C = none -> s.heap.objs.size <= C -> Q (.ref D) H' -> RR (.ref D) C (.ok .next) s') :
  wpAny (model X.prog X.w) X.A (newList []) (fun acc s₃ => wpAny (model X.prog X.w) X.A (newFunctionEnv sc X.env.globals (clOf X.env.cells sc.names []) [] X.env.qual none .none (some X.env)) (fun cenv s₄ =>
   codeAny (model X.prog X.w) X.A (.compStart (lc2 elt tg iter tg2 iter2 sc pos) 0 (.ref it) acc { cenv with scope := relabel sc X.env }) (RR acc cenv.locals) s₄) E s₃) E s := by
 refine wpAny_newObj_type (wpAny_newFunctionEnv B.nocell (by intro y hy; simp at hy) (fun h₁ hns₁ hsb₁ => ?_) B.kind)
 dsimp only at hns₁ hsb₁ ⊢
 generalize hH2 : s.heap.push { cls := .type "list", dict := none, data := .seq ([] : List Value).toArray } = H2 at hns₁ hsb₁ ⊢
 have hC : H2.objs.size = s.heap.objs.size + 1 := by rw [<- hH2, Heap.size_push]
 have hDC : s.heap.objs.size ≠ H2.objs.size := by rw [hC]; exact Nat.ne_of_lt (Nat.lt_succ_self _)
 have hCle : s.heap.objs.size <= H2.objs.size := by rw [hC]; exact Nat.le_succ _
 have below : ∀ b, b < s.heap.objs.size -> b ≠ H2.objs.size := fun b hb => by rw [hC]; exact Nat.ne_of_lt (Nat.lt_succ_of_lt hb)
 have old : ∀ b o, s.heap.get? b = some o -> h₁.get? b = some o := fun b o e => hsb₁.extBut b o (below b (Heap.lt_size e)) (Heap.get?_push_of_some _ (hH2 ▸ Heap.get?_push_of_some _ e))
 have hacc : h₁.get? s.heap.objs.size = some { cls := .type "list", data := .seq #[] 0 } := hsb₁.extBut _ _ hDC (Heap.get?_push_of_some _ (hH2 ▸ Heap.get?_push_size _ rfl))
 have hfo : ∀ b ∈ fp, ∃ o, s.heap.get? b = some o := fun b hb => by obtain ⟨o, e, _⟩ := T.obj _ _ st b hb; exact ⟨o, e⟩
 have st1 : tn 0 h₁ := T.keep _ _ _ st fun b _ o e => old b o e
 obtain ⟨W, ⟨m0, w0⟩, turn⟩ := hW s.heap.objs.size I.fresh
 have I1 := zu2 (t := s.toks + ([] : List (Str × Value)).length) B I hc hf hfo old (Nat.le_refl _) hacc hns₁ hCle hDC
 have stat : ∀ {H' : Hp}, (∀ b ∈ fp, H' b = none) -> ∀ b ∈ fp, FpOk (t9 X sc H2.objs.size N fp s H) [] H' b := fun {H'} hn b hb => by
  obtain ⟨f0, f1, f2, f3, f4, f5⟩ := hf b hb
  refine ⟨hn b hb, I1.ok.exf b hb |>.1, I1.ok.exfs b hb, .inl hb, fun x c e => f4 x c (W8 e), fun p hp => absurd (show p ∈ ([] : List (Addr × Obj)) ++ [] from hp) (by simp)⟩
 have hfD : ∀ b ∈ fp, b ≠ s.heap.objs.size := fun b hb z => by
  obtain ⟨o, e⟩ := hfo b hb
  exact absurd (Heap.lt_size e) (by rw [z]; exact Nat.lt_irrefl _)
 have loop : ∀ s₃ : Shared, s₃ = { s with heap := h₁, toks := s.toks + ([] : List (Str × Value)).length } ->
   codeAny (model X.prog X.w) X.A (.compLoop (lc2 elt tg iter tg2 iter2 sc pos) 0 (.ref it) (.ref s.heap.objs.size) (compEnvC sc (clOf X.env.cells sc.names []) H2.objs.size X.env))
    (RR (.ref s.heap.objs.size) H2.objs.size) s₃ := by
  rintro s₃ rfl
  refine compLoop2_0 (I := fun n s' => ∃ i σ' H', Inv (t9 X sc H2.objs.size N fp s H) [] σ' H' s' /\ tn i s'.heap /\ (∀ b ∈ fp, H' b = none) /\ W i n σ' H') (hs2 H2.objs.size fp s H) ?_ m0
   ⟨0, _, _, I1, st1, fun b hb => by rw [y0 (hfD b hb)]; exact (hf b hb).1, w0⟩
  rintro n s3 ⟨i, σ3, H3, I3, st3, fr3, w3⟩
  rcases turn i n σ3 H3 w3 with ⟨stop, qn⟩ | ⟨go, N', hN', step⟩
  ·refine thn (T.done (t9 X sc H2.objs.size N fp s H) rfl rfl rfl rfl i [] s3 σ3 H3 noE I3 (stat fr3) st3 stop) fun r s4 ⟨hr, I4⟩ => ?_
   subst hr
   obtain ⟨m4, hn4, _⟩ := id I4.loc
   refine hRR _ _ H3 s4 m4 ?_ hn4 I4.free hCle qn
   exact I.call' (ch := fp) I4.os I4.base I4.hok I4.bare fun b hb => ⟨(hf b hb).2.2.2.1, (hf b hb).2.1, (hf b hb).2.2.2.2.1, (hf b hb).2.2.2.2.2⟩
  ·refine thn (T.item (t9 X sc H2.objs.size N fp s H) rfl rfl rfl rfl i [] s3 σ3 H3 noE I3 (stat fr3) st3 go) fun r s4 ⟨u, hr, h4⟩ => ?_
   subst hr
   refine thn h4 fun _ s5 hpat => ?_
   obtain ⟨x, H5, I5, r5, y5, st5, fr5⟩ := hpat
   have I5' := I5.pinned (stat fr5) (T.obj _ _ st5)
   have again : ∀ {s7 : Shared} {σ7 : St} {H7 : Hp}, Inv (t9 X sc H2.objs.size N fp s H) ([] ++ P4 fp s5.heap) σ7 H7 s7 -> N' σ7 H7 -> ∃ m, m < n /\ ∃ i σ' H', Inv (t9 X sc H2.objs.size N fp s H) [] σ' H' s7 /\ tn i s7.heap /\ (∀ b ∈ fp, H' b = none) /\ W i m σ' H' := fun {s7 σ7 H7} I7 n7 => by
    obtain ⟨m', hm, w7⟩ := hN' σ7 H7 n7
    refine ⟨m', hm, i + 1, σ7, H7, I7.unpinned, T.keep _ _ _ st5 fun b hb o e => (I7.pin (b, o) (mem_append_right _ (mem_append_right _ (m5 hb e)))).1, fun b hb => ?_, w7⟩
    obtain ⟨o, e, d⟩ := T.obj _ _ st5 b hb
    exact (I7.pin (b, o) (mem_append_right _ (mem_append_right _ (m5 hb e)))).2.1
   refine thn (hg _ _ _ _ _ s5 σ3 H5 x u _ I5' r5 (step x H5 y5)) fun _ s6 hpat => ?_
   obtain ⟨σ6, H6, I6, q6⟩ := hpat
   refine thn (hi2 _ _ _ _ _ s6 σ6 H6 _ I6 q6) fun xv s7 h7 => thn h7 fun itv s8 h8 => ?_
   obtain ⟨it2, fp2, tn2, J2, H8, rfl, I8, T2, st8, f8, W2, ⟨m2, w2⟩, turn2⟩ := h8
   have inner : codeAny (model X.prog X.w) X.A (.compLoop (lc2 elt tg iter tg2 iter2 sc pos) 1 (.ref it2) (.ref s.heap.objs.size) (compEnvC sc (clOf X.env.cells sc.names []) H2.objs.size X.env)) (fun r s₅ => (∃ f, r = .ok f) /\ ∃ m, m < n /\ ∃ i σ' H', Inv (t9 X sc H2.objs.size N fp s H) [] σ' H' s₅ /\ tn i s₅.heap /\ (∀ b ∈ fp, H' b = none) /\ W i m σ' H') s8 :=
    codeAny_mono (comp_in2 (X := t9 X sc H2.objs.size N fp s H) rfl (hg2 _ _ _ _) (he _ _ _ _) rfl I8 T2 st8 f8 W2 w2 turn2) fun r s9 ⟨hr, σ9, H9, I9, n9⟩ => ⟨hr, again I9 n9⟩
   refine zv8 inner (toE (T2.self X.A 0 s8 (fun v s' => v = .ref it2 /\ s' = s8) noE st8 ⟨rfl, rfl⟩) fun v s' hpat => ?_)
   obtain ⟨e1, e2⟩ := hpat
   subst e1; subst e2
   exact inner
 refine codeAny_compStart_list (loop _ rfl) (toE (T.self X.A 0 { s with heap := h₁, toks := s.toks + ([] : List (Str × Value)).length } (fun v s' => v = .ref it /\ s' = { s with heap := h₁, toks := s.toks + ([] : List (Str × Value)).length }) noE st1 ⟨rfl, rfl⟩) fun v s' hpat => ?_)
 obtain ⟨e1, e2⟩ := hpat
 subst e1; subst e2
 exact loop _ rfl
theorem ps_setC2 {i : Nat} {y : Str} {py : Pos} {sc : Scope} {N : List Str} {src : List (Option Nat)} {tg elt iter tg2 iter2 : Expr} {pos spos : Pos} {wi : TI} {g : TG} {wi2 : TI} {g2 : TG} {te : TE} (hN : X.N.Nodup) (hi' : X.N[i]? = some y) (hx : Loc X.env.scope y)
  (B : Blk X sc N src) (hc : X.calm = true)
  (hi : PI X tg iter wi) (hg : ∀ C fp s H, PG (t9 X sc C N fp s H) tg g) (hi2 : ∀ C fp s H, PI (t9 X sc C N fp s H) tg2 iter2 wi2) (hg2 : ∀ C fp s H, PG (t9 X sc C N fp s H) tg2 g2) (he : ∀ C fp s H, PE (t9 X sc C N fp s H) elt te)
  (hsw : swapsWith (lc2 elt tg iter tg2 iter2 sc pos) (some (.Name y py)) spos.line X.env = pure true := by rfl)
  (hs : ∀ x, foldedSetIterable iter X.env x = pure x := by intro _; rfl) (hs2 : ∀ C fp s H x, foldedSetIterable iter2 (t9 X sc C N fp s H).env x = pure x := by intro _ _ _ _ _; rfl) (hf : X.fn y = true \/ X.env.scope.names.lookup y = some .local := by first | exact .inl rfl | exact .inr rfl | assumption) :
  PS X (.Assign [.Name y py] (lc2 elt tg iter tg2 iter2 sc pos) spos) (tAsg (tComp2 src wi g wi2 g2 te) (S8 i)) := by
 intro pins s σ H Dn I h
 rw [exec_Assign_Name_used _ _ _ _ hsw]
 refine wpAny_bind (wpAny_standAt (wpAny_bind ?_))
 show wpAny _ _ (do let _ ← comprehension (lc2 elt tg iter tg2 iter2 sc pos) sc X.env _ (newList []) false (eval iter X.env) (some (assign (.Name y py) X.env))) _ _ s
 refine wpAny_bind (wpAny_mono (wpAny_comprehension_free (use := some (assign (.Name y py) X.env)) (Q := fun _ s' => SP X pins Dn .next s') rfl hs (B.cl I.ok) B.kind B.names
  (wpAny_mono (hi pins s σ H _ I h) (fun xv s₁ h₁ => wpAny_mono h₁ (fun itv s₂ h₂ => ?_) fun _ _ e => e) fun _ _ e => e)) (fun _ s' hq => wpAny_pure (wpAny_pure hq)) fun _ _ e => e)
 obtain ⟨it, fp, tn, J, H2, rfl, I2, T, st2, f2, hW⟩ := h₂
 refine comp_block2 (RR := fun acc C => compPost (model X.prog X.w) X.A X.xe (some (assign (.Name y py) X.env)) (fun _ s' => SP X pins Dn .next s') acc C) (Q := fun x H1 => S8 i x σ H1 Dn.nx) B hc hg hi2 hg2 hs2 he I2 T st2 f2 hW ?_
 intro D C H' s' m' I' hn hC hCs q
 show wpAny _ _ (assign (.Name y py) X.env (.ref D)) _ _ _
 refine wpAny_assign_Name (T8 I' hN hi' hx (v := .ref D) rfl (fun s'' I'' hpat => ?_) hf)
 obtain ⟨a, hsb, ha⟩ := hpat
 have hCa : C ≠ a := fun z => by
  rcases ha with ha | ha
  ·have := I2.lt; rw [<- ha, <- z] at this
   exact absurd (Nat.lt_of_lt_of_le this hCs) (Nat.lt_irrefl _)
  ·obtain ⟨v, qv⟩ := I2.cell y a ha
   exact absurd (Nat.lt_of_lt_of_le qv.lt (by rw [<- z]; exact hCs)) (Nat.lt_irrefl _)
 exact ⟨m', hn.sameBut hsb hCa, fun h'' hs'' => ⟨_, H', I''.letGo ⟨_, _, I2⟩ hCs hC hs'', q⟩⟩
end
def d8 (g : Tg) (elt : ME) : List D -> Ro -> List D -> Option (Ro × List D)
 | [], ρ, acc => some (ρ, acc)
 | d :: ds, ρ, acc => match tgD g d ρ with
  | some ρ1 => match elt ρ1 with
   | some x => if acc.length < sizeLine then d8 g elt ds ρ1 (acc ++ [x]) else none
   | none => none
  | none => none
def Z9 (g : Tg) (mi2 : ML) (g2 : Tg) (elt : ME) : List D -> Ro -> List D -> Option (List D)
 | [], _, acc => some acc
 | d :: ds, ρ, acc => match tgD g d ρ with
  | some ρ1 => match mi2 ρ1 with
   | some its => match d8 g2 elt its ρ1 acc with
    | some z => Z9 g mi2 g2 elt ds z.1 z.2
    | none => none
   | none => none
  | none => none
@[irreducible] def T4 (src : List (Option Nat)) (mi : ML) (g : Tg) (mi2 : ML) (g2 : Tg) (elt : ME) : ML := fun ρ => (mi ρ).bind fun its => Z9 g mi2 g2 elt its (O8 src ρ) []
theorem compDS_cons {g : Tg} {elt : ME} {d : D} {ds acc : List D} {ρ : Ro} {o : Ro × List D} (h : d8 g elt (d :: ds) ρ acc = some o) : ∃ ρ1 x, tgD g d ρ = some ρ1 /\ elt ρ1 = some x /\ acc.length < sizeLine /\ d8 g elt ds ρ1 (acc ++ [x]) = some o := by
 rw [d8] at h
 cases h2 : tgD g d ρ with
 | none => rw [h2] at h; cases h
 | some ρ1 =>
  rw [h2] at h
  simp only at h
  cases h4 : elt ρ1 with
  | none => rw [h4] at h; cases h
  | some x =>
   rw [h4] at h
   simp only at h
   by_cases hz : acc.length < sizeLine
   ·rw [if_pos hz] at h; exact ⟨ρ1, x, rfl, h4, hz, h⟩
   ·rw [if_neg hz] at h; cases h
theorem comp2D_cons {g : Tg} {mi2 : ML} {g2 : Tg} {elt : ME} {d : D} {ds acc out : List D} {ρ : Ro} (h : Z9 g mi2 g2 elt (d :: ds) ρ acc = some out) : ∃ ρ1 its z, tgD g d ρ = some ρ1 /\ mi2 ρ1 = some its /\ d8 g2 elt its ρ1 acc = some z /\ Z9 g mi2 g2 elt ds z.1 z.2 = some out := by
 rw [Z9] at h
 cases h2 : tgD g d ρ with
 | none => rw [h2] at h; cases h
 | some ρ1 =>
  rw [h2] at h
  simp only at h
  cases h4 : mi2 ρ1 with
  | none => rw [h4] at h; cases h
  | some its =>
   rw [h4] at h
   simp only at h
   cases h5 : d8 g2 elt its ρ1 acc with
   | none => rw [h5] at h; cases h
   | some z => rw [h5] at h; exact ⟨ρ1, its, z, rfl, h4, h5, h⟩
theorem comp2_loopR {K : PySem.W.Frag} {src : List (Option Nat)} {g : Tg} {mi2 : ML} {g2 : Tg} {elt : ME} {its out : List D} {F1 H1 B : Hp} {σ : St} {ρb : Ro} {p : Addr} {J : It} {Q : VK} (f1 : Same F1 H1) (hp : H1 p = none) (rb : Rl K F1 (upd B p (.lst [])) F1 (upd H1 p (.lst [])) (blk0 src σ) ρb) (nr : NrP p ρb) (I : ItD K F1 J its) (e : Z9 g mi2 g2 elt its ρb [] = some out)
  (q : ∀ xs F' H', Ext F1 H1 F' H' -> F' p = none -> H' p = some (.lst xs) -> Reps K F' xs out -> Q (.ref p) H') :
  ∃ W : Nat -> Nat -> St -> Hp -> Prop, (∃ m, W 0 m (blk0 src σ) (upd H1 p (.lst []))) /\ ∀ i m σ' H', W i m σ' H' ->
   (J.stop i H' /\ Q (.ref p) H') \/ (J.go i H' /\ ∃ N : St -> Hp -> Prop, (∀ σ2 H2, N σ2 H2 -> ∃ m', m' < m /\ W (i + 1) m' σ2 H2) /\ ∀ x H2, J.yld i H' x H2 -> TGd K g x σ' H2 fun σ3 H3 => TId K mi2 σ3 H3 fun J2 H4 => ∃ W2 : Nat -> Nat -> St -> Hp -> Prop, (∃ m, W2 0 m σ3 H4) /\ ∀ j m2 σ5 H5, W2 j m2 σ5 H5 ->
    (J2.stop j H5 /\ N σ5 H5) \/ (J2.go j H5 /\ ∃ N2 : St -> Hp -> Prop, (∀ σ2 H2, N2 σ2 H2 -> ∃ m', m' < m2 /\ W2 (j + 1) m' σ2 H2) /\ ∀ y H6, J2.yld j H5 y H6 -> TGd K g2 y σ5 H6 fun σ7 H7 => TD K elt σ7 H7 fun z H8 => ∃ xs, H8 p = some (.lst xs) /\ xs.length < sizeLine /\ N2 σ7 (upd H8 p (.lst (xs ++ [z]))))) := by
 have hF1 : F1 p = none := f1.free hp
 refine ⟨fun i m σ' H' => ∃ F' ρ' acc xs, Rl K F1 (upd B p (.lst xs)) F' H' σ' ρ' /\ Ext F1 H1 F' H' /\ H' p = some (.lst xs) /\ F' p = none /\ Reps K F' xs acc /\ i <= its.length /\ m = its.length - i /\ Z9 g mi2 g2 elt (its.drop i) ρ' acc = some out /\ NrP p ρ',
  ⟨_, F1, ρb, [], [], rb, (Ext.refl f1).acc hp hF1, y3, hF1, .nil, Nat.zero_le _, rfl, e, nr⟩, ?_⟩
 clear rb e nr
 rintro i m σ' H' ⟨F', ρ', acc, xs, rl', xe, hH', hF', ra, hi', rfl, e', nr'⟩
 by_cases hlt : i < its.length
 ·right
  have hd := getElem?_eq_getElem hlt
  refine ⟨I.go i F' H' xe.ff rl'.fh hlt, fun σ2 H2 => ∃ F2 ρ2 acc2 xs2, Rl K F1 (upd B p (.lst xs2)) F2 H2 σ2 ρ2 /\ Ext F1 H1 F2 H2 /\ H2 p = some (.lst xs2) /\ F2 p = none /\ Reps K F2 xs2 acc2 /\ Z9 g mi2 g2 elt (its.drop (i + 1)) ρ2 acc2 = some out /\ NrP p ρ2, ?_, fun x H2 y => ?_⟩
  ·rintro σ2 H2 ⟨F2, ρ2, acc2, xs2, b1, b2, b3, b4, b5, b6, b7⟩
   exact ⟨its.length - (i + 1), Nat.sub_lt_sub_left hlt (Nat.lt_succ_self i), F2, ρ2, acc2, xs2, b1, b2, b3, b4, b5, hlt, rfl, b6, b7⟩
  ·obtain ⟨F2, x2, r2⟩ := I.yld i F' H' x H2 _ xe.ff rl'.fh hd y
   rw [g6 hd] at e'
   obtain ⟨ρ1, its2, z, h2, h3, h4, e4⟩ := comp2D_cons e'
   have nr1 := nr'.tg h2
   clear e' I q y hd
   refine ⟨F1, _, F2, ρ', _, ρ1, rl'.go x2, r2, h2, fun F3 H3 σ3 rl3 x3 => ?_⟩
   have x23 := x2.trans x3
   refine ⟨F1, _, F3, ρ1, its2, rl3, h3, fun J2 F4 H4 x4 I2 => ?_⟩
   have x24 := x23.trans x4
   refine ⟨fun j m2 σ5 H5 => ∃ F5 ρ5 acc5 xs5, Rl K F1 (upd B p (.lst xs5)) F5 H5 σ5 ρ5 /\ Ext F1 H1 F5 H5 /\ H5 p = some (.lst xs5) /\ F5 p = none /\ Reps K F5 xs5 acc5 /\ j <= its2.length /\ m2 = its2.length - j /\ d8 g2 elt (its2.drop j) ρ5 acc5 = some z /\ NrP p ρ5 /\ Same F4 F5,
    ⟨_, F4, ρ1, acc, xs, rl3.go x4, xe.trans x24, x24.hh _ _ hH', x24.stay hF' hH', ra.mono x24.ff, Nat.zero_le _, rfl, h4, nr1, Same.refl _⟩, ?_⟩
   rintro j m2 σ5 H5 ⟨F5, ρ5, acc5, xs5, rl5, xe5, hH5, hF5, ra5, hj, rfl, e5, nr5, s45⟩
   by_cases hlt2 : j < its2.length
   ·right
    have hd2 := getElem?_eq_getElem hlt2
    refine ⟨I2.go j F5 H5 s45 rl5.fh hlt2, fun σ7 H7 => ∃ F7 ρ7 acc7 xs7, Rl K F1 (upd B p (.lst xs7)) F7 H7 σ7 ρ7 /\ Ext F1 H1 F7 H7 /\ H7 p = some (.lst xs7) /\ F7 p = none /\ Reps K F7 xs7 acc7 /\ d8 g2 elt (its2.drop (j + 1)) ρ7 acc7 = some z /\ NrP p ρ7 /\ Same F4 F7, ?_, fun y H6 yy => ?_⟩
    ·rintro σ7 H7 ⟨F7, ρ7, acc7, xs7, b1, b2, b3, b4, b5, b6, b7, b8⟩
     exact ⟨its2.length - (j + 1), Nat.sub_lt_sub_left hlt2 (Nat.lt_succ_self j), F7, ρ7, acc7, xs7, b1, b2, b3, b4, b5, hlt2, rfl, b6, b7, b8⟩
    ·obtain ⟨F6, x6, r6⟩ := I2.yld j F5 H5 y H6 _ s45 rl5.fh hd2 yy
     rw [g6 hd2] at e5
     obtain ⟨ρ7, d, t7, d7, hz, e7⟩ := compDS_cons e5
     have nr7 := nr5.tg t7
     refine ⟨F1, _, F6, ρ5, _, ρ7, rl5.go x6, r6, t7, fun F7 H7 σ7 rl7 x7 => ?_⟩
     refine ⟨F1, _, F7, ρ7, d, rl7, d7, fun v F8 H8 x8 r8 => ?_⟩
     have x58 := (x6.trans x7).trans x8
     have pn := x58.stay hF5 hH5
     exact ⟨xs5, x58.hh _ _ hH5, by rw [ra5.length]; exact hz, F8, ρ7, acc5 ++ [d], xs5 ++ [v], (rl7.go x8).rebaseR pn nr7, (xe5.trans x58).acc hp pn, y3, pn, (ra5.mono x58.ff).append (.cons r8 .nil), e7, nr7, s45.trans x58.ff⟩
   ·left
    have hjeq : j = its2.length := Nat.le_antisymm hj (Nat.le_of_not_lt hlt2)
    subst hjeq
    rw [drop_length] at e5
    have e5 : some (ρ5, acc5) = some z := e5
    cases e5
    exact ⟨I2.stop F5 H5 s45 rl5.fh, F5, ρ5, acc5, xs5, rl5, xe5, hH5, hF5, ra5, e4, nr5⟩
 ·left
  have hieq : i = its.length := Nat.le_antisymm hi' (Nat.le_of_not_lt hlt)
  subst hieq
  rw [drop_length] at e'
  have e' : some acc = some out := e'
  cases e'
  exact ⟨I.stop F' H' xe.ff rl'.fh, q xs F' H' xe hF' hH' ra⟩
theorem comp2_tfR {K : W.Frag} {src : List (Option Nat)} {mi : ML} {g : Tg} {mi2 : ML} {g2 : Tg} {elt : ME} (so : srcOk src) {σ : St} {H : Hp} {Q : VK} (h : TF K (T4 src mi g mi2 g2 elt) σ H Q) : tComp2 src (TId K mi) (TGd K g) (TId K mi2) (TGd K g2) (TD K elt) σ H Q := by
 obtain ⟨F0, H0, F, ρ, out, rl, e, q⟩ := h
 unfold T4 at e
 cases h1 : mi ρ with
 | none => rw [h1] at e; cases e
 | some its =>
  rw [h1] at e
  refine ⟨F0, H0, F, ρ, its, rl, h1, fun J F1 H1 x1 I p hp => ?_⟩
  exact comp2_loopR x1.fh hp ((rl.go x1).blkR so hp) ((rl.go x1).nrp src hp) I e fun xs F' H' xe hF' hH' ra => q p xs F' H' (x1.trans xe) (x1.hh.free hp) hF' hH' ra
section
variable {X : Cx} {st : Stmt}
theorem psd_setC2s {i : Nat} {src : List (Option Nat)} {mi : ML} {g : Tg} {mi2 : ML} {g2 : Tg} {me : ME} (so : srcOk src) (h : PS X st (tAsg (tComp2 src (TId X.K mi) (TGd X.K g) (TId X.K mi2) (TGd X.K g2) (TD X.K me)) (S8 i))) : PSd X st (mset i (mlst (T4 src mi g mi2 g2 me))) := asg_d h fun _ _ _ q => comp2_tfR so (pf_imp q)
end
end
section
theorem tyc_en1 (a b : Value) : checkTypeCall "enumerate" ⟨[a], [("start", b)]⟩ = pure () := by kernel_rfl
theorem nwc_en1 (a b : Value) : checkBuiltinCall "enumerate.__new__" ⟨[.type "enumerate", a], [("start", b)]⟩ = pure () := by kernel_rfl
theorem ini_en1 (o a b : Value) : argsOk "object.__init__" ⟨[o, a], [("start", b)]⟩ := by
 first | exact F.args_object_init_2 o a | kernel_rfl | (unfold argsOk; kernel_rfl)
open AutoSeq1 (wpAny_loadPart') in
theorem mts_en1 (l : Addr) (its : Array Value) (n : Nat) (dd : Option Addr) (ss : Array (Option Value)) (t : Tok) :
  Meets (Builtin.«enumerate.__new__» ⟨[.type "enumerate", .ref l], [("start", .int 1 t)]⟩) (fun _ R s => s.heap.get? l = some ⟨.type "list", dd, .seq its n, ss⟩ /\
   R (.ok (.ret (.ref (s.heap.push ⟨.type "list_iterator", none, .fields #[.ref l, .int 0 0], #[]⟩).objs.size)))
    { s with heap := (s.heap.push ⟨.type "list_iterator", none, .fields #[.ref l, .int 0 0], #[]⟩).push ⟨.type "enumerate", none, .fields #[.none, .bool false, .ref s.heap.objs.size, rawInt 1, .none, .none], #[]⟩ }) :=
 .of_wp fun _ _ A R s z => by
  obtain ⟨hp, g, d, tk, os⟩ := s; obtain ⟨hl, z⟩ := z
  have hsb := sub_enumerate
  have hL : Heap.IsList (Shared.heap ⟨hp, g, d, tk, os⟩) l its := ⟨_, hl, rfl, n, rfl⟩
  wp_walk using wpAny_loadPart' hl
  refine wpAny_stack_any fun st => wpAny_pure ?_
  split
  ·rename_i c _ _ _ _ _
   cases (c == Value.type "enumerate") <;> (wp_walk using wpAny_loadPart' hl, wpAny_pyIter_list hL; exact ⟨_, rfl, z⟩)
  ·(wp_walk using wpAny_loadPart' hl, wpAny_pyIter_list hL; exact ⟨_, rfl, z⟩)
end
section
section
variable {prog : Program} {w : World} {A : Around} {E : Value -> Shared -> Prop} {s : Shared}
theorem ini_mts {T nw : String} {o a b : Value} (hl : typeLookup (.type T) "__init__" = pure (some (.builtin "object.__init__"))) (hm : Bind.madeBy (.type T) = pure (some nw)) (hn : (some nw != some "object.__new__") = true) :
  Meets (Builtin.«object.__init__» ⟨[o, a], [("start", b)]⟩) (fun _ R s => s.TypeIs o T /\ R (.ok (.ret .none)) s) := by
 refine Meets.of_wp fun _ _ A R s hs => ?_
 obtain ⟨hT, hq⟩ := hs
 repeat (any_goals (first | assumption | wp_step))
 exact ⟨_, rfl, hq⟩
theorem callTy_en1 {a b : Value} {S : PySem.Spec} {Q : Value -> Shared -> Prop} (g : Meets (Builtin.«enumerate.__new__» ⟨[.type "enumerate", a], [("start", b)]⟩) S)
  (h : S A.in1 (wants (fun o s₁ => s₁.TypeIs o "enumerate" /\ Q o s₁) E) s) : wpAny (model prog w) A (call (.type "enumerate") [a] [("start", b)]) Q E s := by
 have ft := F.called_enumerate
 obtain ⟨c, tl, hmro⟩ := ft.mro
 have hct := tyc_en1 a b
 have h5 := ft.made
 have h6 := ft.sub
 refine wpAny_call (codeAny_of_tree ?_)
 show wpAny _ _ (callAny (.type "enumerate") _) _ _ _
 refine wpAny_pure ⟨Code.quiet_builtin _ (by decide +kernel), codeAny_builtin F.entry_type_call ?_⟩
 rw [Around.under_plain (weight_type_call_type "enumerate" [a] [("start", b)]) (units_type_call_type "enumerate" [a] [("start", b)])]
 have h1 := ft.notType
 have h2 := ft.canCreate
 repeat (any_goals (first | assumption | wp_step))
 refine codeAny_mono (codeAny_call_builtin ft.plain F.entry_enumerate_new (wpAny_of_eq (nwc_en1 a b) (g prog w A.in1 _ s h))) fun r s₁ hr => ?_
 cases r with
 | error e => exact hr
 | ok fl =>
  cases fl with
  | ret o =>
   obtain ⟨hT, hq⟩ := hr
   have h3 := ft.init.lookup
   have h4 := ft.init.bind o
   repeat (any_goals (first | assumption | wp_step))
   refine codeAny_mono (codeAny_call_builtin ft.init.plain F.entry_object_init (ft.init.check _ _ _ _ _ _ _ _ hT (ini_en1 o a b) (ini_mts (T := "enumerate") ft.init.lookup ft.made (by decide) prog w A.in1 (wants (fun r s₂ => r = .none /\ Q o s₂) E) s₁ ⟨hT, rfl, hq⟩))) fun r₂ s₂ hr₂ => ?_
   cases r₂ with
   | error e => exact hr₂
   | ok fl₂ =>
    cases fl₂ with
    | ret r =>
     obtain ⟨rfl, hq⟩ := hr₂
     repeat (any_goals (first | assumption | wp_step))
    | _ => exact hr₂.elim
  | _ => exact hr.elim
theorem call_en1 {l : Addr} {its : Array Value} {t : Tok} {Q : Value -> Shared -> Prop} (hL : s.heap.IsList l its)
  (h : ∀ h', IsEnum h' (s.heap.objs.size + 1) s.heap.objs.size 1 .none -> h'.IsListIter s.heap.objs.size l 0 -> (∀ b o, s.heap.get? b = some o -> h'.get? b = some o) -> Q (.ref (s.heap.objs.size + 1)) { s with heap := h' }) :
  wpAny (model prog w) A (call (.type "enumerate") [.ref l] [("start", .int 1 t)]) Q E s := by
 obtain ⟨⟨c, dd, dt, sl⟩, hl, hc, n, hd⟩ := hL
 cases hc
 cases hd
 refine callTy_en1 (mts_en1 l its n dd sl t) ⟨hl, ?_⟩
 have hz : (s.heap.push ⟨.type "list_iterator", none, .fields #[.ref l, .int 0 0], #[]⟩).objs.size = s.heap.objs.size + 1 := Heap.size_push ..
 show _ /\ _
 have he : IsEnum ((s.heap.push ⟨.type "list_iterator", none, .fields #[.ref l, .int 0 0], #[]⟩).push ⟨.type "enumerate", none, .fields #[.none, .bool false, .ref s.heap.objs.size, rawInt 1, .none, .none], #[]⟩) (s.heap.objs.size + 1) s.heap.objs.size 1 .none := by
  rw [<- hz]; exact Heap.get?_push_size _ rfl
 rw [hz]
 exact ⟨⟨_, he, rfl⟩, h _ he ⟨_, Heap.get?_push_of_some _ (Heap.get?_push_size _ rfl), rfl, rfl⟩ fun b o x => Heap.get?_push_of_some _ (Heap.get?_push_of_some _ x)⟩
theorem drw_en1 (hh : A.handled = none) (it l : Addr) (hne : l ≠ it) (its : Array Value) :
  Draws prog w A it [it, l] (its.size + 1) (fun i v => ∃ j, i = j + 1 /\ its[j]? = some v) (fun i h => ∃ j, i = j + 1 /\ h.IsListIter it l j /\ h.IsList l its) where
 live := fun _ _ ⟨_, _, st, _⟩ => let ⟨o, ho, _⟩ := st; ⟨o, ho⟩
 frame := fun _ _ _ ⟨j, e, st⟩ hk => ⟨j, e, st.1.at fun o e => hk it (by simp) o e, st.2.at fun o e => hk l (by simp) o e⟩
 item := fun i s Q E hi ⟨j, e, st⟩ hQ => by
  subst e
  have hj : j < its.size := by omega
  refine wpAny_nextOf_list_item st.1 st.2 (x := its[j]) (by simp [hj]) fun h' hit' hs' => ?_
  exact hQ _ h' s.toks ⟨j, rfl, by simp [hj]⟩ ⟨j + 1, rfl, hit', st.2.extBut hs'.extBut hne⟩ hs'
 done := fun s Q E ⟨j, e, st⟩ hE => by
  have : j = its.size := by omega
  subst this
  exact wpAny_nextOf_list_end hh st.1 st.2 (by simp) hE
end
def Ite1 (K : W.Frag) (l : Addr) : It :=
 ⟨fun i H => ∃ xs x, SqL K H l xs /\ xs[i]? = some x,
  fun i H v H' => ∃ t x, v = .ref t /\ H t = none /\ H' = upd H t (.tup [.int ((1 + i : Nat) : Int), x]) /\ (∀ xs, SqL K H l xs -> xs[i]? = some x),
  fun i H => ∃ xs, SqL K H l xs /\ xs.length = i⟩
end
section
theorem turn_en1 {P : Program} {w : World} {K : W.Frag} {es : List Expr} {tk : Nat} {tp : Pos} (e it l : Addr) (hne : e ≠ it) :
  Turn P w K (.Tuple es tk tp) (Ite1 K l) [e, it] e (fun i h => (∃ old, IsEnum h e it ((i + 1 : Nat) : Int) old) /\ h.IsListIter it l i) where
 mem := by simp
 obj := fun i h st b hb => by
  obtain ⟨⟨old, he⟩, ⟨o1, e1, _, d1⟩⟩ := st
  rcases List.mem_cons.mp hb with rfl | hb
  ·exact ⟨_, he, fun v q => by cases q⟩
  ·rcases List.mem_singleton.mp hb with rfl
   exact ⟨_, e1, fun v q => by rw [d1] at q; cases q⟩
 keep := fun i h h' ⟨⟨old, he⟩, h1⟩ k => ⟨⟨old, k e (by simp) _ he⟩, h1.at fun o q => k it (by simp) o q⟩
 item := by
  intro X hP hw hK hc i pins s σ H E I hf st hg
  subst hP hw hK
  obtain ⟨xs, x, hq1, hx⟩ := hg
  obtain ⟨its1, rv1, p1, _⟩ := I.list hq1
  obtain ⟨⟨old, he⟩, h1⟩ := st
  have L := p1.isList
  obtain ⟨oi, ei, ci, di⟩ := id h1
  obtain ⟨ol, el, cl, _⟩ := id L
  have nli : l ≠ it := fun z => by rw [z] at el; rw [ei] at el; cases el; rw [ci] at cl; exact absurd (Value.type.inj cl) (by decide)
  have nle : e ≠ l := fun z => by rw [<- z] at el; rw [he] at el; cases el; exact absurd (Value.type.inj cl) (by decide)
  have hi : i < its1.length := by
   rw [<- rv1.length]
   exact (List.getElem?_eq_some_iff.mp hx).1
  refine wpAny_pyNext_enum_itemD (drw_en1 (A := X.A.in1) (I.ok.hd hc) it l nli its1.toArray) he ⟨i, rfl, h1, L⟩ (by simpa using hi) hne (by simp [hne, nle]) fun u h' tk' pu a1 a2 a3 a4 hk => ?_
  obtain ⟨j, ej, hu⟩ := pu
  cases ej
  obtain ⟨j2, ej2, a2, _⟩ := a2
  cases ej2
  obtain ⟨u1, hu1, ru1⟩ := rv1.get hx
  have huu : u = u1 := by
   have : its1[i]? = some u := by simpa using hu
   rw [hu1] at this; exact (Option.some.inj this).symm
  subst huu
  refine ⟨_, rfl, ?_⟩
  refine wpAny_letOwnedTupleGo_enum a1 fun h'' he'' hs'' => ?_
  have hzs : e < s.heap.objs.size := Heap.lt_size he
  have kk : ∀ c o, c ∉ [e, it] -> s.heap.get? c = some o -> h''.get? c = some o := fun c o hc q => by
   simp only [mem_cons, not_mem_nil, or_false, not_or] at hc
   exact hs''.extBut _ _ hc.1 (hk c o hc.1 hc.2 q)
  have hT := hs''.extBut _ _ (Nat.ne_of_gt hzs) a3
  have I2 : Inv X pins σ (upd H s.heap.objs.size (.tup [.int ((1 + i : Nat) : Int), x])) { s with heap := h'', toks := tk' + 1 } :=
   I.turnedN (T := s.heap.objs.size) (o := .tup [.int ((1 + i : Nat) : Int), x]) kk hf (Nat.le_refl _) ⟨by show 2 <= sizeLine; decide, [.int ((i + 1 : Nat) : Int) tk', u], .cons ⟨tk', by rw [Nat.add_comm 1 i]⟩ (.cons ru1 .nil), ⟨_, hT, rfl, _, rfl⟩⟩
  refine ⟨.ref s.heap.objs.size, _, I2, rfl, ⟨_, x, rfl, I.fresh, rfl, fun zs hzs' => by rw [I.list_inj hzs' hq1]; exact hx⟩,
   ⟨⟨_, he''⟩, a2.extBut hs''.extBut hne.symm⟩, fun c hc' => ?_⟩
  have hlt : c < s.heap.objs.size := by
   rcases List.mem_cons.mp hc' with rfl | hc'
   ·exact hzs
   ·rcases List.mem_singleton.mp hc' with rfl
    exact Heap.lt_size ei
  rw [y0 (Nat.ne_of_lt hlt)]
  exact (hf c hc').1
 done := by
  intro X hP hw hK hc i pins s σ H E I hf st hg
  subst hP hw hK
  obtain ⟨xs, hq1, hl⟩ := hg
  obtain ⟨its1, rv1, p1, _⟩ := I.list hq1
  obtain ⟨⟨old, he⟩, h1⟩ := st
  have L := p1.isList
  obtain ⟨oi, ei, ci, di⟩ := id h1
  obtain ⟨ol, el, cl, _⟩ := id L
  have nli : l ≠ it := fun z => by rw [z] at el; rw [ei] at el; cases el; rw [ci] at cl; exact absurd (Value.type.inj cl) (by decide)
  have hz : its1.length = i := by rw [<- rv1.length]; exact hl
  refine wpAny_pyNext_enum_endD (drw_en1 (A := X.A.in1) (I.ok.hd hc) it l nli its1.toArray) he ⟨i, by simp [hz], h1, L⟩ fun h' hk => ⟨rfl, ?_⟩
  exact I.turnedL (t' := s.toks) (fun c o hc q => by
   simp only [mem_cons, not_mem_nil, or_false, not_or] at hc
   exact hk c o hc.2 q) hf
 self := fun A i s Q E ⟨⟨old, he⟩, h1⟩ h => wpAny_pyIter_enum he h
theorem itd_en1 {K : W.Frag} {F : Hp} {p : Addr} {xs : List V} {ds : List D} (s : SqL K F p xs) (r : Reps K F xs ds) : ItD K F (Ite1 K p) (P1 1 ds) where
 go := fun i F1 H1 a b hi => by
  rw [l0] at hi
  obtain ⟨v, e, _⟩ := r.get (getElem?_eq_getElem hi)
  exact ⟨xs, v, b.seq (a.seq s), e⟩
 yld := fun i F1 H1 x H2 d a b e y => by
  obtain ⟨t, u, rfl, ht, rfl, y1⟩ := y
  obtain ⟨d1, e1, r1⟩ := r.get' (y1 xs (b.seq (a.seq s)))
  rw [R0 1 ds i d1 e1] at e
  cases e
  refine ⟨upd F1 t (.tup [.int ((1 + i : Nat) : Int), u]), Ext.laid b ht, .tup (SqT.of y3) ?_⟩
  exact .cons (.int _) (.cons (r1.mono (a.trans ((Same.refl F1).put (b.free ht)))) .nil)
 stop := fun F1 H1 a b => ⟨xs, b.seq (a.seq s), by rw [r.length, l0]⟩
def zv6 : List D -> Option (List D)
 | [.lst ds] => some (P1 1 ds)
 | _ => none
section
variable {X : Cx}
theorem A4 {M : Model} {A : Around} {E : Value -> Shared -> Prop} {s : Shared} {env : Env} {pos : Pos} {T : String} {e : Expr} {kws : List Keyword} {Q : Value -> Shared -> Prop}
  (h : wpAny M A (spliced (backTo pos (starEach [e] env))) (fun vs s₁ => wpAny M A (evalAll ((backToKw pos (keywordEach kws env)).map (·.2))) (fun us s₂ => wpAny M A (call (.type T) vs (((backToKw pos (keywordEach kws env)).filterMap (·.1)).zip us)) Q E s₂) E s₁) E s)
  (he : backTo pos (starEach [e] env) = (false, eval e env) :: backTo pos (starEach [] env)) (hp : (backTo pos (starEach [e] env)).any (·.1) = false) (ha : (backToKw pos (keywordEach kws env)).all (·.1.isSome) = true) (hk : (backToKw pos (keywordEach kws env)).any (·.1.isNone) = false) :
  wpAny M A (callWith pos (.type T) [] (backTo pos (starEach [e] env)) (backToKw pos (keywordEach kws env))) Q E s := by
 have g : wpAny M A (evalArgs (.type T) true (backTo pos (starEach [e] env)) (backToKw pos (keywordEach kws env))) (fun a s₁ => wpAny M A (call (.type T) ([] ++ a.pos) a.kw) Q E s₁) E s := by
  rw [he] at h ⊢
  exact evalArgs_kwB ha h
 unfold callWith
 refine wpAny_bind (wpAny_holding (wpAny_mono g (fun a s₁ z => wpAny_bind (wpAny_standAt ?_)) fun _ _ x => x))
 simp only [hp, hk, Bool.or_false]
 refine wpAny_bind (wpAny_pure ?_)
 exact wpAny_bind (wpAny_mono z (fun r s₂ y => wpAny_bind (wpAny_holding (wpAny_point (wpAny_pure y)))) fun _ _ x => x)
theorem pid_en1 {es : List Expr} {tk : Nat} {tp : Pos} {a : Expr} {m : ME} {p pos kp ep : Pos} {ek : _} (hg : Gl X "enumerate") (hm : X.mg "enumerate" = none) (ha : PD X a m)
  (hs : starEach [a] X.env = [(false, eval a X.env)] := by rfl) : PId X (.Tuple es tk tp) (.Call (.Name "enumerate" p) [a] [⟨some "start", .Constant (.int 1) ek ep, kp⟩] pos) (v5 zv6 (z5 m anil)) := by
 intro pins s σ H R I h
 obtain ⟨F0, H0, F, ρ, its, rl, e, q⟩ := h
 obtain ⟨ds, h1, h2⟩ := Z5 e
 have A := (z0 ha z6 hs : PAs X [a] _) pos pins s σ H (fun vs H1 => ∃ F1, Ext F H F1 H1 /\ Reps X.K F1 vs ds) I ⟨F0, H0, F, ρ, ds, rl, h1, fun vs F1 H1 x1 r1 => ⟨F1, x1, r1⟩⟩
 refine wpAny_Call_Name_kw (X3 I hg hm boot_enumerate ?_)
 refine A4 (thn A fun us s1 hpat => ?_) (by rw [hs]; rfl) (by rw [hs]; rfl) rfl rfl
 obtain ⟨vs, H1, I1, r1, F1, x1, rs⟩ := hpat
 unfold zv6 at h2
 split at h2
 case h_2 => cases h2
 cases h2
 cases rs with
 | cons r rr =>
  cases rr
  obtain ⟨l, xs, rfl, sq, rx⟩ := r.l'
  obtain ⟨u, rfl, ru⟩ := V7 r1
  cases ru
  have B := C5 (nm := some "start") (kpos := kp) (pe_int (X := X) (i := 1) (j := ek) (pos := ep)) pk_nil pos pins s1 σ H1 (fun vs H2 => vs = [.int 1] /\ H2 = H1) I1 ⟨rfl, rfl⟩
  refine thn B fun us s2 hpat => ?_
  obtain ⟨vs, H2, I2, r2, ev, eH⟩ := hpat
  subst ev eH
  obtain ⟨u2, rfl, t2, rfl⟩ := V7 r2
  obtain ⟨its1, rv1, p1, _⟩ := I2.list (x1.fh.seq sq)
  refine call_en1 p1.isList fun h' he hit hk => ?_
  have I3 : Inv X pins σ H2 { s2 with heap := h', toks := s2.toks } := I2.kept hk
  refine wpAny_pyIter_enum he ?_
  refine ⟨_, [s2.heap.objs.size + 1, s2.heap.objs.size], _, _, H2, rfl, I3, turn_en1 _ _ l (Nat.ne_of_gt (Nat.lt_succ_self _)), ⟨⟨_, he⟩, hit⟩, fun b hb => ?_, q _ F1 _ x1 (itd_en1 sq rx)⟩
  have hb' : s2.heap.objs.size <= b := by
   rcases List.mem_cons.mp hb with rfl | hb
   ·exact Nat.le_succ _
   ·rw [List.mem_singleton.mp hb]; exact Nat.le_refl _
  exact I2.fpOk hb' (I2.hok.fresh hb')
end
end
section
section
variable {X : Cx} {e : Expr} {ma : ME}
def G5 (m : ME) : ML := fun ρ => match m ρ with | some (.tup ds) => some ds | _ => none
theorem itd_tup {K : W.Frag} {F : Hp} {p : Addr} {xs : List V} {ds : List D} (s : SqT K F p xs) (r : Reps K F xs ds) : ItD K F (Itt K p) ds where
 go := fun i F1 H1 a b hi => by
  obtain ⟨v, e, _⟩ := r.get (getElem?_eq_getElem hi)
  exact ⟨xs, v, b.seqT (a.seqT s), e⟩
 yld := fun i F1 H1 x H2 d a b e y => by
  obtain ⟨rfl, y⟩ := y
  obtain ⟨v, e1, e2⟩ := r.get e
  have := y xs (b.seqT (a.seqT s))
  rw [e1] at this; cases this
  exact ⟨F1, .refl b, e2.mono a⟩
 stop := fun F1 H1 a b => ⟨xs, b.seqT (a.seqT s), by rw [r.length]; exact Nat.le_refl _⟩
theorem pid_tup {tg : Expr} (hd : PD X e ma) : PId X tg e (G5 ma) := PI.imp (pi_tup hd) fun σ H R hpat => by
 obtain ⟨F0, H0, F, ρ, its, rl, e, q⟩ := hpat
 unfold G5 at e
 split at e
 ·rename_i ds h1
  cases e
  refine ⟨F0, H0, F, ρ, _, rl, h1, fun v F1 H1 x1 r1 => ?_⟩
  cases r1 with
  | tup s t => exact ⟨_, rfl, ⟨_, x1.fh.seqT s⟩, q _ F1 H1 x1 (itd_tup s t)⟩
 ·cases e
end
end
end L2
set_option maxHeartbeats 4000000
namespace Lw
open List
open PySem L2
section
noncomputable section
def b_Z8 : MS := (mif (u6 (m2 ltD (mvar 0) (mc (.int 1)))) mnever X4)
def m_Z8 : MF := runB 1 b_Z8
def b_Z2_f0 : MS := (mseq (mapp 2 (mlst (L9 [none, some 1, some 5, some 0] (v5 rng2 (z5 (m2 addD (mvar 4) (mc (.int 1))) (z5 (mlen (bvar 0)) anil))) (.nm 0) (u6 (m2 geD (m2 subD (mix (bvar 3) (mvar 0)) (mvar 2)) (mvar 1))) (mvar 0)))) (mapp 3 (mlst (L9 [none, some 1, some 5, some 0] (v5 rng2 (z5 (m2 addD (mvar 4) (mc (.int 1))) (z5 (mlen (bvar 0)) anil))) (.nm 0) (u6 (m2 geD (m2 subD (mvar 2) (mix (bvar 3) (mvar 0))) (mvar 1))) (mvar 0)))))
def b_Z2_r1 : MS := (W4 3 (W4 2 (mret (mtup (z5 (mvar 2) (z5 (mvar 3) anil))))))
def b_Z2 : MS := (mseq (a8 2 (w6 anil)) (mseq (a8 3 (w6 anil)) (mseq (mfor (rde 0) (.tp [4, 5]) b_Z2_f0) b_Z2_r1)))
def m_Z2 : MK := runK 6 b_Z2
def b_Z14 : MS := (mretF (u9 [none, some 0] (k0 (mvar 1)) (.nm 0) cyes (msum (u9 [none, some 1] (k0 (mvar 0)) (.nm 0) cyes (mix (bvar 1) (mvar 0))))))
def m_Z14 : MF := runB 2 b_Z14
def b_Z7 : MS := (mret (mtup (z5 (m1 negD (mlen (bvar 0))) (z5 (mvar 0) anil))))
def m_Z7 : MF := runB 1 b_Z7
def b_Z3 : MS := (mret (Q6 (u9 [none, some 0] (k0 (mvar 1)) (.nm 0) cyes (mix (bvar 1) (mvar 0))) (mlst (w6 anil))))
def m_Z3 : MF := runB 2 b_Z3
def b_Z6 : MS := (mseq (masg (.tp [2, 3]) (W5 m_Z2 (krd 0 (P0 (mvar 1) knil)))) (mret (mtup (z5 (mtup (z5 (mvar 2) (z5 (mvar 3) anil))) (z5 (mtup (z5 (mvar 3) (z5 (mvar 2) anil))) anil)))))
def m_Z6 : MK := runK 4 b_Z6
def b_Z4_f0 : MS := (mseq (mset 7 (mborL 5 (t8 m_Z3 (z5 (mvar 5) (z5 (mix (bvar 2) (mvar 6)) anil))))) (mseq (mif (cor (mtru (mvar 7)) (u6 (m2 (inD false) (mvar 6) (mvar 3)))) (L8 4 (mvar 6) (mlst (mcat (w6 (z5 (mvar 6) anil)) (bvar 7)))) X4) (mseq (mset 7 (mborL 4 (t8 m_Z3 (z5 (mvar 4) (z5 (mix (bvar 1) (mvar 6)) anil))))) (mif (mtru (mvar 7)) (L8 5 (mvar 6) (mlst (mcat (w6 (z5 (mvar 6) anil)) (bvar 7)))) X4))))
def b_Z4_r1 : MS := (W4 4 (mseq (mset 7 (t8 m_Z3 (z5 (mvar 4) (z5 (mvar 3) anil)))) (mret (mite (mtru (mvar 7)) (mlst (mcat (w6 (z5 (mvar 0) anil)) (bvar 7))) (mlst (w6 anil))))))
def b_Z4 : MS := (mseq (mset 3 (mix (bvar 1) (mvar 0))) (mseq (a8 4 (mrep (w6 (z5 (mlst (w6 anil)) anil)) (mlen (bvar 1)))) (mseq (a8 5 (mrep (w6 (z5 (mlst (w6 anil)) anil)) (mlen (bvar 1)))) (mseq (mfor (v5 rngD2 (z5 (m2 addD (mvar 0) (mc (.int 1))) (z5 (mlen (bvar 1)) anil))) (.nm 6) b_Z4_f0) b_Z4_r1))))
def m_Z4 : MF := runB 8 b_Z4
def b_Z0 : MS := (mseq (mexpr (t8 m_Z8 (z5 (mvar 1) anil))) (mseq (mset 2 (mlst (T4 [none, none, none, some 0] (G5 (W5 m_Z6 (krd 0 (P0 (mvar 1) knil)))) (.tp [0, 1]) (v5 rng1 (z5 (mlen (bvar 3)) anil)) (.nm 2) (t8 m_Z4 (z5 (mvar 2) (z5 (mvar 0) (z5 (mvar 1) anil))))))) (mret (mminK (fun d => shOf (m_Z7 [d])) (bvar 2) (mlst (w6 anil))))))
def m_Z0 : MK := runK 3 b_Z0
def d6 : MF := lsn8 m_Z0
def A8 : MS := (mseq (mapp 5 (msum (u9 [none, some 4] (k0 (mvar 3)) (.nm 0) cyes (mix (bvar 1) (mvar 0))))) (mset 4 (t8 m_Z14 (z5 (t8 m_Z14 (z5 (mvar 4) (z5 (mvar 1) anil))) (z5 (mvar 2) anil)))))
def b_Z5 : MS := (mseq (mset 3 (mix (bvar 1) (mvar 0))) (mseq (mset 4 (mlst (u9 [none, some 3] (v5 rng1 (z5 (mlen (bvar 1)) anil)) (.nm 0) cyes (mite (u6 (m2 (inD false) (mvar 0) (mvar 1))) (mc (.int 1)) (mc (.int 0)))))) (mseq (a8 5 (w6 anil)) (mseq (Y6 (mtru (many (bvar 4))) A8 1000) (B5 5)))))
def m_Z5 : MF := runB 6 b_Z5
def b_Z1_f0 : MS := (zw3 2 (mvar 6) (mvar 7))
def zz1 : MS := (mfor (v5 zv6 (z5 (t8 m_Z5 (z5 (mvar 5) (z5 (mvar 3) (z5 (mvar 4) anil)))) anil)) (.tp [6, 7]) b_Z1_f0)
def zz0 : MS := (mfor (v5 rng1 (z5 (mlen (bvar 0)) anil)) (.nm 5) zz1)
def A9 : MS := (mpopS 2)
def b_Z1_r4 : MS := (mseq (Y6 (u6 (m2 eqSD (mix (bvar 2) (m1 negD (mc (.int 1)))) (mc (.int 0)))) A9 1000) (B5 2))
def b_Z1 : MS := (mseq (mexpr (t8 m_Z8 (z5 (mvar 1) anil))) (mseq (a8 2 (mcat (w6 (z5 (mc (.int 1)) anil)) (mrep (w6 (z5 (mc (.int 0)) anil)) (mlen (bvar 0))))) (mseq (mfor (G5 (W5 m_Z6 (krd 0 (P0 (mvar 1) knil)))) (.tp [3, 4]) zz0) b_Z1_r4)))
def m_Z1 : MK := runK 8 b_Z1
def a9 : MF := lsn8 m_Z1
def b_Z13 : MS := (mseq (mif (u6 (m2 geD (mvar 0) (m2 powD (mc (.int 10)) (mc (.int 18))))) (mret (m2 modD (m2 shrD (m2 subD (mvar 0) (m2 powD (mc (.int 10)) (mc (.int 18)))) (m2 mulD (mc (.int 28)) (mvar 1))) (m2 powD (mc (.int 2)) (mc (.int 28))))) X4) (mseq (mset 2 (m2 modD (m2 mulD (m2 addD (m2 addD (mvar 0) (m2 mulD (mc (.int 1013)) (mvar 1))) (mc (.int 1))) (mc (.int 16807))) (mc (.int 2147483647)))) (mseq (mset 2 (m2 modD (m2 mulD (mvar 2) (mvar 2)) (mc (.int 2147483629)))) (mret (m2 S9 (m2 modD (m2 mulD (mvar 2) (mc (.int 39373))) (mc (.int 2147483587))) (mc (.int 8)))))))
def Q7 : MF := runB 3 b_Z13
def b_Z12 : MS := (mretF (mcut (mcat (mcut (bvar 0) c0 (e9 (mvar 1))) (w6 (z5 (mc (.int 0)) anil))) c0 (e9 (d9 max2F (z5 (mc (.int 1)) (z5 (d9 min2F (z5 (mvar 1) (z5 (mlen (bvar 0)) anil))) anil))))))
def m_Z12 : MF := runB 2 b_Z12
def zz3 : MS := (mseq (mset 9 (m2 modD (t8 Q7 (z5 (mvar 0) (z5 (m2 addD (mc (.int 10)) (mvar 8)) anil))) (mvar 4))) (mseq (mset 7 (m2 subD (m2 addD (mvar 7) (mvar 9)) (m2 S9 (mvar 4) (mc (.int 2))))) (mseq (mset 10 (mlst (w6 (z5 (m2 subD (mvar 9) (m2 S9 (mvar 4) (mc (.int 2)))) (z5 (m2 addD (mvar 8) (m2 S9 (mvar 9) (mc (.int 2)))) (z5 (m2 subD (m2 subD (mc (.int 0)) (mvar 8)) (m2 S9 (mvar 9) (mc (.int 2)))) (z5 (mix (w6 (z5 (mvar 9) (z5 (m2 subD (mc (.int 0)) (mvar 9)) anil))) (m2 modD (mvar 8) (mc (.int 2)))) anil))))))) (mseq (mset 10 (mlst (mcat (bvar 10) (w6 (z5 (m2 addD (mvar 9) (m2 mulD (m2 modD (m2 S9 (mvar 8) (mvar 5)) (mc (.int 2))) (mvar 4))) (z5 (mvar 4) (z5 (m2 addD (m2 mulD (m2 subD (mvar 9) (m2 S9 (mvar 4) (mc (.int 2)))) (m2 powD (mc (.int 10)) (mc (.int 23)))) (m2 modD (t8 Q7 (z5 (mvar 0) (z5 (m2 addD (mc (.int 10)) (mvar 8)) anil))) (mc (.int 3)))) anil))))))) (mapp 6 (mix (mcat (bvar 10) (w6 (z5 (mvar 7) anil))) (mvar 3)))))))
def b_Z15 : MS := (mseq (mset 2 (m2 modD (t8 Q7 (z5 (mvar 0) (z5 (mc (.int 0)) anil))) (mix (w6 (z5 (mc (.int 4)) (z5 (mc (.int 13)) (z5 (mc (.int 41)) (z5 (m2 addD (mvar 1) (mc (.int 1))) anil))))) (m2 modD (t8 Q7 (z5 (mvar 0) (z5 (mc (.int 1)) anil))) (mc (.int 4)))))) (mseq (mset 3 (m2 modD (t8 Q7 (z5 (mvar 0) (z5 (mc (.int 2)) anil))) (mc (.int 8)))) (mseq (mset 4 (mix (w6 (z5 (mc (.int 2)) (z5 (mc (.int 5)) (z5 (mc (.int 50)) (z5 (m2 powD (mc (.int 10)) (mc (.int 6))) anil))))) (m2 modD (t8 Q7 (z5 (mvar 0) (z5 (mc (.int 3)) anil))) (mc (.int 4))))) (mseq (mset 5 (m2 addD (mc (.int 1)) (m2 modD (t8 Q7 (z5 (mvar 0) (z5 (mc (.int 4)) anil))) (mc (.int 9))))) (mseq (a8 6 (w6 anil)) (mseq (mset 7 (mc (.int 0))) (mseq (mfor (v5 rng1 (z5 (d9 min2F (z5 (mvar 2) (z5 (mvar 1) anil))) anil)) (.nm 8) zz3) (B5 6))))))))
def m_Z15 : MF := runB 11 b_Z15
def b_Z9 : MS := (mseq (mif (mtru (misi "str" (mvar 1))) (mret (mand (misi "str" (mvar 0)) (m2 eqSD (mvar 0) (mvar 1)))) X4) (mseq (mif (mtru (B6 "list" "tuple" (mvar 1))) (mseq (mif (cor (u6 (m2 neSD (misi "list" (mvar 0)) (misi "list" (mvar 1)))) (cnot (mtru (B6 "list" "tuple" (mvar 0))))) (mret (mc (.bl false))) X4) (mseq (mif (u6 (m2 neSD (d9 lenF (z5 (mvar 0) anil)) (d9 lenF (z5 (mvar 1) anil)))) (mret (mc (.bl false))) X4) mnever)) X4) (mret (mand (misi "int" (mvar 0)) (mand (m1 notD (misi "bool" (mvar 0))) (m2 eqSD (mvar 0) (mvar 1)))))))
def m_Z9 : MF := runB 2 b_Z9
def b_Z10 : MS := (mseq (mif (mtru (misi "str" (mvar 1))) (mret (mand (misi "str" (mvar 0)) (m2 eqSD (mvar 0) (mvar 1)))) X4) (mseq (mif (mtru (B6 "list" "tuple" (mvar 1))) (mseq (mif (cor (u6 (m2 neSD (misi "list" (mvar 0)) (misi "list" (mvar 1)))) (cnot (mtru (B6 "list" "tuple" (mvar 0))))) (mret (mc (.bl false))) X4) (mseq (mif (u6 (m2 neSD (d9 lenF (z5 (mvar 0) anil)) (d9 lenF (z5 (mvar 1) anil)))) (mret (mc (.bl false))) X4) (mret (meqB false (u9 [none, none] (v5 zip2 (z5 (mvar 0) (z5 (mvar 1) anil))) (.tp [0, 1]) (cnot (mtru (t8 m_Z9 (z5 (mvar 0) (z5 (mvar 1) anil))))) (mc (.int 1))) (w6 anil))))) X4) (mret (mand (misi "int" (mvar 0)) (mand (m1 notD (misi "bool" (mvar 0))) (m2 eqSD (mvar 0) (mvar 1)))))))
def m_Z10 : MF := runB 2 b_Z10
def b_Z11_f0 : MS := (mseq (mif (cor (u6 (m2 leD (mvar 4) (mvar 3))) (u6 (m2 geD (mvar 4) (mlen (bvar 0))))) (mret (mc (.bl false))) X4) (mset 3 (mvar 4)))
def b_Z11_f1 : MS := (mseq (mset 8 (m2 subD (mix (bvar 0) (mvar 7)) (mix (bvar 0) (mvar 6)))) (mseq (mif (cor (u6 (m2 ltD (d9 absF (z5 (mvar 8) anil)) (mvar 1))) (u6 (meqB false (mcut (bvar 5) (e9 (m1 negD (mc (.int 1)))) c0) (w6 (z5 (m2 gtD (mvar 8) (mc (.int 0))) anil))))) (mret (mc (.bl false))) X4) (mapp 5 (m2 gtD (mvar 8) (mc (.int 0))))))
def zz4 : MS := (mseq (a8 5 (w6 anil)) (mseq (mfor (v5 zip2 (z5 (mvar 2) (z5 (mlst (mcat (mcut (bvar 2) (e9 (mc (.int 1))) c0) (mcut (bvar 2) c0 (e9 (mc (.int 1)))))) anil))) (.tp [6, 7]) b_Z11_f1) (mret (m2 eqSD (m2 modD (mlen (bvar 2)) (mc (.int 2))) (mc (.int 0))))))
def b_Z11 : MS := (mseq (mset 3 (m1 negD (mc (.int 1)))) (mseq (mfor (k0 (mvar 2)) (.nm 4) b_Z11_f0) zz4))
def m_Z11 : MF := runB 9 b_Z11
def b_Z16_f0 : MS := (mapp 1 (mlst (u9 [none, some 2] (v5 rng1 (z5 (mvar 0) anil)) (.nm 0) (u6 (m2 eqSD (m2 andD (m2 shrD (mvar 1) (mvar 0)) (mc (.int 1))) (mc (.int 1)))) (mvar 0))))
def b_Z16 : MS := (mseq (a8 1 (w6 anil)) (mseq (mfor (v5 rng1 (z5 (m2 shlD (mc (.int 1)) (mvar 0)) anil)) (.nm 2) b_Z16_f0) (B5 1)))
def m_Z16 : MF := runB 3 b_Z16
def R6 : MS := (mset 3 (mlst (mcat (bvar 3) (u9 [none, some 4] (k0 (mlst (mcut (bvar 2) (e9 (m1 negD (mc (.int 3)))) c0))) (.nm 0) cyes (d9 max2F (z5 (mc (.int 1)) (z5 (d9 absF (z5 (m2 subD (mvar 1) (mvar 0)) anil)) anil)))))))
def M1 : MS := (mseq (a8 13 (K2 d6 (z5 (mvar 11) (z5 (mvar 5) anil)))) (mseq (a8 14 (K2 a9 (z5 (mvar 11) (z5 (mvar 5) anil)))) (mseq (mif (cor (cnot (mtru (mborT 13 (t8 m_Z10 (z5 (mvar 13) (z5 (mvar 8) anil)))))) (cor (cnot (mtru (mborT 14 (t8 m_Z10 (z5 (mvar 14) (z5 (mvar 10) anil)))))) (u6 (meqB true (bvar 11) (bvar 2))))) (mret (mc (.bl false))) X4) (mseq (mapp 13 (mc (.int 0))) (mapp 14 (mc (.int 0)))))))
def M0 : MS := (mseq (mset 6 (mlst (u9 [none, some 2, some 5] (k0 (t8 m_Z16 (z5 (mlen (bvar 2)) anil))) (.nm 0) (mtru (t8 m_Z11 (z5 (mvar 1) (z5 (mvar 2) (z5 (mvar 0) anil))))) (mvar 0)))) (mseq (mset 7 (mmaxL (u9 [none] (k0 (mvar 6)) (.nm 0) cyes (mlen (bvar 0))))) (mseq (mset 8 (mminP (u9 [none, some 7] (k0 (mvar 6)) (.nm 0) (u6 (m2 eqSD (mlen (bvar 0)) (mvar 1))) (mvar 0)))) (mseq (mset 9 (mlst (u9 [none] (k0 (mvar 6)) (.nm 0) cyes (mlen (bvar 0))))) (mseq (mset 10 (mlst (u9 [none, some 9] (v5 rng1 (z5 (m2 addD (m2 S9 (mvar 7) (mc (.int 2))) (mc (.int 1))) anil)) (.nm 0) cyes (mlen (u9 [none, some 0] (k0 (mvar 1)) (.nm 0) (u6 (m2 eqSD (mvar 0) (m2 mulD (mc (.int 2)) (mvar 1)))) (mc (.int 1))))))) (mseq (mset 11 (mlst (bvar 2))) (mfor (v5 rng1 (z5 (mc (.int 2)) anil)) (.nm 12) M1)))))))
def zz2 : MS := (mseq (mset 2 (t8 m_Z15 (z5 (mvar 1) (z5 (mc (.int 9)) anil)))) (mseq (mset 3 (mlst (w6 (z5 (mc (.int 1)) (z5 (m2 addD (mc (.int 2)) (m2 modD (t8 Q7 (z5 (mvar 1) (z5 (mc (.int 320)) anil))) (mc (.int 1000)))) anil))))) (mseq (mfor (k0 (mlst (mcut (bvar 2) c0 (e9 (mc (.int 3)))))) (.nm 4) R6) (mfor (k0 (mlst (mcat (mcut (Y0 (bvar 3)) c0 (e9 (mc (.int 4)))) (w6 (z5 (m2 addD (mmaxL (bvar 3)) (mc (.int 1))) anil))))) (.nm 5) M0))))
def b_Z17 : MS := (mseq (mfor (k0 (t8 m_Z12 (z5 (mvar 0) (z5 (mc (.int 4)) anil)))) (.nm 1) zz2) (mret (mc (.bl true))))
def m_Z17 : MF := runB 15 b_Z17
end
end
section
theorem eqS_ii (i j : Int) : eqS (.int i) (.int j) = some (i == j) := rfl
theorem eqS_bb (i j : Bool) : eqS (.bl i) (.bl j) = some (i == j) := rfl
theorem eqS_ss (i j : Str) : eqS (.str i) (.str j) = some (i == j) := rfl
theorem eqS_nn : eqS .non .non = some true := rfl
theorem eqS_nb (j : Bool) : eqS .non (.bl j) = some false := rfl
theorem eqS_bn (j : Bool) : eqS (.bl j) .non = some false := rfl
theorem eqS_ni (j : Int) : eqS .non (.int j) = some false := rfl
theorem eqS_in (j : Int) : eqS (.int j) .non = some false := rfl
local macro_rules | `(tactic| simp_arith [$ls,*]) => `(tactic| simp (config := {decide := true, implicitDefEqProofs := false}) only [runB, g9, map_cons, map_nil, length_cons, length_nil, List.replicate, cons_append, nil_append, mvar, bvar, mc, mlst, k0, m2, u6, subD, mulD, S9, modD, powD, shlD, shrD, andD, ltD, leD, gtD, geD, eqSD, neSD, eqS_ii, eqS_bb, eqS_ss, eqS_nn, eqS_nb, eqS_bn, eqS_ni, eqS_in, m1, negD, notD, mand, mtru, truD, cor, cnot, mite, anil, z5, w6, mtup, mlen, mix, c0, e9, mcut, mcat, addD, d9, lenF, absF, max2F, min2F, two2, intF, X4, mseq, mif, mnever, mset, a8, mexpr, mret, mretF, B5, mapp, L8, W4, masg, v5, zip2, cyes, t8, K2, meqB, misi, tyD, int2, bl2, tgD, P3, Option.bind_some, Option.map_some, Option.bind_none, Option.map_none, getElem?_cons_zero, getElem?_cons_succ, set_cons_zero, set_cons_succ, isEmpty_cons, isEmpty_nil, Bool.not_true, Bool.not_false, $ls,*])
def stir (c k : Int) : Int := if 10 ^ 18 <= c then (c - 10 ^ 18) / 2 ^ (28 * k).toNat % 2 ^ 28 else
 (((c + 1013 * k + 1) * 16807 % 2147483647) * ((c + 1013 * k + 1) * 16807 % 2147483647) % 2147483629) * 39373 % 2147483587 / 8
theorem mulOk_r (i j : Int) (h1 : -(2 ^ 64) < j) (h2 : j < 2 ^ 64) : S3 i j = true := by
 unfold S3; simp only [h1, h2, decide_true, Bool.and_self, Bool.or_true]
theorem Q4 (i j : Int) (h1 : -(2 ^ 64) < i) (h2 : i < 2 ^ 64) : S3 i j = true := by
 unfold S3; simp only [h1, h2, decide_true, Bool.and_self, Bool.true_or]
theorem n5 (i j : Int) (h : 0 < j) : J9 i j = true := by unfold J9; simp only [h, decide_true]
theorem seqI {x y : MS} {ρ ρ' : Ro} {o : Option Out} (h : x ρ = some (.nx ρ')) (h2 : y ρ' = o) : mseq x y ρ = o := by
 unfold mseq; rw [h]; exact h2
theorem seqR {x y : MS} {ρ : Ro} {d : D} (h : x ρ = some (.rt d)) : mseq x y ρ = some (.rt d) := by
 unfold mseq; rw [h]
def stepO {α : Type} (I : List α -> Ro -> Prop) (Q : Out -> Prop) (ds : List α) : Out -> Prop
 | .nx ρ => I ds ρ | .ct ρ => I ds ρ | .bk ρ => Q (.nx ρ) | .rt d => Q (.rt d) | .rf es => Q (.rf es) | .rp d es => Q (.rp d es) | .rg d p r => Q (.rg d p r) | .rgf d p r => Q (.rgf d p r)
theorem Z8 {α : Type} {g : Tg} {body : MS} {f : α -> D} (I : List α -> Ro -> Prop) (Q : Out -> Prop)
  (hs : ∀ d ds ρ, I (d :: ds) ρ -> ∃ ρ1 o, tgD g (f d) ρ = some ρ1 /\ body ρ1 = some o /\ stepO I Q ds o) (hd : ∀ ρ, I [] ρ -> Q (.nx ρ)) :
  ∀ (ds : List α) (ρ : Ro), I ds ρ -> ∃ o, forD g body (ds.map f) ρ = some o /\ Q o
 | [], ρ, h => ⟨.nx ρ, rfl, hd ρ h⟩
 | d :: ds, ρ, h => by
  obtain ⟨ρ1, o, h1, h2, h3⟩ := hs d ds ρ h
  rw [map_cons]
  unfold forD
  rw [h1]
  simp only [h2]
  cases o with
  | nx ρ2 => exact Z8 I Q hs hd ds ρ2 h3
  | ct ρ2 => exact Z8 I Q hs hd ds ρ2 h3
  | bk ρ2 => exact ⟨_, rfl, h3⟩
  | rt d => exact ⟨_, rfl, h3⟩
  | rf d => exact ⟨_, rfl, h3⟩
  | rp d es => exact ⟨_, rfl, h3⟩
  | rg d p r => exact ⟨_, rfl, h3⟩
  | rgf d p r => exact ⟨_, rfl, h3⟩
theorem k9 {α : Type} {g : Tg} {c : MB} {elt : ME} {f : α -> D} {G : α -> D} (I : List α -> Ro -> Prop)
  (hs : ∀ d ds ρ, I (d :: ds) ρ -> ∃ ρ1, tgD g (f d) ρ = some ρ1 /\ c ρ1 = some true /\ elt ρ1 = some (G d) /\ I ds ρ1) :
  ∀ (ds : List α) (ρ : Ro) (acc : List D), I ds ρ -> acc.length + ds.length <= sizeLine -> g7 g c elt (ds.map f) ρ acc = some (acc ++ ds.map G)
 | [], ρ, acc, h, hl => by simp [g7]
 | d :: ds, ρ, acc, h, hl => by
  obtain ⟨ρ1, h1, h2, h3, h4⟩ := hs d ds ρ h
  rw [map_cons]
  unfold g7
  rw [h1]
  simp only [h2, h3]
  rw [length_cons] at hl
  rw [if_pos (by omega), k9 I hs ds ρ1 _ h4 (by simp; omega)]
  simp
def cutI {α : Type} (xs : List α) (lo hi : Option Int) : List α := (xs.drop (HT.sIx xs.length 0 lo)).take (HT.sIx xs.length xs.length hi - HT.sIx xs.length 0 lo)
theorem c7 {α : Type} (f : α -> D) (xs : List α) (lo hi : Option Int) : cutL (xs.map f) lo hi = (cutI xs lo hi).map f := by
 unfold cutL cutI; rw [length_map, <- map_drop, <- map_take]
theorem cutI_from {α : Type} (xs : List α) (k : Nat) : cutI xs (some (k : Int)) none = xs.drop k := by
 unfold cutI
 rw [HT.sIx_nat, HT.sIx_none]
 rcases Nat.le_total k xs.length with h | h
 ·rw [Nat.min_eq_left h]; exact take_of_length_le (by simp)
 ·rw [Nat.min_eq_right h]; simp [drop_eq_nil_of_le h]
theorem A3 {α : Type} (xs : List α) (k : Nat) : cutI xs none (some (k : Int)) = xs.take k := by
 unfold cutI
 rw [HT.sIx_nat, HT.sIx_none]
 simp
theorem atI_map {α : Type} (f : α -> D) (xs : List α) (k : Int) (h0 : 0 <= k) (h1 : k < xs.length) (dflt : α) : atI (xs.map f) k = some (f (xs.getD k.toNat dflt)) := by
 unfold atI ixN
 rw [length_map, if_pos h0, if_pos h1]
 have hl : k.toNat < xs.length := by omega
 simp [getElem?_map, hl]
theorem atI_last {α : Type} (f : α -> D) (xs : List α) (x : α) : atI ((xs ++ [x]).map f) (-1) = some (f x) := by
 unfold atI ixN
 rw [length_map, if_neg (by decide), if_pos (by simp; omega)]
 have e : (-1 + ((xs ++ [x]).length : Int)).toNat = xs.length := by simp; omega
 rw [e]
 simp
theorem U7 {n : Nat} {m : MS} {ds : List D} {d : D} (h : m (g9 n ds) = some (.rt d)) : runB n m ds = some (.sh d) := by unfold runB; rw [h]
theorem M8 {n : Nat} {m : MS} {ds : List D} {d : List D} (h : m (g9 n ds) = some (.rf d)) : runB n m ds = some (.fr d) := by unfold runB; rw [h]
def after (rest : MS) : Out -> Option Out
 | .nx ρ => rest ρ | .bk ρ => some (.bk ρ) | .ct ρ => some (.ct ρ) | .rt d => some (.rt d) | .rf d => some (.rf d) | .rp d es => some (.rp d es) | .rg d p r => some (.rg d p r) | .rgf d p r => some (.rgf d p r)
theorem j6 {x y : MS} {ρ : Ro} {o : Out} (h : x ρ = some o) : mseq x y ρ = after y o := by
 unfold mseq; rw [h]; cases o <;> rfl
theorem D7 {α : Type} {mi : ML} {g : Tg} {body rest : MS} {ρ : Ro} {res : Option Out} {f : α -> D} (ds : List α) (hi : mi ρ = some (ds.map f)) (I : List α -> Ro -> Prop) (Q : Out -> Prop) (h0 : I ds ρ)
  (hs : ∀ d ds ρ, I (d :: ds) ρ -> ∃ ρ1 o, tgD g (f d) ρ = some ρ1 /\ body ρ1 = some o /\ stepO I Q ds o) (hd : ∀ ρ, I [] ρ -> Q (.nx ρ)) (hq : ∀ o, Q o -> after rest o = res) : mseq (mfor mi g body) rest ρ = res := by
 obtain ⟨o, e, q⟩ := Z8 (g := g) (body := body) I Q hs hd ds ρ h0
 rw [j6 (o := o) (by unfold mfor; rw [hi]; exact e)]
 exact hq o q
theorem max_if (i j : Int) : (if j > i then j else i) = max i j := by omega
theorem min_if (i j : Int) : (if j < i then j else i) = min i j := by omega
theorem abs_if (i : Int) : (if i < 0 then -i else i) = (i.natAbs : Int) := by omega
theorem t4 : 1000000 <= sizeLine := by rw [show sizeLine = 2 ^ 24 from rfl]; decide
theorem w5 {n : Nat} (h : n <= 1000000) : n <= sizeLine := Nat.le_trans h t4
theorem V0 (j n : Nat) (h : j < n) : List.range' j (n - j) = j :: List.range' (j + 1) (n - (j + 1)) := by
 have : n - j = (n - (j + 1)) + 1 := by omega
 rw [this, range'_succ]
theorem seq_forN {mi : ML} {g : Tg} {body rest : MS} {ρ : Ro} {res : Option Out} {f : Nat -> D} (n : Nat) (hi : mi ρ = some ((List.range n).map f)) (I : Nat -> Ro -> Prop) (Q : Out -> Prop) (h0 : I 0 ρ)
  (hs : ∀ j ρ, j < n -> I j ρ -> ∃ ρ1 o, tgD g (f j) ρ = some ρ1 /\ body ρ1 = some o /\ stepO (fun (_ : List Unit) ρ => I (j + 1) ρ) Q [] o) (hd : ∀ ρ, I n ρ -> Q (.nx ρ)) (hq : ∀ o, Q o -> after rest o = res) : mseq (mfor mi g body) rest ρ = res := by
 refine D7 (List.range n) hi (I := fun ks ρ => ∃ j, j <= n /\ ks = List.range' j (n - j) /\ I j ρ) (Q := Q) ⟨0, by omega, by rw [range_eq_range']; rfl, h0⟩ ?_ ?_ hq
 ·rintro d ds ρ ⟨j, hj, e, h⟩
  have hlt : j < n := by
   rcases Nat.lt_or_ge j n with z | z
   ·exact z
   ·rw [show n - j = 0 by omega] at e; cases e
  rw [V0 j n hlt] at e
  obtain ⟨e1, e2⟩ := List.cons.inj e
  subst e1
  obtain ⟨ρ1, o, a1, a2, a3⟩ := hs d ρ hlt h
  refine ⟨ρ1, o, a1, a2, ?_⟩
  cases o with
  | nx r => exact ⟨d + 1, by omega, e2, a3⟩
  | ct r => exact ⟨d + 1, by omega, e2, a3⟩
  | bk r => exact a3
  | rt r => exact a3
  | rf r => exact a3
  | rp r r2 => exact a3
  | rg r r2 r3 => exact a3
  | rgf r r2 r3 => exact a3
 ·rintro ρ ⟨j, hj, e, h⟩
  have : n - j = 0 := by
   rcases Nat.eq_zero_or_pos (n - j) with z | z
   ·exact z
   ·rw [V0 j n (by omega)] at e; cases e
  have : j = n := by omega
  subst this
  exact hd ρ h
theorem j7 {x n : Int} (hn : 0 < n) : 0 <= x % n /\ x % n < n := ⟨Int.emod_nonneg _ (by omega), Int.emod_lt_of_pos _ hn⟩
def Run (m : MS) (ρ : Ro) (R : Out -> Prop) : Prop := ∃ o, m ρ = some o /\ R o
def afterR (rest : MS) (R : Out -> Prop) : Out -> Prop
 | .nx ρ => Run rest ρ R | .bk ρ => R (.bk ρ) | .ct ρ => R (.ct ρ) | .rt d => R (.rt d) | .rf d => R (.rf d) | .rp d es => R (.rp d es) | .rg d p r => R (.rg d p r) | .rgf d p r => R (.rgf d p r)
theorem u0 {x y : MS} {ρ ρ' : Ro} {R : Out -> Prop} (h : x ρ = some (.nx ρ')) (h2 : Run y ρ' R) : Run (mseq x y) ρ R := by
 obtain ⟨o, e, r⟩ := h2
 exact ⟨o, seqI h e, r⟩
theorem N5 {x y : MS} {ρ : Ro} {R : Out -> Prop} (h : Run x ρ (afterR y R)) : Run (mseq x y) ρ R := by
 obtain ⟨o, e, r⟩ := h
 cases o with
 | nx ρ' => exact u0 e r
 | bk ρ' => exact ⟨_, j6 e, r⟩
 | ct ρ' => exact ⟨_, j6 e, r⟩
 | rt d => exact ⟨_, j6 e, r⟩
 | rf d => exact ⟨_, j6 e, r⟩
 | rp d es => exact ⟨_, j6 e, r⟩
 | rg d p' r' => exact ⟨_, j6 e, r⟩
 | rgf d p' r' => exact ⟨_, j6 e, r⟩
theorem run_for {α : Type} {mi : ML} {g : Tg} {body : MS} {ρ : Ro} {f : α -> D} (ds : List α) (hi : mi ρ = some (ds.map f)) (I : List α -> Ro -> Prop) (Q : Out -> Prop) (h0 : I ds ρ)
  (hs : ∀ d ds ρ, I (d :: ds) ρ -> ∃ ρ1, tgD g (f d) ρ = some ρ1 /\ Run body ρ1 (stepO I Q ds)) (hd : ∀ ρ, I [] ρ -> Q (.nx ρ)) : Run (mfor mi g body) ρ Q := by
 obtain ⟨o, e, q⟩ := Z8 (g := g) (body := body) I Q (fun d ds ρ h => by obtain ⟨ρ1, a, o, b, c⟩ := hs d ds ρ h; exact ⟨ρ1, o, a, b, c⟩) hd ds ρ h0
 exact ⟨o, by unfold mfor; rw [hi]; exact e, q⟩
theorem S1 {mi : ML} {g : Tg} {body : MS} {ρ : Ro} {f : Nat -> D} (n : Nat) (hi : mi ρ = some ((List.range n).map f)) (I : Nat -> Ro -> Prop) (Q : Out -> Prop) (h0 : I 0 ρ)
  (hs : ∀ j ρ, j < n -> I j ρ -> ∃ ρ1, tgD g (f j) ρ = some ρ1 /\ Run body ρ1 (stepO (fun (_ : List Unit) ρ => I (j + 1) ρ) Q [])) (hd : ∀ ρ, I n ρ -> Q (.nx ρ)) : Run (mfor mi g body) ρ Q := by
 refine run_for (List.range n) hi (I := fun ks ρ => ∃ j, j <= n /\ ks = List.range' j (n - j) /\ I j ρ) (Q := Q) ⟨0, by omega, by rw [range_eq_range']; rfl, h0⟩ ?_ ?_
 ·rintro d ds ρ ⟨j, hj, e, h⟩
  have hlt : j < n := by
   rcases Nat.lt_or_ge j n with z | z
   ·exact z
   ·rw [show n - j = 0 by omega] at e; cases e
  rw [V0 j n hlt] at e
  obtain ⟨e1, e2⟩ := List.cons.inj e
  subst e1
  obtain ⟨ρ1, a1, o, a2, a3⟩ := hs d ρ hlt h
  refine ⟨ρ1, a1, o, a2, ?_⟩
  cases o with
  | nx r => exact ⟨d + 1, by omega, e2, a3⟩
  | ct r => exact ⟨d + 1, by omega, e2, a3⟩
  | bk r => exact a3
  | rt r => exact a3
  | rf r => exact a3
  | rp r r2 => exact a3
  | rg r r2 r3 => exact a3
  | rgf r r2 r3 => exact a3
 ·rintro ρ ⟨j, hj, e, h⟩
  have : n - j = 0 := by
   rcases Nat.eq_zero_or_pos (n - j) with z | z
   ·exact z
   ·rw [V0 j n (by omega)] at e; cases e
  have : j = n := by omega
  subst this
  exact hd ρ h
theorem Q0 {i : Nat} {m : MS} {ρ : Ro} {ds : List D} {R : Out -> Prop} (h : ρ[i]? = some (some (.own ds))) (h2 : Run m (ρ.set i (some (.sh (.lst ds)))) R) : Run (W4 i m) ρ R := by
 obtain ⟨o, e, r⟩ := h2
 exact ⟨o, by unfold W4; rw [h]; exact e, r⟩
theorem run_if {c : MB} {x y : MS} {ρ : Ro} {R : Out -> Prop} {b : Bool} (h : c ρ = some b) (h2 : Run (if b then x else y) ρ R) : Run (mif c x y) ρ R := by
 obtain ⟨o, e, r⟩ := h2
 refine ⟨o, ?_, r⟩
 unfold mif; rw [h]
 cases b <;> exact e
theorem nat_of {x : Int} (h : 0 <= x) : ∃ n : Nat, x = n := ⟨x.toNat, by omega⟩
theorem E1 (lo : Int) (n : Nat) : X8 lo n = (List.range n).map fun (i : Nat) => D.int (lo + (i : Int)) := rfl
theorem f6 (n : Nat) : X8 0 n = ((List.range n).map fun (i : Nat) => (i : Int)).map .int := by
 rw [E1, map_map]
 apply map_congr_left
 intro i _
 simp
theorem Y9 {j : Int} (h1 : -(2 ^ 62) <= j) (h2 : j < 2 ^ 62) : okR j = true := by unfold okR; simp only [h1, h2, decide_true, Bool.and_self]
theorem X7 {j : Int} (h : okR j = true) : rng1 [.int j] = some (X8 0 j.toNat) := by
 unfold rng1
 simp only [h, if_true]
theorem rng2_ok {i j : Int} (h : okR i = true) (h2 : okR j = true) : rng2 [.int i, .int j] = some (X8 i (j - i).toNat) := by
 unfold rng2
 simp only [h, h2, Bool.and_self, if_true]
theorem runB_rfR {n : Nat} {m : MS} {ds : List D} {P : List D -> Prop} (h : Run m (g9 n ds) (fun o => ∃ es, o = .rf es /\ P es)) : ∃ es, runB n m ds = some (.fr es) /\ P es := by
 obtain ⟨o, e, es, rfl, p⟩ := h
 exact ⟨es, M8 e, p⟩
theorem run_retO {i : Nat} {ρ : Ro} {ds : List D} {R : Out -> Prop} (h : ρ[i]? = some (some (.own ds))) (h2 : R (.rf ds)) : Run (B5 i) ρ R := ⟨_, by unfold B5; rw [h], h2⟩
theorem K9 (i j : Int) (h : 0 < j) (h2 : j < 1073741824) : O2 i j = true := by unfold O2; simp only [h, h2, decide_true, Bool.and_self]
theorem at4 (a b c d : Int) (k : Int) (h0 : 0 <= k) (h1 : k < 4) : ∃ x, atI [D.int a, .int b, .int c, .int d] k = some (.int x) /\ (x = a \/ x = b \/ x = c \/ x = d) := by
 have : k = 0 \/ k = 1 \/ k = 2 \/ k = 3 := by omega
 rcases this with h | h | h | h <;> subst h
 ·exact ⟨_, rfl, by simp⟩
 ·exact ⟨_, rfl, by simp⟩
 ·exact ⟨_, rfl, by simp⟩
 ·exact ⟨_, rfl, by simp⟩
theorem at8 (a b c d e f g h : Int) (k : Int) (h0 : 0 <= k) (h1 : k < 8) : ∃ x, atI [D.int a, .int b, .int c, .int d, .int e, .int f, .int g, .int h] k = some (.int x) := by
 have : k = 0 \/ k = 1 \/ k = 2 \/ k = 3 \/ k = 4 \/ k = 5 \/ k = 6 \/ k = 7 := by omega
 rcases this with h | h | h | h | h | h | h | h <;> subst h <;> exact ⟨_, rfl⟩
theorem at2 (a b : Int) (k : Int) (h0 : 0 <= k) (h1 : k < 2) : ∃ x, atI [D.int a, .int b] k = some (.int x) := by
 have : k = 0 \/ k = 1 := by omega
 rcases this with h | h <;> subst h <;> exact ⟨_, rfl⟩
theorem zv5 : ∀ (row : List Int) (k : Nat), P1 k (row.map .int) = (List.range row.length).map fun (i : Nat) => D.tup [.int ((k + i : Nat) : Int), .int (row.getD i 0)]
 | [], k => rfl
 | x :: row, k => by
  rw [map_cons, P1, zv5 row (k + 1), length_cons, range_succ_eq_map, map_cons, map_map]
  congr 1
  apply map_congr_left
  intro i _
  simp only [Function.comp, Nat.succ_eq_add_one, getD_cons_succ]
  rw [show k + 1 + i = k + (i + 1) by omega]
theorem eq_nilF (ds : List D) : eqFD false (.lst ds) (.lst []) = some (.bl ds.isEmpty) := by
 unfold eqFD eqF
 cases ds with
 | nil => rfl
 | cons d ds => rfl
theorem eq_nilT (ds : List D) : eqFD true (.lst ds) (.lst []) = some (.bl (!ds.isEmpty)) := by
 unfold eqFD eqF
 cases ds with
 | nil => rfl
 | cons d ds => rfl
theorem zipE_int (n : Nat) : ∀ xs : List Int, zipE (eqF (n + 1)) (xs.map .int) (xs.map .int) = some true
 | [] => rfl
 | x :: xs => by
  rw [map_cons, zipE, zipE_int n xs]
  show (some (x == x)).bind _ = _
  rw [beq_self_eq_true]; rfl
theorem eqF_li (n : Nat) (xs : List Int) : eqF (n + 2) (.lst (xs.map .int)) (.lst (xs.map .int)) = some true := by
 show (if _ = _ then zipE (eqF (n + 1)) (xs.map .int) (xs.map .int) else some false) = _
 rw [if_pos rfl, zipE_int]
theorem runB_run {n : Nat} {m : MS} {ds : List D} {d : D} (h : Run m (g9 n ds) (fun o => o = .rt d)) : runB n m ds = some (.sh d) := by
 obtain ⟨o, e, rfl⟩ := h
 exact U7 e
theorem V3 {f : MF} {m : ML} {ρ : Ro} {ds es : List D} (h : m ρ = some ds) (h2 : f ds = some (.fr es)) : t8 f m ρ = some (.lst es) := by
 unfold t8; rw [h]; show (match f ds with | some (.sh d) => some d | some (.fr es) => some (D.lst es) | some (.pr d es) => some (.tup [d, .lst es]) | none => none) = _; rw [h2]
theorem j5 {f : MF} {m : ML} {ρ : Ro} {ds : List D} {d : D} (h : m ρ = some ds) (h2 : f ds = some (.sh d)) : t8 f m ρ = some d := by
 unfold t8; rw [h]; show (match f ds with | some (.sh d) => some d | some (.fr es) => some (D.lst es) | some (.pr d es) => some (.tup [d, .lst es]) | none => none) = _; rw [h2]
theorem z7 {x : ME} {r : ML} {ρ : Ro} {d : D} {ds : List D} (h : x ρ = some d) (h2 : r ρ = some ds) : z5 x r ρ = some (d :: ds) := by
 unfold z5; rw [h, h2]; rfl
theorem y6 {ρ : Ro} : anil ρ = some [] := rfl
theorem at_nat (row : List Int) (i : Nat) (h : i < row.length) : atI (row.map D.int) (i : Int) = some (.int (row.getD i 0)) := by
 have := atI_map D.int row (i : Int) (by omega) (by omega) 0
 rw [Int.toNat_natCast] at this
 exact this
theorem zv4 : ∀ ps : List Int, flVs (ps.map D.int) = some (ps.map V.int)
 | [] => rfl
 | p :: ps => by
  rw [map_cons, flVs, zv4 ps]; rfl
theorem mmaxL_ev {m : ML} {ρ : Ro} {x : Int} {r : List Int} (h : m ρ = some ((x :: r).map .int)) : mmaxL m ρ = some (.int (maxI (x :: r))) := by
 unfold mmaxL; rw [h]; simp only [W6]
theorem tlt_ev {x y : ME} {ρ : Ro} {i j : Int} (h1 : x ρ = some (.int i)) (h2 : y ρ = some (.int j)) : u6 (m2 ltD x y) ρ = some (decide (i < j)) := by
 unfold u6 m2; rw [h1, h2]; rfl
theorem o0 {α : Type} {g : Tg} {c : MB} {elt : ME} {f : α -> D} {p : α -> Bool} {G : α -> D} (I : List α -> Ro -> Prop)
  (hs : ∀ d ds ρ, I (d :: ds) ρ -> ∃ ρ1, tgD g (f d) ρ = some ρ1 /\ c ρ1 = some (p d) /\ (p d = true -> elt ρ1 = some (G d)) /\ I ds ρ1) :
  ∀ (ds : List α) (ρ : Ro) (acc : List D), I ds ρ -> acc.length + ds.length <= sizeLine -> g7 g c elt (ds.map f) ρ acc = some (acc ++ (ds.filter p).map G)
 | [], ρ, acc, h, hl => by simp [g7]
 | d :: ds, ρ, acc, h, hl => by
  obtain ⟨ρ1, h1, h2, h3, h4⟩ := hs d ds ρ h
  rw [length_cons] at hl
  rw [map_cons]
  unfold g7
  rw [h1]
  simp only [h2]
  cases hp : p d with
  | false =>
   simp only
   rw [o0 I hs ds ρ1 acc h4 (by omega), filter_cons, hp]
   rfl
  | true =>
   simp only [h3 hp]
   rw [if_pos (by omega), o0 I hs ds ρ1 _ h4 (by simp; omega), filter_cons, hp]
   simp
theorem cor_ev {x y : MB} {ρ : Ro} {a b : Bool} (h1 : x ρ = some a) (h2 : y ρ = some b) : cor x y ρ = some (a || b) := by
 unfold cor; rw [h1]; cases a <;> simp [h2]
theorem m6 {i : Nat} {x : ME} {ρ : Ro} {d : D} (h : x ρ = some d) : mset i x ρ = some (.nx (ρ.set i (some (.sh d)))) := by unfold mset; rw [h]; rfl
theorem n6 {m : ML} {ρ : Ro} {ds : List D} (h : m ρ = some ds) : mlst m ρ = some (.lst ds) := by unfold mlst; rw [h]; rfl
theorem t3 {m : ML} {ρ : Ro} {ds : List D} (h : m ρ = some ds) (hz : ds.length <= sizeLine) : w6 m ρ = some ds := by
 unfold w6; rw [h]; show (if ds.length <= sizeLine then some ds else none) = _; rw [if_pos hz]
theorem U4 {m : ML} {i : ME} {ρ : Ro} {ds : List D} {k : Int} {d : D} (h1 : m ρ = some ds) (h2 : i ρ = some (.int k)) (h3 : atI ds k = some d) : mix m i ρ = some d := by
 unfold mix; rw [h1, h2]; exact h3
theorem eqB_nilD {m : ML} {ρ : Ro} {ds : List D} (h : m ρ = some ds) (neg : Bool) : meqB neg m (w6 anil) ρ = some (.bl (if neg then !ds.isEmpty else ds.isEmpty)) := by
 have i0 : 0 <= sizeLine := Nat.zero_le _
 have e : w6 anil ρ = some [] := by simp_arith [i0, if_true]
 unfold meqB
 rw [h, e]
 cases neg
 ·simp only [Option.bind_some, eq_nilF]; rfl
 ·simp only [Option.bind_some, eq_nilT]; rfl
theorem c9 {m : ME} {ρ : Ro} {ds : List D} (h : m ρ = some (.lst ds)) : k0 m ρ = some ds := by unfold k0; rw [h]
theorem K0 {x y : ML} {ρ : Ro} {ds es : List D} (h1 : x ρ = some ds) (h2 : y ρ = some es) (hz : ds.length + es.length <= sizeLine) : mcat x y ρ = some (ds ++ es) := by
 unfold mcat; rw [h1, h2]; show (if ds.length + es.length <= sizeLine then some (ds ++ es) else none) = _; rw [if_pos hz]
theorem B3 {m : ML} {ρ : Ro} {ds : List D} (h : m ρ = some ds) (hz : ds.length <= sizeLine) : mtup m ρ = some (.tup ds) := by
 unfold mtup; rw [t3 h hz]; rfl
theorem Q5 {x : ME} {ρ : Ro} {d : D} (h : x ρ = some d) : mret x ρ = some (.rt d) := by unfold mret; rw [h]; rfl
theorem ks_ls : kitB "list" "str" = some false := by decide +kernel
theorem ks_is : kitB "int" "str" = some false := by decide +kernel
theorem ks_ll : kitB "list" "list" = some true := by decide +kernel
theorem ks_ii : kitB "int" "int" = some true := by decide +kernel
theorem ks_ib : kitB "int" "bool" = some false := by decide +kernel
theorem k2_i : zw7 "int" "list" "tuple" = some false := by decide +kernel
theorem k2_l : zw7 "list" "list" "tuple" = some true := by decide +kernel
theorem zip_self {α : Type} (f : α -> D) : ∀ xs : List α, List.zipWith (fun d e => D.tup [d, e]) (xs.map f) (xs.map f) = xs.map fun x => D.tup [f x, f x]
 | [] => rfl
 | x :: xs => by rw [map_cons, zipWith_cons_cons, zip_self f xs]; rfl
theorem filter_none {α : Type} (xs : List α) : xs.filter (fun _ => false) = [] := by
 induction xs with
 | nil => rfl
 | cons x xs ih => rw [filter_cons]; exact ih
theorem comp_none {α : Type} {f : α -> D} {mi : ML} {c : MB} {ρ : Ro} (xs : List α) (hi : mi ρ = some (xs.map fun x => D.tup [f x, f x])) (hl : xs.length <= 1000) (hc : ∀ x ∈ xs, c [some (.sh (f x)), some (.sh (f x))] = some false) :
  meqB false (u9 [none, none] mi (.tp [0, 1]) c (mc (.int 1))) (w6 anil) ρ = some (.bl true) := by
 have e : u9 [none, none] mi (.tp [0, 1]) c (mc (.int 1)) ρ = some [] := by
  unfold u9
  rw [hi]
  refine (o0 (f := fun x => D.tup [f x, f x]) (p := fun _ => false) (G := fun _ => D.int 1) (fun ys ρ => (∀ x ∈ ys, x ∈ xs) /\ ∃ a b, ρ = [a, b])
   (by
    rintro x ds ρ ⟨hx, a, b, rfl⟩
    exact ⟨_, rfl, hc x (hx x (by simp)), fun z => (by cases z), fun y hy => hx y (by simp [hy]), _, _, rfl⟩) xs _ [] ⟨fun _ h => h, none, none, rfl⟩ (w5 (by simp; omega))).trans ?_
  rw [filter_none]; rfl
 rw [eqB_nilD e false]; rfl
theorem eq_lst (xs : List Int) : eqFD true (.lst (xs.map .int)) (.lst (xs.map .int)) = some (.bl false) := by
 unfold eqFD
 rw [eqF_li 6]; rfl
section
open PySem L2
theorem mexpr_ev {x : ME} {ρ : Ro} {d : D} (h : x ρ = some d) : mexpr x ρ = some (.nx ρ) := by unfold mexpr; rw [h]; rfl
end
section
open PySem L2
theorem runK_rt {n : Nat} {m : MS} {ss : List S} {d : D} (h : m (U0 n ss) = some (.rt d)) : runK n m ss = some (.sh d) := by unfold runK; rw [h]
theorem runK_run {n : Nat} {m : MS} {ss : List S} {d : D} (h : Run m (U0 n ss) (fun o => o = .rt d)) : runK n m ss = some (.sh d) := by
 obtain ⟨o, e, rfl⟩ := h
 exact runK_rt e
theorem K1 {f : MK} {m : MA} {ρ : Ro} {ss : List S} {d : D} (h : m ρ = some ss) (h2 : f ss = some (.sh d)) : W5 f m ρ = some d := by
 unfold W5; rw [h, Option.bind_some, h2]
theorem A0 {x : ME} {r : MA} {ρ : Ro} {d : D} {ss : List S} (h : x ρ = some d) (h2 : r ρ = some ss) : P0 x r ρ = some (.sh d :: ss) := by
 unfold P0; rw [h, h2]
theorem krd_ev {i : Nat} {r : MA} {ρ : Ro} {q : Addr} {ds : List D} {ss : List S} (h : ρ[i]? = some (some (.rd q ds))) (h2 : r ρ = some ss) : krd i r ρ = some (.rd q ds :: ss) := by
 unfold krd; rw [h, h2]
theorem knil_ev {ρ : Ro} : knil ρ = some [] := rfl
end
section
open PySem L2
def lx : List Nat -> List Nat -> Bool
 | [], [] => false
 | [], _ :: _ => true
 | _ :: _, [] => false
 | a :: l, b :: m => decide (a < b) || (a == b && lx l m)
def l6 (l m : List Nat) : Bool := decide (m.length < l.length) || (l.length == m.length && lx l m)
theorem lx_irr : ∀ l, lx l l = false
 | [] => rfl
 | a :: l => by unfold lx; simp [lx_irr l]
theorem N8 : ∀ {a b c : List Nat}, lx a b = true -> lx b c = true -> lx a c = true
 | [], [], _, h, _ => by cases h
 | [], _ :: _, [], _, h => by cases h
 | [], _ :: _, _ :: _, _, _ => rfl
 | _ :: _, [], _, h, _ => by cases h
 | _ :: _, _ :: _, [], _, h => by cases h
 | a :: l, b :: m, c :: k, h1, h2 => by
  unfold lx at *
  simp only [Bool.or_eq_true, Bool.and_eq_true, decide_eq_true_eq, beq_iff_eq] at *
  rcases h1 with h1 | ⟨rfl, h1⟩ <;> rcases h2 with h2 | ⟨rfl, h2⟩
  ·exact .inl (by omega)
  ·exact .inl h1
  ·exact .inl h2
  ·exact .inr ⟨rfl, N8 h1 h2⟩
theorem lx_tri : ∀ (a b : List Nat), a = b \/ lx a b = true \/ lx b a = true
 | [], [] => .inl rfl
 | [], _ :: _ => .inr (.inl rfl)
 | _ :: _, [] => .inr (.inr rfl)
 | a :: l, b :: m => by
  unfold lx
  simp only [Bool.or_eq_true, Bool.and_eq_true, decide_eq_true_eq, beq_iff_eq]
  rcases Nat.lt_trichotomy a b with h | h | h
  ·exact .inr (.inl (.inl h))
  ·subst h
   rcases lx_tri l m with h | h | h
   ·exact .inl (by rw [h])
   ·exact .inr (.inl (.inr ⟨rfl, h⟩))
   ·exact .inr (.inr (.inr ⟨rfl, h⟩))
  ·exact .inr (.inr (.inl h))
theorem j0 (l m : List Nat) : l6 l m = true ↔ m.length < l.length \/ (l.length = m.length /\ lx l m = true) := by
 unfold l6
 simp only [Bool.or_eq_true, Bool.and_eq_true, decide_eq_true_eq, beq_iff_eq]
theorem Y5 {a b c : List Nat} (h1 : l6 a b = true) (h2 : l6 b c = true) : l6 a c = true := by
 rw [j0] at *
 rcases h1 with h1 | ⟨h1, h1'⟩ <;> rcases h2 with h2 | ⟨h2, h2'⟩
 ·exact .inl (by omega)
 ·exact .inl (by omega)
 ·exact .inl (by omega)
 ·exact .inr ⟨by omega, N8 h1' h2'⟩
theorem J3 (a b : List Nat) : a = b \/ l6 a b = true \/ l6 b a = true := by
 rw [j0, j0]
 rcases Nat.lt_trichotomy a.length b.length with h | h | h
 ·exact .inr (.inr (.inl h))
 ·rcases lx_tri a b with z | z | z
  ·exact .inl z
  ·exact .inr (.inl (.inr ⟨h, z⟩))
  ·exact .inr (.inr (.inr ⟨h.symm, z⟩))
 ·exact .inr (.inl (.inl h))
theorem R7 (a : List Nat) : l6 a a = false := by
 unfold l6; simp [lx_irr]
theorem ahead_cons (p : Nat) (a b : List Nat) : l6 (p :: a) (p :: b) = l6 a b := by
 unfold l6
 simp [lx]
def Best (P : List Nat -> Prop) (l : List Nat) : Prop := P l /\ ∀ m, P m -> l6 m l = false
theorem Best.unique {P : List Nat -> Prop} {l m : List Nat} (a : Best P l) (b : Best P m) : l = m := by
 rcases J3 l m with h | h | h
 ·exact h
 ·have := b.2 l a.1; rw [h] at this; cases this
 ·have := a.2 m b.1; rw [h] at this; cases this
theorem Best.iff {P Q : List Nat -> Prop} {l : List Nat} (a : Best P l) (h : ∀ m, P m ↔ Q m) : Best Q l := ⟨(h l).mp a.1, fun m hm => a.2 m ((h m).mpr hm)⟩
theorem Best.len {P : List Nat -> Prop} {l : List Nat} (a : Best P l) (m : List Nat) (h : P m) : m.length <= l.length := by
 have := a.2 m h
 rcases Nat.lt_or_ge l.length m.length with z | z
 ·rw [(j0 m l).mpr (.inl z)] at this; cases this
 ·exact z
def far (s : Int) (d : Bool) (a b : Int) : Prop := if d then s <= b - a else s <= a - b
instance (s : Int) (d : Bool) (a b : Int) : Decidable (far s d a b) := by unfold far; exact inferInstance
def Wd (x : Nat -> Int) (n : Nat) (s : Int) : Bool -> List Nat -> Prop
 | _, [] => False
 | _, [p] => p < n
 | d, p :: q :: l => p < q /\ far s d (x p) (x q) /\ Wd x n s (!d) (q :: l)
def Hd (p : Nat) (l : List Nat) : Prop := ∃ m, l = p :: m
variable {x : Nat -> Int} {n : Nat} {s : Int}
theorem Wd.lt : ∀ {l : List Nat} {d : Bool} {p : Nat}, Wd x n s d (p :: l) -> p < n
 | [], d, p, h => h
 | q :: l, d, p, h => Nat.lt_trans h.1 h.2.2.lt
theorem Wd.len : ∀ {l : List Nat} {d : Bool} {p : Nat}, Wd x n s d (p :: l) -> l.length + p < n
 | [], d, p, h => by have h : p < n := h; simpa using h
 | q :: l, d, p, h => by
  have := h.2.2.len
  have := h.1
  simp; omega
end
section
open PySem L2
variable {x : Nat -> Int} {n : Nat} {s : Int}
theorem ahead_nil (l : List Nat) (h : l ≠ []) : l6 [] l = false := by
 cases l with
 | nil => exact absurd rfl h
 | cons a l =>
  cases e : l6 [] (a :: l) with
  | false => rfl
  | true =>
   rw [j0] at e
   simp only [length_nil, length_cons] at e
   omega
theorem ahead_false {a b : List Nat} : l6 a b = false ↔ a = b \/ l6 b a = true := by
 constructor
 ·intro h
  rcases J3 a b with z | z | z
  ·exact .inl z
  ·rw [h] at z; cases z
  ·exact .inr z
 ·rintro (z | z)
  ·rw [z]; exact R7 _
  ·cases e : l6 a b with
   | false => rfl
   | true => have := Y5 e z; rw [R7] at this; cases this
theorem M3 {a b c : List Nat} (h1 : l6 a b = false) (h2 : l6 b c = false) : l6 a c = false := by
 rw [ahead_false] at *
 rcases h1 with rfl | h1
 ·exact h2
 ·rcases h2 with rfl | h2
  ·exact .inr h1
  ·exact .inr (Y5 h2 h1)
def fl : List (List Nat) -> List Nat -> List Nat
 | [], b => b
 | m :: ls, b => if b.length < m.length then fl ls m else fl ls b
def flD : List (List Nat) -> List Nat
 | [] => []
 | m :: ls => fl ls m
theorem lx_heads {a b : Nat} {l m : List Nat} (h : a < b) : lx (a :: l) (b :: m) = true := by
 unfold lx; simp [h]
end
section
open PySem L2
def dN (p : Nat) : D := .int (p : Int)
def L (l : List Nat) : D := .lst (l.map dN)
def Ky (l : List Nat) : D := .tup [.int (-(l.length : Int)), L l]
theorem eqF_nn (k : Nat) (a b : Nat) : eqF (k + 1) (dN a) (dN b) = some (a == b) := by
 show some ((a : Int) == (b : Int)) = _
 congr 1
 rw [Bool.eq_iff_iff, beq_iff_eq, beq_iff_eq]
 omega
theorem zipE_nn (k : Nat) : ∀ (l m : List Nat), l.length = m.length -> zipE (eqF (k + 1)) (l.map dN) (m.map dN) = some (l == m)
 | [], [], _ => rfl
 | [], _ :: _, h => by cases h
 | _ :: _, [], h => by cases h
 | a :: l, b :: m, h => by
  rw [map_cons, map_cons, zipE, eqF_nn, zipE_nn k l m (by simpa using h)]
  rfl
theorem lexF_nn (k : Nat) : ∀ (l m : List Nat), lexF (eqF (k + 1)) (ltF (k + 1)) (l.map dN) (m.map dN) = some (lx l m)
 | [], [] => rfl
 | [], _ :: _ => rfl
 | _ :: _, [] => rfl
 | a :: l, b :: m => by
  rw [map_cons, map_cons, lexF, eqF_nn]
  unfold lx
  by_cases h : a = b
  ·subst h
   simp only [beq_self_eq_true, Nat.lt_irrefl, decide_false, Bool.true_and, Bool.false_or]
   exact lexF_nn k l m
  ·have e : (a == b) = false := by simpa using h
   rw [e]
   simp only [Bool.false_and, Bool.or_false]
   show some (decide ((a : Int) < (b : Int))) = _
   congr 1
   apply decide_eq_decide.mpr
   omega
theorem lt_key (l m : List Nat) : ltF 8 (Ky l) (Ky m) = some (l6 l m) := by
 show lexF (eqF 7) (ltF 7) [.int (-(l.length : Int)), L l] [.int (-(m.length : Int)), L m] = _
 rw [lexF, show eqF 7 (.int (-(l.length : Int))) (.int (-(m.length : Int))) = some (-(l.length : Int) == -(m.length : Int)) from rfl]
 unfold l6
 by_cases h : l.length = m.length
 ·rw [h]
  simp only [beq_self_eq_true, Nat.lt_irrefl, decide_false, Bool.true_and, Bool.false_or]
  have e : eqF 7 (L l) (L m) = some (l == m) := by
   show (if (l.map dN).length = (m.map dN).length then zipE (eqF 6) (l.map dN) (m.map dN) else some false) = _
   rw [if_pos (by simpa using h), zipE_nn 5 l m h]
  rw [lexF, e]
  by_cases hq : l = m
  ·subst hq
   simp only [beq_self_eq_true]
   rw [lx_irr]; rfl
  ·have e2 : (l == m) = false := by simpa using hq
   rw [e2]
   exact lexF_nn 5 l m
 ·have e : (-(l.length : Int) == -(m.length : Int)) = false := by
   rw [beq_eq_false_iff_ne]; omega
  have e2 : (l.length == m.length) = false := by simpa using h
  rw [e, e2]
  simp only [Bool.false_and, Bool.or_false]
  show some (decide (-(l.length : Int) < -(m.length : Int))) = _
  congr 1
  apply decide_eq_decide.mpr
  omega
theorem B7 {mk : D -> Option D} (hk : ∀ l, mk (L l) = some (Ky l)) : ∀ (ls : List (List Nat)) (b : List Nat), ∃ r, minF mk (ls.map L) (L b) (Ky b) = some (L r) /\ r ∈ b :: ls /\ ∀ m ∈ b :: ls, l6 m r = false
 | [], b => ⟨b, rfl, by simp, by simp [R7]⟩
 | m :: ls, b => by
  rw [map_cons]
  unfold minF
  rw [hk m]
  simp only [lt_key m b]
  cases h : l6 m b with
  | true =>
   obtain ⟨r, e, h1, h2⟩ := B7 hk ls m
   refine ⟨r, e, mem_cons_of_mem _ h1, fun k hk' => ?_⟩
   rcases List.mem_cons.mp hk' with rfl | hk'
   ·cases z : l6 k r with
    | false => rfl
    | true => have := h2 m (by simp); rw [Y5 h z] at this; cases this
   ·exact h2 k hk'
  | false =>
   obtain ⟨r, e, h1, h2⟩ := B7 hk ls b
   refine ⟨r, e, ?_, fun k hk' => ?_⟩
   ·rcases List.mem_cons.mp h1 with h1 | h1
    ·simp [h1]
    ·simp [h1]
   ·have hb := h2 b (by simp)
    rcases List.mem_cons.mp hk' with rfl | hk'
    ·exact hb
    ·rcases List.mem_cons.mp hk' with rfl | hk'
     ·cases z : l6 k r with
      | false => rfl
      | true =>
       rcases J3 k b with w | w | w
       ·rw [w, hb] at z; cases z
       ·rw [h] at w; cases w
       ·rw [Y5 w z] at hb; cases hb
     ·exact h2 k (mem_cons_of_mem _ hk')
abbrev xr (row : List Int) : Nat -> Int := fun i => row.getD i 0
theorem tge_ev {x y : ME} {ρ : Ro} {i j : Int} (h1 : x ρ = some (.int i)) (h2 : y ρ = some (.int j)) : u6 (m2 geD x y) ρ = some (decide (j <= i)) := by
 unfold u6 m2; rw [h1, h2]; rfl
theorem d5 {m : ML} {ρ : Ro} {ds : List D} (h : m ρ = some ds) : mlen m ρ = some (.int ds.length) := by unfold mlen; rw [h]; rfl
theorem at_L (U : List (List Nat)) (p : Nat) (h : p < U.length) : atI (U.map L) (p : Int) = some (L (U.getD p [])) := by
 have := atI_map L U (p : Int) (by omega) (by omega) []
 rw [Int.toNat_natCast] at this
 exact this
theorem ixN_nat (n p : Nat) (h : p < n) : ixN n (p : Int) = some p := by
 unfold ixN
 rw [if_pos (by omega), if_pos (by omega), Int.toNat_natCast]
theorem getD_set_ne (U : List (List Nat)) (p q : Nat) (l : List Nat) (h : p ≠ q) : (U.set p l).getD q [] = U.getD q [] := by
 rw [getD_eq_getElem?_getD, getD_eq_getElem?_getD, getElem?_set_ne h]
theorem getD_set_eq (U : List (List Nat)) (p : Nat) (l : List Nat) (h : p < U.length) : (U.set p l).getD p [] = l := by
 rw [getD_eq_getElem?_getD, getElem?_set_self h]; rfl
theorem key_eq (l : List Nat) : m_Z7 [L l] = some (.sh (Ky l)) := by
 unfold m_Z7 b_Z7
 have i2 : 0 + 1 + 1 <= sizeLine := w5 (by decide)
 refine U7 ?_
 unfold L
 simp_arith [i2, if_true, length_map]
 rfl
theorem U3 (step : Int) (h : 1 <= step) : m_Z8 [.int step] = some (.sh .non) := by
 have : ¬ step < 1 := by omega
 unfold m_Z8 b_Z8
 simp_arith [this, decide_false]
theorem S5 {f : D -> D -> Option D} {x y : ME} {ρ : Ro} {a b : D} (h1 : x ρ = some a) (h2 : y ρ = some b) : m2 f x y ρ = f a b := by
 unfold m2; rw [h1, h2]; rfl
theorem V4 {α : Type} (f : Nat -> α) (j : Nat) : (List.range (j + 1)).map f = (List.range j).map f ++ [f j] := by
 rw [range_succ, map_append]; rfl
def abv (row : List Int) (s : Int) (d : Bool) (p : Nat) : List Nat := ((List.range (row.length - (p + 1))).map fun j => p + 1 + j).filter fun q => decide (far s d (xr row p) (xr row q))
theorem abv_mem {row : List Int} {s : Int} {d : Bool} {p q : Nat} : q ∈ abv row s d p ↔ p < q /\ q < row.length /\ far s d (xr row p) (xr row q) := by
 unfold abv
 rw [mem_filter, mem_map, decide_eq_true_eq]
 constructor
 ·rintro ⟨⟨j, hj, rfl⟩, h⟩
  have := List.mem_range.mp hj
  exact ⟨by omega, by omega, h⟩
 ·rintro ⟨h1, h2, h3⟩
  exact ⟨⟨q - (p + 1), List.mem_range.mpr (by omega), by omega⟩, h3⟩
theorem zz6 (row : List Int) (s : Int) (d : Bool) (p : Nat) : (abv row s d p).length <= row.length := by
 unfold abv
 refine Nat.le_trans (length_filter_le _ _) ?_
 rw [length_map, length_range]; omega
theorem rng_from (row : List Int) (p : Nat) (hr : row.length <= 300) (hp : p < row.length) : X8 ((p : Int) + 1) ((row.length : Int) - ((p : Int) + 1)).toNat = ((List.range (row.length - (p + 1))).map fun j => p + 1 + j).map dN := by
 rw [E1, show ((row.length : Int) - ((p : Int) + 1)).toNat = row.length - (p + 1) by omega, map_map]
 apply map_congr_left
 intro i _
 show D.int _ = D.int _
 congr 1
end
section
open PySem L2
theorem maxF_fl : ∀ (ls : List (List Nat)) (b : List Nat), maxF (ls.map L) (L b) (.int (b.length : Int)) = some (L (fl ls b))
 | [], b => rfl
 | m :: ls, b => by
  rw [map_cons]
  unfold maxF
  have e : P9 (L m) = some (.int (m.length : Int)) := by
   show some (D.int ((m.map dN).length : Int)) = _
   rw [length_map]
  rw [e]
  show (match some (decide ((m.length : Int) > (b.length : Int))) with | some true => _ | some false => _ | none => _) = _
  unfold fl
  by_cases h : b.length < m.length
  ·rw [if_pos h, decide_eq_true (by omega)]
   exact maxF_fl ls m
  ·rw [if_neg h, decide_eq_false (by omega)]
   exact maxF_fl ls b
theorem maxD_fl (ls : List (List Nat)) : maxD (ls.map L) (.lst []) = some (L (flD ls)) := by
 cases ls with
 | nil => rfl
 | cons m ls =>
  show (match P9 (L m) with | some kd => maxF (ls.map L) (L m) kd | none => none) = _
  have e : P9 (L m) = some (.int (m.length : Int)) := by
   show some (D.int ((m.map dN).length : Int)) = _
   rw [length_map]
  rw [e]
  exact maxF_fl ls m
theorem Z6 (R : List (List Nat)) (qs : List Nat) (hl : qs.length <= 1000) (hq : ∀ q ∈ qs, q < R.length) : m_Z3 [.lst (R.map L), .lst (qs.map dN)] = some (.sh (L (flD (qs.map fun q => R.getD q [])))) := by
 unfold m_Z3 b_Z3
 refine U7 ?_
 have e1 : u9 [none, some 0] (k0 (mvar 1)) (.nm 0) cyes (mix (bvar 1) (mvar 0)) (g9 2 [.lst (R.map L), .lst (qs.map dN)]) = some ((qs.map fun q => R.getD q []).map L) := by
  unfold u9
  rw [c9 (m := mvar 1) (ds := qs.map dN) rfl, Option.bind_some]
  refine (k9 (f := dN) (G := fun q => L (R.getD q [])) (fun ks ρ => (∀ q ∈ ks, q < R.length) /\ ∃ o, ρ = [o, some (.sh (.lst (R.map L)))]) (by
   rintro q ks ρ ⟨h, o, rfl⟩
   exact ⟨[some (.sh (dN q)), some (.sh (.lst (R.map L)))], rfl, rfl, U4 (m := bvar 1) rfl rfl (at_L R q (h q (by simp))), fun r hr => h r (by simp [hr]), _, rfl⟩) qs _ [] ⟨hq, none, rfl⟩ (w5 (by simp; omega))).trans ?_
  rw [nil_append, map_map]
  rfl
 unfold mret
 rw [mmaxLen_ev e1 (n6 (t3 y6 (Nat.zero_le _))), maxD_fl]
 rfl
theorem borL_ev {i : Nat} {m : ME} {ρ : Ro} {ds : List D} {d : D} (h : ρ[i]? = some (some (.own ds))) (h2 : m (ρ.set i (some (.sh (.lst ds)))) = some d) (h3 : tellL ds d = true) : mborL i m ρ = some d := by
 unfold mborL
 rw [h]
 simp only [h2, h3, if_true]
theorem nums_dN (l : List Nat) : zx8 (l.map dN) = true := by
 induction l with
 | nil => rfl
 | cons a l ih => exact ih
theorem tell_L (R : List (List Nat)) (l : List Nat) (h : R ≠ []) : tellL (R.map L) (L l) = true := by
 cases R with
 | nil => exact absurd rfl h
 | cons a R =>
  show (zx8 (l.map dN) && true) = true
  rw [nums_dN]; rfl
theorem setL_ev {i : Nat} {ix v : ME} {ρ : Ro} {A : List (List Nat)} {l : List Nat} {p : Nat} (h : ρ[i]? = some (some (.own (A.map L)))) (hi : ix ρ = some (.int (p : Int))) (hv : v ρ = some (L l)) (hp : p < A.length) : L8 i ix v ρ = some (.nx (ρ.set i (some (.own ((A.set p l).map L))))) := by
 unfold L8
 rw [hv, h, hi]
 show ((ixN (A.map L).length (p : Int)).map fun j => Out.nx (ρ.set i (some (.own ((A.map L).set j (L l)))))) = _
 rw [length_map, ixN_nat _ _ hp]
 show some (Out.nx _) = _
 rw [map_set]
theorem ek (l : List Nat) : shOf (m_Z7 [L l]) = some (Ky l) := by rw [key_eq]; rfl
def Ab (row : List Int) (s : Int) (d : Bool) : List (List Nat) := (List.range row.length).map (abv row s d)
abbrev SP (row : List Int) (s : Int) : D := .tup [.lst ((Ab row s true).map L), .lst ((Ab row s false).map L)]
theorem J6 (row : List Int) (s : Int) (d : Bool) : (Ab row s d).length = row.length := by unfold Ab; simp
theorem Ab_get (row : List Int) (s : Int) (d : Bool) (p : Nat) (h : p < row.length) : (Ab row s d).getD p [] = abv row s d p := by
 unfold Ab
 rw [getD_eq_getElem?_getD, getElem?_map, getElem?_range h]; rfl
theorem zz5 (row : List Int) (s : Int) (d : Bool) (p : Nat) : (abv row s d p).Pairwise (· < ·) := by
 unfold abv
 refine List.Pairwise.filter _ ?_
 rw [pairwise_map]
 exact (pairwise_lt_range).imp fun h => by omega
theorem nils_ev (n : Nat) (hn : n <= 300) (ρ : Ro) (m : ML) (ds : List D) (hm : m ρ = some ds) (hd : ds.length = n) : mrep (w6 (z5 (mlst (w6 anil)) anil)) (mlen m) ρ = some ((List.replicate n ([] : List Nat)).map L) := by
 have i1 : 0 + 1 <= sizeLine := w5 (by decide)
 have big := t4
 rw [mrep_ev (ds := [.lst []]) (k := (n : Int)) (t3 (z7 (n6 (t3 y6 (Nat.zero_le _))) y6) i1) (by rw [d5 hm, hd]) (by unfold repOk; simp only [Bool.and_eq_true, decide_eq_true_eq, length_singleton]; omega), Int.toNat_natCast]
 congr 1
 rw [map_replicate, flatten_replicate_singleton]
 rfl
theorem rep_get (n q : Nat) : (List.replicate n ([] : List Nat)).getD q [] = [] := by
 rw [getD_eq_getElem?_getD, getElem?_replicate]
 split <;> rfl
end
section
open PySem L2
def A2 (qr : Addr) (row : List Int) (s : Int) (A B : List (List Nat)) (o4 o5 : Option S) : Ro := [some (.rd qr (row.map .int)), some (.sh (.int s)), some (.own (A.map L)), some (.own (B.map L)), o4, o5]
theorem abv_comp (qr : Addr) (row : List Int) (s : Int) (d : Bool) (p : Nat) (hr : row.length <= 300) (hp : p < row.length) (A B : List (List Nat)) (test : MB)
  (ht : ∀ q : Nat, q < row.length -> test [some (.sh (dN q)), some (.sh (.int s)), some (.sh (.int (xr row p))), some (.rd qr (row.map .int))] = some (decide (far s d (xr row p) (xr row q)))) :
  L9 [none, some 1, some 5, some 0] (v5 rng2 (z5 (m2 addD (mvar 4) (mc (.int 1))) (z5 (mlen (bvar 0)) anil))) (.nm 0) test (mvar 0) (A2 qr row s A B (some (.sh (.int (p : Int)))) (some (.sh (.int (xr row p))))) = some ((abv row s d p).map dN) := by
 have k1 : okR ((p : Int) + 1) = true := Y9 (by omega) (by omega)
 have k2 : okR (row.length : Int) = true := Y9 (by omega) (by omega)
 have e1 : v5 rng2 (z5 (m2 addD (mvar 4) (mc (.int 1))) (z5 (mlen (bvar 0)) anil)) (A2 qr row s A B (some (.sh (.int (p : Int)))) (some (.sh (.int (xr row p))))) = some (((List.range (row.length - (p + 1))).map fun j => p + 1 + j).map dN) := by
  unfold A2
  simp_arith [length_map, rng2_ok k1 k2, rng_from row p hr hp]
 unfold L9
 rw [e1, Option.bind_some]
 show g7 _ _ _ _ [none, some (.sh (.int s)), some (.sh (.int (xr row p))), some (.rd qr (row.map .int))] [] = _
 rw [o0 (f := dN) (p := fun q => decide (far s d (xr row p) (xr row q))) (G := dN) (fun qs ρ => (∀ q ∈ qs, q < row.length) /\ ∃ o, ρ = [o, some (.sh (.int s)), some (.sh (.int (xr row p))), some (.rd qr (row.map .int))])
  (by
   rintro q qs ρ ⟨hq, o, rfl⟩
   exact ⟨_, rfl, ht q (hq q (by simp)), fun _ => rfl, fun r hr => hq r (by simp [hr]), _, rfl⟩) _ _ [] ⟨fun q hq => by
    obtain ⟨j, hj, rfl⟩ := List.mem_map.mp hq
    have := List.mem_range.mp hj
    omega, _, rfl⟩ (w5 (by simp; omega)), nil_append]
 rfl
theorem G2 (qr : Addr) (row : List Int) (s : Int) (hr : row.length <= 300) : m_Z2 [.rd qr (row.map .int), .sh (.int s)] = some (.sh (.tup [.lst (((List.range row.length).map (abv row s true)).map L), .lst (((List.range row.length).map (abv row s false)).map L)])) := by
 unfold m_Z2 b_Z2
 refine runK_run ?_
 have big := t4
 have i0 : 0 <= sizeLine := Nat.zero_le _
 have i2 : 2 <= sizeLine := w5 (by decide)
 refine u0 (ρ' := [some (.rd qr (row.map .int)), some (.sh (.int s)), some (.own []), none, none, none]) (by unfold a8; rw [t3 y6 i0]; rfl) ?_
 refine u0 (ρ' := A2 qr row s [] [] none none) (by unfold a8; rw [t3 y6 i0]; rfl) ?_
 have ee : rde 0 (A2 qr row s [] [] none none) = some ((List.range row.length).map fun (i : Nat) => D.tup [.int (i : Int), .int (xr row i)]) := by
  unfold rde
  rw [show rdl 0 (A2 qr row s [] [] none none) = some (row.map .int) by unfold rdl; rfl]
  show some (P1 0 (row.map .int)) = _
  rw [zv5]
  congr 1
  apply map_congr_left
  intro i _
  rw [Nat.zero_add]
 refine N5 (S1 row.length (f := fun (i : Nat) => D.tup [.int (i : Int), .int (xr row i)]) ee
  (I := fun j ρ => ∃ o4 o5, ρ = A2 qr row s ((List.range j).map (abv row s true)) ((List.range j).map (abv row s false)) o4 o5) _ ⟨_, _, rfl⟩ ?_ ?_)
 ·rintro j ρ hj ⟨o4, o5, rfl⟩
  refine ⟨A2 qr row s ((List.range j).map (abv row s true)) ((List.range j).map (abv row s false)) (some (.sh (.int (j : Int)))) (some (.sh (.int (xr row j)))), rfl, ?_⟩
  unfold b_Z2_f0
  have aj : ∀ q : Nat, q < row.length -> mix (bvar 3) (mvar 0) [some (.sh (dN q)), some (.sh (.int s)), some (.sh (.int (xr row j))), some (.rd qr (row.map .int))] = some (.int (xr row q)) := fun q hq => U4 rfl rfl (at_nat row q hq)
  have c1 := abv_comp qr row s true j hr hj ((List.range j).map (abv row s true)) ((List.range j).map (abv row s false)) (u6 (m2 geD (m2 subD (mix (bvar 3) (mvar 0)) (mvar 2)) (mvar 1))) (fun q hq => by
   rw [tge_ev ((S5 (aj q hq) rfl).trans (show subD (.int (xr row q)) (.int (xr row j)) = some (.int (xr row q - xr row j)) from rfl)) rfl]
   unfold far; simp)
  have c2 := abv_comp qr row s false j hr hj ((List.range (j + 1)).map (abv row s true)) ((List.range j).map (abv row s false)) (u6 (m2 geD (m2 subD (mvar 2) (mix (bvar 3) (mvar 0))) (mvar 1))) (fun q hq => by
   rw [tge_ev ((S5 (show mvar 2 _ = some (.int (xr row j)) from rfl) (aj q hq)).trans (show subD (.int (xr row j)) (.int (xr row q)) = some (.int (xr row j - xr row q)) from rfl)) rfl]
   unfold far; simp)
  have app : ∀ (ρ : Ro) (i : Nat) (M : List (List Nat)) (m : ML) (l : List Nat), ρ[i]? = some (some (.own (M.map L))) -> m ρ = some (l.map dN) -> M.length < sizeLine -> mapp i (mlst m) ρ = some (.nx (ρ.set i (some (.own ((M ++ [l]).map L))))) := by
   intro ρ i M m l h1 h2 h3
   unfold mapp
   rw [h1, n6 h2]
   show (some (D.lst (l.map dN))).bind (fun d => if (M.map L).length < sizeLine then some (Out.nx (ρ.set i (some (.own (M.map L ++ [d]))))) else none) = _
   rw [Option.bind_some, if_pos (by rw [length_map]; exact h3), map_append]
   rfl
  refine u0 (ρ' := A2 qr row s ((List.range (j + 1)).map (abv row s true)) ((List.range j).map (abv row s false)) (some (.sh (.int (j : Int)))) (some (.sh (.int (xr row j))))) ?_ ?_
  ·rw [app _ 2 _ _ _ rfl c1 (by simp; omega), <- V4]
   rfl
  ·refine ⟨_, app _ 3 _ _ _ rfl c2 (by simp; omega), ?_⟩
   rw [<- V4]
   exact ⟨_, _, rfl⟩
 ·rintro ρ ⟨o4, o5, rfl⟩
  unfold b_Z2_r1
  refine Q0 (ds := ((List.range row.length).map (abv row s false)).map L) rfl (Q0 (ds := ((List.range row.length).map (abv row s true)).map L) rfl ⟨_, Q5 (B3 (z7 (d := .lst (((List.range row.length).map (abv row s true)).map L)) rfl (z7 (d := .lst (((List.range row.length).map (abv row s false)).map L)) rfl y6)) i2), rfl⟩)
theorem O7 (qr : Addr) (row : List Int) (s : Int) (hr : row.length <= 300) : m_Z6 [.rd qr (row.map .int), .sh (.int s)] = some (.sh (.tup [.tup [.lst ((Ab row s true).map L), .lst ((Ab row s false).map L)], .tup [.lst ((Ab row s false).map L), .lst ((Ab row s true).map L)]])) := by
 have i2 : 2 <= sizeLine := w5 (by decide)
 unfold m_Z6 b_Z6
 refine runK_run ?_
 refine u0 (ρ' := [some (.rd qr (row.map .int)), some (.sh (.int s)), some (.sh (.lst ((Ab row s true).map L))), some (.sh (.lst ((Ab row s false).map L)))]) ?_ ?_
 ·unfold masg
  rw [K1 (krd_ev (q := qr) (ds := row.map .int) rfl (A0 (d := .int s) rfl knil_ev)) (G2 qr row s hr)]
  rfl
 ·exact ⟨_, Q5 (B3 (z7 (B3 (z7 (d := .lst ((Ab row s true).map L)) rfl (z7 (d := .lst ((Ab row s false).map L)) rfl y6)) i2) (z7 (B3 (z7 (d := .lst ((Ab row s false).map L)) rfl (z7 (d := .lst ((Ab row s true).map L)) rfl y6)) i2) y6)) i2), rfl⟩
end
section
open PySem L2
def Bo (P : List Nat -> Prop) (l : List Nat) : Prop := Best (fun m => m = [] \/ P m) l
theorem M2 (r : List Nat) : l6 [] r = false := by
 cases r with
 | nil => rfl
 | cons a r => exact ahead_nil _ (by simp)
theorem Bo.iff {P Q : List Nat -> Prop} {l : List Nat} (a : Bo P l) (h : ∀ m, P m ↔ Q m) : Bo Q l := Best.iff a fun m => by rw [h m]
theorem fl_bo : ∀ (ls : List (List Nat)) (b : List Nat), (b :: ls).Pairwise (fun a c => a = [] \/ c = [] \/ lx a c = true) -> fl ls b ∈ b :: ls /\ ∀ m ∈ b :: ls, l6 m (fl ls b) = false
 | [], b, _ => ⟨by simp [fl], by simp [fl, R7]⟩
 | m :: ls, b, h => by
  have hp := List.pairwise_cons.mp h
  unfold fl
  by_cases hl : b.length < m.length
  ·rw [if_pos hl]
   obtain ⟨h1, h2⟩ := fl_bo ls m hp.2
   refine ⟨mem_cons_of_mem _ h1, fun k hk => ?_⟩
   rcases List.mem_cons.mp hk with rfl | hk
   ·exact M3 (ahead_false.mpr (.inr ((j0 m k).mpr (.inl hl)))) (h2 m (by simp))
   ·exact h2 k hk
  ·rw [if_neg hl]
   have hs : (b :: ls).Pairwise (fun a c => a = [] \/ c = [] \/ lx a c = true) := List.pairwise_cons.mpr ⟨fun c hc => hp.1 c (by simp [hc]), (List.pairwise_cons.mp hp.2).2⟩
   obtain ⟨h1, h2⟩ := fl_bo ls b hs
   refine ⟨?_, fun k hk => ?_⟩
   ·rcases List.mem_cons.mp h1 with z | z
    ·rw [z]; simp
    ·simp [z]
   ·rcases List.mem_cons.mp hk with rfl | hk
    ·exact h2 k (by simp)
    ·rcases List.mem_cons.mp hk with rfl | hk
     ·refine M3 (b := b) ?_ (h2 b (by simp))
      rcases hp.1 k (by simp) with z | z | z
      ·rw [z] at hl ⊢
       rw [length_nil] at hl
       have : k = [] := List.length_eq_zero_iff.mp (by omega)
       rw [this]; rfl
      ·rw [z]; exact M2 _
      ·refine ahead_false.mpr (.inr ((j0 b k).mpr ?_))
       rcases Nat.lt_or_ge k.length b.length with w | w
       ·exact .inl w
       ·exact .inr ⟨by omega, z⟩
     ·exact h2 k (by simp [hk])
theorem flD_bo {qs : List Nat} {T : Nat -> List Nat} {Q : Nat -> List Nat -> Prop} (hr : qs.Pairwise (· < ·)) (hh : ∀ q ∈ qs, ∀ m, Q q m -> Hd q m) (hT : ∀ q ∈ qs, Bo (Q q) (T q)) : Bo (fun m => ∃ q ∈ qs, Q q m) (flD (qs.map T)) := by
 cases qs with
 | nil => exact ⟨.inl rfl, fun m hm => by
   rcases hm with rfl | ⟨q, hq, _⟩
   ·rfl
   ·cases hq⟩
 | cons q0 qs =>
  have pw : ((q0 :: qs).map T).Pairwise (fun a c => a = [] \/ c = [] \/ lx a c = true) := by
   rw [pairwise_map]
   refine hr.imp_of_mem fun {a b} ha hb hab => ?_
   rcases (hT a ha).1 with z | z
   ·exact .inl z
   ·rcases (hT b hb).1 with w | w
    ·exact .inr (.inl w)
    ·obtain ⟨m1, e1⟩ := hh a ha _ z
     obtain ⟨m2, e2⟩ := hh b hb _ w
     rw [e1, e2]
     exact .inr (.inr (lx_heads hab))
  obtain ⟨h1, h2⟩ := fl_bo (qs.map T) (T q0) (by simpa using pw)
  have h1 : flD ((q0 :: qs).map T) ∈ (q0 :: qs).map T := by simpa [flD] using h1
  have h2 : ∀ m ∈ (q0 :: qs).map T, l6 m (flD ((q0 :: qs).map T)) = false := by simpa [flD] using h2
  obtain ⟨q, hqm, e⟩ := List.mem_map.mp h1
  refine ⟨?_, fun m hm => ?_⟩
  ·rw [<- e]
   rcases (hT q hqm).1 with z | z
   ·exact .inl z
   ·exact .inr ⟨q, hqm, z⟩
  ·rcases hm with rfl | ⟨r, hrm, z⟩
   ·exact M2 _
   ·exact M3 ((hT r hrm).2 m (.inr z)) (h2 _ (List.mem_map.mpr ⟨r, hrm, rfl⟩))
theorem bo_cons {P : List Nat -> Prop} {b : List Nat} {p : Nat} (hb : Bo P b) (hn : ∀ m, P m -> m ≠ []) (a : Bool) : Bo (fun m => ∃ k, m = p :: k /\ (P k \/ (k = [] /\ a = true))) (if (!b.isEmpty || a) = true then p :: b else []) := by
 by_cases hc : (!b.isEmpty || a) = true
 ·rw [if_pos hc]
  refine ⟨.inr ⟨b, rfl, ?_⟩, fun m hm => ?_⟩
  ·rcases hb.1 with z | z
   ·subst z
    exact .inr ⟨rfl, by simpa using hc⟩
   ·exact .inl z
  ·rcases hm with rfl | ⟨k, rfl, hk⟩
   ·exact M2 _
   ·rw [ahead_cons]
    exact hb.2 k (hk.elim .inr fun z => .inl z.1)
 ·rw [if_neg hc]
  have hbe : b = [] /\ a = false := by
   cases b with
   | nil => exact ⟨rfl, by simpa using hc⟩
   | cons _ _ => simp at hc
  obtain ⟨rfl, rfl⟩ := hbe
  refine ⟨.inl rfl, fun m hm => ?_⟩
  rcases hm with rfl | ⟨k, rfl, hk⟩
  ·rfl
  ·exfalso
   rcases hk with hk | ⟨_, hk⟩
   ·have := hb.2 k (.inr hk)
    have hne := hn k hk
    cases k with
    | nil => exact hne rfl
    | cons y k => rw [(j0 _ _).mpr (.inl (by simp))] at this; cases this
   ·cases hk
section
variable (x : Nat -> Int) (n : Nat) (s : Int)
def En (la : Nat -> Prop) (l : List Nat) : Prop := ∃ z, l.getLast? = some z /\ la z
def Ra (la : Nat -> Prop) (o : Nat) (d : Bool) (p : Nat) (l : List Nat) : Prop := Wd x n s d l /\ Hd p l /\ l.length % 2 = o /\ En la l
end
variable {x : Nat -> Int} {n : Nat} {s : Int}
theorem En.cons {la : Nat -> Prop} {p q : Nat} {l : List Nat} : En la (p :: q :: l) ↔ En la (q :: l) := by unfold En; rw [getLast?_cons_cons]
theorem Ra.ne {la : Nat -> Prop} {o : Nat} {d : Bool} {p : Nat} {l : List Nat} (h : Ra x n s la o d p l) : l ≠ [] := by
 obtain ⟨_, ⟨m, rfl⟩, _⟩ := h; simp
theorem zy6 {la : Nat -> Prop} {d : Bool} {p : Nat} {l : List Nat} (hp : p < n) : Ra x n s la 1 d p l ↔ ∃ k, l = p :: k /\ ((∃ q, (p < q /\ q < n /\ far s d (x p) (x q)) /\ Ra x n s la 0 (!d) q k) \/ (k = [] /\ la p)) := by
 constructor
 ·rintro ⟨h1, ⟨k, rfl⟩, h3, h4⟩
  refine ⟨k, rfl, ?_⟩
  cases k with
  | nil =>
   obtain ⟨z, e, hz⟩ := h4
   cases e
   exact .inr ⟨rfl, hz⟩
  | cons q k =>
   refine .inl ⟨q, ⟨h1.1, h1.2.2.lt, h1.2.1⟩, h1.2.2, ⟨k, rfl⟩, ?_, En.cons.mp h4⟩
   simp only [length_cons] at h3 ⊢; omega
 ·rintro ⟨k, rfl, ⟨q, ⟨a1, a2, a3⟩, b1, ⟨m, rfl⟩, b3, b4⟩ | ⟨rfl, h⟩⟩
  ·refine ⟨⟨a1, a3, b1⟩, ⟨_, rfl⟩, ?_, En.cons.mpr b4⟩
   simp only [length_cons] at b3 ⊢; omega
  ·exact ⟨hp, ⟨_, rfl⟩, rfl, ⟨p, rfl, h⟩⟩
theorem U8 {la : Nat -> Prop} {d : Bool} {p : Nat} {l : List Nat} (hp : p < n) : Ra x n s la 0 d p l ↔ ∃ k, l = p :: k /\ ∃ q, (p < q /\ q < n /\ far s d (x p) (x q)) /\ Ra x n s la 1 (!d) q k := by
 constructor
 ·rintro ⟨h1, ⟨k, rfl⟩, h3, h4⟩
  refine ⟨k, rfl, ?_⟩
  cases k with
  | nil => simp at h3
  | cons q k =>
   refine ⟨q, ⟨h1.1, h1.2.2.lt, h1.2.1⟩, h1.2.2, ⟨k, rfl⟩, ?_, En.cons.mp h4⟩
   simp only [length_cons] at h3 ⊢; omega
 ·rintro ⟨k, rfl, q, ⟨a1, a2, a3⟩, b1, ⟨m, rfl⟩, b3, b4⟩
  refine ⟨⟨a1, a3, b1⟩, ⟨_, rfl⟩, ?_, En.cons.mpr b4⟩
  simp only [length_cons] at b3 ⊢; omega
end
section
open PySem L2
abbrev La (row : List Int) (s : Int) (d : Bool) (f : Nat) : Nat -> Prop := fun z => z ∈ abv row s d f
abbrev RaR (row : List Int) (s : Int) (d : Bool) (f : Nat) (o : Nat) (e : Bool) : Nat -> List Nat -> Prop := Ra (xr row) row.length s (La row s d f) o e
def eB (row : List Int) (s : Int) (d : Bool) (f : Nat) (G B : List (List Nat)) (o6 o7 : Option S) : Ro := [some (.sh (.int (f : Int))), some (.sh (.lst ((Ab row s d).map L))), some (.sh (.lst ((Ab row s (!d)).map L))), some (.sh (L (abv row s d f))), some (.own (G.map L)), some (.own (B.map L)), o6, o7]
structure Beh (row : List Int) (s : Int) (d : Bool) (f p : Nat) (G B : List (List Nat)) : Prop where
 lG : G.length = row.length
 lB : B.length = row.length
 at' : ∀ q, p <= q -> q < row.length -> Bo (RaR row s d f 1 (!d) q) (G.getD q []) /\ Bo (RaR row s d f 0 d q) (B.getD q [])
 yet : ∀ q, q < p -> G.getD q [] = [] /\ B.getD q [] = []
theorem bo_lenE {row : List Int} {s : Int} {d e : Bool} {f o : Nat} {qs : List Nat} {l : List Nat} (h : Bo (fun m => ∃ q ∈ qs, RaR row s d f o e q m) l) : l.length <= row.length := by
 rcases h.1 with rfl | ⟨q, _, a, ⟨m, rfl⟩, _⟩
 ·simp
 ·have := a.len; simp; omega
theorem lb_ev {row : List Int} {s : Int} {e : Bool} {ρ : Ro} {i k p : Nat} {T : List (List Nat)} (hp : p < row.length) (hr : row.length <= 300) (hi : ρ[i]? = some (some (.own (T.map L)))) (h6 : i ≠ 6) (hik : i ≠ k) (hl : i < ρ.length) (hk : ρ[k]? = some (some (.sh (.lst ((Ab row s e).map L))))) (hp6 : ρ[6]? = some (some (.sh (.int (p : Int))))) (lT : T.length = row.length) :
  mborL i (t8 m_Z3 (z5 (mvar i) (z5 (mix (bvar k) (mvar 6)) anil))) ρ = some (L (flD ((abv row s e p).map fun q => T.getD q []))) := by
 have hT : T ≠ [] := fun z => by rw [z] at lT; simp at lT; omega
 refine borL_ev hi ?_ (tell_L T _ hT)
 have g1 : mvar i (ρ.set i (some (.sh (.lst (T.map L))))) = some (.lst (T.map L)) := by
  unfold mvar
  rw [getElem?_set_self hl]
 have g2 : mix (bvar k) (mvar 6) (ρ.set i (some (.sh (.lst (T.map L))))) = some (L (abv row s e p)) := by
  refine U4 (ds := (Ab row s e).map L) (k := (p : Int)) ?_ ?_ ?_
  ·unfold bvar; rw [getElem?_set_ne hik, hk]
  ·unfold mvar; rw [getElem?_set_ne h6, hp6]
  ·rw [at_L _ p (by rw [J6]; exact hp), Ab_get row s e p hp]
 exact j5 (z7 g1 (z7 g2 y6)) (Z6 T (abv row s e p) (by have := zz6 row s e p; omega) fun q hq => by have := (abv_mem.mp hq).2.1; omega)
theorem tru_L {i : Nat} {ρ : Ro} {l : List Nat} (h : ρ[i]? = some (some (.sh (L l)))) : mtru (mvar i) ρ = some (!l.isEmpty) := by
 unfold mtru mvar
 rw [h]
 cases l <;> rfl
theorem put_ev {i j : Nat} {ρ : Ro} {p : Nat} {w : List Nat} (hi : ρ[i]? = some (some (.sh (.int (p : Int))))) (hj : ρ[j]? = some (some (.sh (L w)))) (hw : w.length <= 300) : mlst (mcat (w6 (z5 (mvar i) anil)) (bvar j)) ρ = some (L (p :: w)) := by
 have i1 : 0 + 1 <= sizeLine := w5 (by decide)
 have g : mvar i ρ = some (.int (p : Int)) := by unfold mvar; rw [hi]
 have g2 : bvar j ρ = some (w.map dN) := by unfold bvar; rw [hj]; rfl
 rw [n6 (K0 (t3 (z7 g y6) i1) g2 (by rw [length_map, length_singleton]; exact w5 (by omega)))]
 rfl
theorem in_ints (i : Int) (ps : List Int) : inV (V.int i) (ps.map V.int) = decide (i ∈ ps) := by
 unfold inV
 rw [any_map, Bool.eq_iff_iff, any_eq_true, decide_eq_true_eq]
 constructor
 ·rintro ⟨y, hy, e⟩
  have e : (i == y) = true \/ (y == i) = true := by first | exact .inl e | exact .inr e
  rcases e with e | e
  ·rw [beq_iff_eq.mp e]; exact hy
  ·rw [<- beq_iff_eq.mp e]; exact hy
 ·intro h
  exact ⟨i, h, by show (i == i) = true; exact beq_self_eq_true i⟩
theorem in_L (p : Nat) (l : List Nat) : inD false (.int (p : Int)) (L l) = some (.bl (decide (p ∈ l))) := by
 have e : l.map dN = (l.map fun (k : Nat) => (k : Int)).map D.int := by rw [map_map]; rfl
 show inDs false (.int (p : Int)) (l.map dN) = _
 unfold inDs
 rw [e, zv4]
 show some (D.bl (inV (V.int (p : Int)) ((l.map fun (k : Nat) => (k : Int)).map V.int))) = _
 rw [in_ints]
 congr 2
 apply decide_eq_decide.mpr
 rw [mem_map]
 constructor
 ·rintro ⟨k, hk, e⟩
  have e : (k : Int) = (p : Int) := e
  rw [show p = k by omega]; exact hk
 ·intro h; exact ⟨p, h, rfl⟩
theorem in_ev {i j : Nat} {ρ : Ro} {p : Nat} {l : List Nat} (hi : ρ[i]? = some (some (.sh (.int (p : Int))))) (hj : ρ[j]? = some (some (.sh (L l)))) : u6 (m2 (inD false) (mvar i) (mvar j)) ρ = some (decide (p ∈ l)) := by
 unfold u6
 rw [S5 (a := .int (p : Int)) (b := L l) (by unfold mvar; rw [hi]) (by unfold mvar; rw [hj]), in_L]
theorem begun_body {row : List Int} {s : Int} {d : Bool} {f p : Nat} {G B : List (List Nat)} {o7 : Option S} (hr : row.length <= 300) (hp : p < row.length) (h : Beh row s d f (p + 1) G B) :
  ∃ G' B' o7', b_Z4_f0 (eB row s d f G B (some (.sh (.int (p : Int)))) o7) = some (.nx (eB row s d f G' B' (some (.sh (.int (p : Int)))) o7')) /\ Beh row s d f p G' B' := by
 have mem1 : ∀ e q, q ∈ abv row s e p -> p < q /\ q < row.length := fun e q hq => ⟨(abv_mem.mp hq).1, (abv_mem.mp hq).2.1⟩
 have b1 : Bo (fun m => ∃ q ∈ abv row s (!d) p, RaR row s d f 0 d q m) (flD ((abv row s (!d) p).map fun q => B.getD q [])) :=
  flD_bo (zz5 row s (!d) p) (fun q _ m hm => hm.2.1) fun q hq => (h.at' q (mem1 _ q hq).1 (mem1 _ q hq).2).2
 generalize e1 : flD ((abv row s (!d) p).map fun q => B.getD q []) = w1 at b1
 have l1 := bo_lenE b1
 have g1 : Bo (RaR row s d f 1 (!d) p) (if (!w1.isEmpty || decide (p ∈ abv row s d f)) = true then p :: w1 else []) := by
  refine (bo_cons (p := p) b1 (fun m ⟨q, _, hq⟩ => hq.ne) (decide (p ∈ abv row s d f))).iff fun m => ?_
  refine Iff.trans ?_ (zy6 hp).symm
  constructor
  ·rintro ⟨k, rfl, ⟨q, hq, z⟩ | ⟨rfl, z⟩⟩
   ·exact ⟨k, rfl, .inl ⟨q, abv_mem.mp hq, by rw [Bool.not_not]; exact z⟩⟩
   ·exact ⟨[], rfl, .inr ⟨rfl, of_decide_eq_true z⟩⟩
  ·rintro ⟨k, rfl, ⟨q, hq, z⟩ | ⟨rfl, z⟩⟩
   ·exact ⟨k, rfl, .inl ⟨q, abv_mem.mpr hq, by rw [Bool.not_not] at z; exact z⟩⟩
   ·exact ⟨[], rfl, .inr ⟨rfl, decide_eq_true z⟩⟩
 have hy := h.yet p (Nat.lt_succ_self p)
 have lset : ∀ (c : Bool) (T : List (List Nat)) (w : List Nat), T.length = row.length -> (if c = true then T.set p w else T).length = row.length := fun c T w hT => by cases c <;> simp [hT]
 have nset : ∀ (c : Bool) (T : List (List Nat)) (w : List Nat) q, p ≠ q -> (if c = true then T.set p w else T).getD q [] = T.getD q [] := fun c T w q hq => by
  cases c
  ·rfl
  ·exact getD_set_ne _ _ _ _ hq
 have sset : ∀ (c : Bool) (T : List (List Nat)) (w : List Nat), T.length = row.length -> T.getD p [] = [] -> (if c = true then T.set p w else T).getD p [] = if c = true then w else [] := fun c T w hT hn => by
  cases c
  ·exact hn
  ·exact getD_set_eq _ _ _ (by omega)
 obtain ⟨c1, ec1⟩ : ∃ c, c = (!w1.isEmpty || decide (p ∈ abv row s d f)) := ⟨_, rfl⟩
 rw [<- ec1] at g1
 have b2 : Bo (fun m => ∃ q ∈ abv row s d p, RaR row s d f 1 (!d) q m) (flD ((abv row s d p).map fun q => (if c1 = true then G.set p (p :: w1) else G).getD q [])) :=
  flD_bo (zz5 row s d p) (fun q _ m hm => hm.2.1) fun q hq => by
   have hm := mem1 _ q hq
   rw [nset c1 G _ q (by omega)]
   exact (h.at' q hm.1 hm.2).1
 generalize e2 : flD ((abv row s d p).map fun q => (if c1 = true then G.set p (p :: w1) else G).getD q []) = w2 at b2
 have l2 := bo_lenE b2
 have g2 : Bo (RaR row s d f 0 d p) (if (!w2.isEmpty) = true then p :: w2 else []) := by
  have g := bo_cons (p := p) b2 (fun m ⟨q, _, hq⟩ => hq.ne) false
  rw [Bool.or_false] at g
  refine g.iff fun m => ?_
  refine Iff.trans ?_ (U8 hp).symm
  constructor
  ·rintro ⟨k, rfl, ⟨q, hq, z⟩ | ⟨_, z⟩⟩
   ·exact ⟨k, rfl, q, abv_mem.mp hq, z⟩
   ·cases z
  ·rintro ⟨k, rfl, q, hq, z⟩
   exact ⟨k, rfl, .inl ⟨q, abv_mem.mpr hq, z⟩⟩
 refine ⟨if c1 = true then G.set p (p :: w1) else G, if (!w2.isEmpty) = true then B.set p (p :: w2) else B, some (.sh (L w2)), ?_, lset _ _ _ h.lG, lset _ _ _ h.lB, fun q a b => ?_, fun q a => ?_⟩
 ·unfold b_Z4_f0
  refine seqI (ρ' := eB row s d f G B (some (.sh (.int (p : Int)))) (some (.sh (L w1)))) ((m6 (by rw [<- e1]; exact lb_ev hp hr rfl (by decide) (by decide) (by show 5 < 8; decide) rfl rfl h.lB)).trans rfl) ?_
  refine seqI (ρ' := eB row s d f (if c1 = true then G.set p (p :: w1) else G) B (some (.sh (.int (p : Int)))) (some (.sh (L w1)))) ?_ ?_
  ·unfold mif
   rw [cor_ev (tru_L (l := w1) rfl) (in_ev (p := p) (l := abv row s d f) rfl rfl), <- ec1]
   cases c1
   ·rfl
   ·exact (setL_ev (A := G) (l := p :: w1) (p := p) rfl rfl (put_ev (p := p) (w := w1) rfl rfl (by omega)) (by rw [h.lG]; exact hp)).trans rfl
  refine seqI (ρ' := eB row s d f (if c1 = true then G.set p (p :: w1) else G) B (some (.sh (.int (p : Int)))) (some (.sh (L w2)))) ((m6 (by rw [<- e2]; exact lb_ev hp hr rfl (by decide) (by decide) (by show 4 < 8; decide) rfl rfl (lset _ _ _ h.lG))).trans rfl) ?_
  unfold mif
  rw [tru_L (l := w2) rfl]
  cases (!w2.isEmpty)
  ·rfl
  ·exact (setL_ev (A := B) (l := p :: w2) (p := p) rfl rfl (put_ev (p := p) (w := w2) rfl rfl (by omega)) (by rw [h.lB]; exact hp)).trans rfl
 ·by_cases hq : p = q
  ·subst hq
   rw [sset _ _ _ h.lG hy.1, sset _ _ _ h.lB hy.2]
   exact ⟨g1, g2⟩
  ·rw [nset _ _ _ _ hq, nset _ _ _ _ hq]
   exact h.at' q (by omega) b
 ·rw [nset _ _ _ _ (by omega), nset _ _ _ _ (by omega)]
  exact h.yet q (by omega)
end
section
open PySem L2
theorem down2_ev {lo hi : Nat} (h : lo <= hi) (hh : hi <= 1000) : rngD2 [.int (lo : Int), .int (hi : Int)] = some ((List.range (hi - lo)).map fun (j : Nat) => D.int ((hi - 1 - j : Nat) : Int)) := by
 show (if (okR (lo : Int) && okR (hi : Int)) = true then some (O3 (lo : Int) ((hi : Int) - (lo : Int)).toNat) else none) = _
 rw [if_pos (by rw [Y9 (by omega) (by omega), Y9 (by omega) (by omega)]; rfl)]
 unfold O3
 rw [show ((hi : Int) - (lo : Int)).toNat = hi - lo by omega]
 congr 1
 apply map_congr_left
 intro j hj
 have := List.mem_range.mp hj
 congr 1
 omega
theorem X2 (row : List Int) (s : Int) (d : Bool) (f : Nat) (hr : row.length <= 300) (hf : f < row.length) : ∃ l, m_Z4 [.int (f : Int), .lst ((Ab row s d).map L), .lst ((Ab row s (!d)).map L)] = some (.sh (L l)) /\ Bo (RaR row s d f 0 d f) l := by
 suffices h : Run b_Z4 (g9 8 [.int (f : Int), .lst ((Ab row s d).map L), .lst ((Ab row s (!d)).map L)]) (fun o => ∃ l, o = .rt (L l) /\ Bo (RaR row s d f 0 d f) l) by
  obtain ⟨o, e, l, rfl, r⟩ := h
  exact ⟨l, U7 e, r⟩
 unfold b_Z4
 refine u0 (ρ' := [some (.sh (.int (f : Int))), some (.sh (.lst ((Ab row s d).map L))), some (.sh (.lst ((Ab row s (!d)).map L))), some (.sh (L (abv row s d f))), none, none, none, none])
  ((m6 (U4 (ds := (Ab row s d).map L) (k := (f : Int)) rfl rfl (by rw [at_L _ f (by rw [J6]; exact hf), Ab_get row s d f hf]))).trans rfl) ?_
 have sF : ∀ (i : Nat) (ρ : Ro), bvar 1 ρ = some ((Ab row s d).map L) -> a8 i (mrep (w6 (z5 (mlst (w6 anil)) anil)) (mlen (bvar 1))) ρ = some (.nx (ρ.set i (some (.own ((List.replicate row.length ([] : List Nat)).map L))))) := fun i ρ hb => by
  unfold a8
  rw [nils_ev row.length hr ρ (bvar 1) _ hb (by rw [length_map, J6])]
  rfl
 refine u0 (sF 4 _ rfl) (u0 (ρ' := eB row s d f (List.replicate row.length []) (List.replicate row.length []) none none) (sF 5 _ rfl) ?_)
 refine N5 (S1 (row.length - (f + 1)) (f := fun (j : Nat) => D.int ((row.length - 1 - j : Nat) : Int)) ?_
  (I := fun j ρ => ∃ G B o6 o7, Beh row s d f (row.length - j) G B /\ ρ = eB row s d f G B o6 o7) _
  ⟨_, _, _, _, ⟨by simp, by simp, fun q h1 h2 => by omega, fun q _ => ⟨rep_get _ _, rep_get _ _⟩⟩, rfl⟩ ?_ ?_)
 ·unfold v5
  rw [z7 (d := .int ((f + 1 : Nat) : Int)) ((S5 (f := addD) (a := .int (f : Int)) (b := .int 1) rfl rfl).trans rfl) (z7 (x := mlen (bvar 1)) (d := .int (row.length : Int)) (by rw [d5 (ds := (Ab row s d).map L) rfl, length_map, J6]) y6), Option.bind_some, down2_ev hf (by omega)]
 ·rintro j ρ hj ⟨G, B, o6, o7, h, rfl⟩
  refine ⟨eB row s d f G B (some (.sh (.int ((row.length - 1 - j : Nat) : Int)))) o7, rfl, ?_⟩
  have e2 : row.length - 1 - j + 1 = row.length - j := by omega
  obtain ⟨G', B', o7', eb, hT⟩ := begun_body (o7 := o7) hr (show row.length - 1 - j < row.length by omega) (by rw [e2]; exact h)
  exact ⟨_, eb, G', B', _, _, by rw [show row.length - (j + 1) = row.length - 1 - j by omega]; exact hT, rfl⟩
 ·rintro ρ ⟨G, B, o6, o7, h, rfl⟩
  rw [show row.length - (row.length - (f + 1)) = f + 1 by omega] at h
  have mem1 : ∀ q, q ∈ abv row s d f -> f < q /\ q < row.length := fun q hq => ⟨(abv_mem.mp hq).1, (abv_mem.mp hq).2.1⟩
  have b2 : Bo (fun m => ∃ q ∈ abv row s d f, RaR row s d f 1 (!d) q m) (flD ((abv row s d f).map fun q => G.getD q [])) :=
   flD_bo (zz5 row s d f) (fun q _ m hm => hm.2.1) fun q hq => (h.at' q (mem1 q hq).1 (mem1 q hq).2).1
  have elb := Z6 G (abv row s d f) (by have := zz6 row s d f; omega) fun q hq => by have := mem1 q hq; rw [h.lG]; omega
  generalize flD ((abv row s d f).map fun q => G.getD q []) = w at b2 elb
  have lw := bo_lenE b2
  unfold b_Z4_r1
  refine Q0 (ds := G.map L) rfl ?_
  refine u0 (ρ' := [some (.sh (.int (f : Int))), some (.sh (.lst ((Ab row s d).map L))), some (.sh (.lst ((Ab row s (!d)).map L))), some (.sh (L (abv row s d f))), some (.sh (.lst (G.map L))), some (.own (B.map L)), o6, some (.sh (L w))]) ((m6 (j5 (z7 (d := .lst (G.map L)) rfl (z7 (d := L (abv row s d f)) rfl y6)) elb)).trans rfl) ?_
  refine ⟨.rt (L (if (!w.isEmpty) = true then f :: w else [])), Q5 ?_, _, rfl, ?_⟩
  ·unfold mite
   rw [tru_L (l := w) rfl]
   cases (!w.isEmpty)
   ·exact n6 (t3 y6 (Nat.zero_le _))
   ·exact put_ev (p := f) (w := w) rfl rfl (by omega)
  ·have g := bo_cons (p := f) b2 (fun m ⟨q, _, hq⟩ => hq.ne) false
   rw [Bool.or_false] at g
   refine g.iff fun m => ?_
   refine Iff.trans ?_ (U8 hf).symm
   constructor
   ·rintro ⟨k, rfl, ⟨q, hq, z⟩ | ⟨_, z⟩⟩
    ·exact ⟨k, rfl, q, abv_mem.mp hq, z⟩
    ·cases z
   ·rintro ⟨k, rfl, q, hq, z⟩
    exact ⟨k, rfl, .inl ⟨q, abv_mem.mpr hq, z⟩⟩
def Rg (row : List Int) (s : Int) (l : List Nat) : Prop := ∃ d f, f < row.length /\ RaR row s d f 0 d f l
theorem D0 {α : Type} {g : Tg} {elt : ME} {f : α -> D} {G : α -> D} (I : List α -> Ro -> Prop) (hs : ∀ d ds ρ, I (d :: ds) ρ -> ∃ ρ1, tgD g (f d) ρ = some ρ1 /\ elt ρ1 = some (G d) /\ I ds ρ1) :
  ∀ (ds : List α) (ρ : Ro) (acc : List D), I ds ρ -> acc.length + ds.length <= sizeLine -> ∃ ρ', d8 g elt (ds.map f) ρ acc = some (ρ', acc ++ ds.map G) /\ I [] ρ'
 | [], ρ, acc, h, hl => ⟨ρ, by simp [d8], h⟩
 | d :: ds, ρ, acc, h, hl => by
  obtain ⟨ρ1, h1, h3, h4⟩ := hs d ds ρ h
  rw [length_cons] at hl
  obtain ⟨ρ', e, h5⟩ := D0 I hs ds ρ1 (acc ++ [G d]) h4 (by simp; omega)
  refine ⟨ρ', ?_, h5⟩
  rw [map_cons]
  unfold d8
  rw [h1]
  simp only [h3]
  rw [if_pos (by omega), e]
  simp
theorem comp2D_two {g g2 : Tg} {mi2 : ML} {elt : ME} {d1 d2 : D} {ρ ρ1 ρ2 : Ro} {i1 i2 acc : List D} {z1 z2 : Ro × List D} (h1 : tgD g d1 ρ = some ρ1) (h2 : mi2 ρ1 = some i1) (h3 : d8 g2 elt i1 ρ1 acc = some z1) (h4 : tgD g d2 z1.1 = some ρ2) (h5 : mi2 ρ2 = some i2) (h6 : d8 g2 elt i2 ρ2 z1.2 = some z2) : Z9 g mi2 g2 elt [d1, d2] ρ acc = some z2.2 := by
 rw [Z9, h1]
 simp only [h2, h3]
 rw [Z9, h4]
 simp only [h5, h6]
 rw [Z9]
theorem mcomp2R_ev {src : List (Option Nat)} {mi mi2 : ML} {g g2 : Tg} {elt : ME} {ρ : Ro} {its out : List D} (h : mi ρ = some its) (h2 : Z9 g mi2 g2 elt its (O8 src ρ) [] = some out) : T4 src mi g mi2 g2 elt ρ = some out := by
 unfold T4; rw [h]; exact h2
theorem X1 (q : Addr) (row : List Int) (s : Int) (h1 : 1 <= s) (hr : row.length <= 300) : ∃ l, m_Z0 [.rd q (row.map .int), .sh (.int s)] = some (.sh (L l)) /\ Best (fun m => m = [] \/ Rg row s m) l := by
 have big := t4
 obtain ⟨F, hF⟩ : ∃ F : Bool -> Nat -> List Nat, ∀ d f, f < row.length -> m_Z4 [.int (f : Int), .lst ((Ab row s d).map L), .lst ((Ab row s (!d)).map L)] = some (.sh (L (F d f))) /\ Bo (RaR row s d f 0 d f) (F d f) := by
  refine ⟨fun d f => if h : f < row.length then (X2 row s d f hr h).choose else [], fun d f h => ?_⟩
  simp only [dif_pos h]
  exact (X2 row s d f hr h).choose_spec
 have ec : T4 [none, none, none, some 0] (G5 (W5 m_Z6 (krd 0 (P0 (mvar 1) knil)))) (.tp [0, 1]) (v5 rng1 (z5 (mlen (bvar 3)) anil)) (.nm 2) (t8 m_Z4 (z5 (mvar 2) (z5 (mvar 0) (z5 (mvar 1) anil)))) [some (.rd q (row.map .int)), some (.sh (.int s)), none] = some (((List.range row.length).map (F true) ++ (List.range row.length).map (F false)).map L) := by
  have e1 : G5 (W5 m_Z6 (krd 0 (P0 (mvar 1) knil))) [some (.rd q (row.map .int)), some (.sh (.int s)), none] = some [.tup [.lst ((Ab row s true).map L), .lst ((Ab row s false).map L)], .tup [.lst ((Ab row s false).map L), .lst ((Ab row s true).map L)]] := by
   unfold G5
   rw [K1 (krd_ev (q := q) (ds := row.map .int) rfl (A0 (d := .int s) rfl knil_ev)) (O7 q row s hr)]
  have it2 : ∀ a b c : Option S, v5 rng1 (z5 (mlen (bvar 3)) anil) [a, b, c, some (.rd q (row.map .int))] = some ((List.range row.length).map dN) := fun a b c => by
   unfold v5
   rw [z7 (d := .int (row.length : Int)) (by rw [d5 (ds := row.map .int) rfl, length_map]) y6, Option.bind_some, X7 (Y9 (by omega) (by omega)), Int.toNat_natCast, f6, map_map]
   rfl
  have inner : ∀ (d : Bool) (c : Option S) (acc : List D), acc.length <= 600 -> ∃ c', d8 (.nm 2) (t8 m_Z4 (z5 (mvar 2) (z5 (mvar 0) (z5 (mvar 1) anil)))) ((List.range row.length).map dN) [some (.sh (.lst ((Ab row s d).map L))), some (.sh (.lst ((Ab row s (!d)).map L))), c, some (.rd q (row.map .int))] acc = some ([some (.sh (.lst ((Ab row s d).map L))), some (.sh (.lst ((Ab row s (!d)).map L))), c', some (.rd q (row.map .int))], acc ++ ((List.range row.length).map (F d)).map L) := fun d c acc ha => by
   obtain ⟨ρ', e, _, c', rfl⟩ := D0 (g := .nm 2) (elt := t8 m_Z4 (z5 (mvar 2) (z5 (mvar 0) (z5 (mvar 1) anil)))) (f := dN) (G := fun f => L (F d f)) (fun fs ρ => (∀ f ∈ fs, f < row.length) /\ ∃ c, ρ = [some (.sh (.lst ((Ab row s d).map L))), some (.sh (.lst ((Ab row s (!d)).map L))), c, some (.rd q (row.map .int))])
    (by
     rintro f fs ρ ⟨hf, c, rfl⟩
     exact ⟨[some (.sh (.lst ((Ab row s d).map L))), some (.sh (.lst ((Ab row s (!d)).map L))), some (.sh (.int (f : Int))), some (.rd q (row.map .int))], rfl, j5 (z7 (d := .int (f : Int)) rfl (z7 (d := .lst ((Ab row s d).map L)) rfl (z7 (d := .lst ((Ab row s (!d)).map L)) rfl y6))) (hF d f (hf f (by simp))).1, fun g hg => hf g (by simp [hg]), _, rfl⟩)
    (List.range row.length) [some (.sh (.lst ((Ab row s d).map L))), some (.sh (.lst ((Ab row s (!d)).map L))), c, some (.rd q (row.map .int))] acc ⟨fun f hf => List.mem_range.mp hf, c, rfl⟩ (by rw [length_range]; omega)
   exact ⟨c', by rw [e, map_map]; rfl⟩
  obtain ⟨c1, i1⟩ := inner true none [] (by simp)
  obtain ⟨c2, i2⟩ := inner false c1 ([] ++ ((List.range row.length).map (F true)).map L) (by simp; omega)
  refine (mcomp2R_ev e1 (comp2D_two (ρ := [none, none, none, some (.rd q (row.map .int))]) rfl (it2 _ _ _) i1 rfl (it2 _ _ _) i2)).trans ?_
  rw [nil_append, map_append]
 generalize hls : (List.range row.length).map (F true) ++ (List.range row.length).map (F false) = ls at ec
 have mls : ∀ m, m ∈ ls ↔ ∃ d f, f < row.length /\ m = F d f := fun m => by
  rw [<- hls, mem_append, mem_map, mem_map]
  constructor
  ·rintro (⟨f, hf, rfl⟩ | ⟨f, hf, rfl⟩)
   ·exact ⟨true, f, List.mem_range.mp hf, rfl⟩
   ·exact ⟨false, f, List.mem_range.mp hf, rfl⟩
  ·rintro ⟨d, f, hf, rfl⟩
   cases d
   ·exact .inr ⟨f, List.mem_range.mpr hf, rfl⟩
   ·exact .inl ⟨f, List.mem_range.mpr hf, rfl⟩
 have em : ∃ l, minD (fun d => shOf (m_Z7 [d])) (ls.map L) (.lst []) = some (L l) /\ (ls = [] /\ l = [] \/ l ∈ ls /\ ∀ m ∈ ls, l6 m l = false) := by
  cases ls with
  | nil => exact ⟨[], rfl, .inl ⟨rfl, rfl⟩⟩
  | cons b ls =>
   obtain ⟨r, e, a1, a2⟩ := B7 (mk := fun d => shOf (m_Z7 [d])) ek ls b
   refine ⟨r, ?_, .inr ⟨a1, a2⟩⟩
   show (match shOf (m_Z7 [L b]) with | some kd => minF _ (ls.map L) (L b) kd | none => none) = _
   rw [ek b]
   exact e
 obtain ⟨l, el, hl⟩ := em
 refine ⟨l, ?_, ?_⟩
 ·unfold m_Z0 b_Z0
  refine runK_rt ?_
  refine seqI (ρ' := [some (.rd q (row.map .int)), some (.sh (.int s)), none]) ?_ ?_
  ·exact mexpr_ev (j5 (f := m_Z8) (z7 (d := .int s) rfl y6) (U3 s h1))
  refine seqI (ρ' := [some (.rd q (row.map .int)), some (.sh (.int s)), some (.sh (.lst (ls.map L)))]) ((m6 (n6 ec)).trans rfl) ?_
  exact Q5 (by rw [mminK_ev (ds := ls.map L) rfl (n6 (t3 y6 (Nat.zero_le _))), el])
 ·have hall : ∀ m, Rg row s m -> ∃ k ∈ ls, l6 m k = false := fun m ⟨d, f, hf, h⟩ => ⟨F d f, (mls _).mpr ⟨d, f, hf, rfl⟩, (hF d f hf).2.2 m (.inr h)⟩
  rcases hl with ⟨e1, e2⟩ | ⟨h2, h3⟩
  ·subst e2
   refine ⟨.inl rfl, fun m hm => ?_⟩
   rcases hm with rfl | hm
   ·rfl
   ·obtain ⟨k, hk, _⟩ := hall m hm
    rw [e1] at hk; cases hk
  ·refine ⟨?_, fun m hm => ?_⟩
   ·obtain ⟨d, f, hf, rfl⟩ := (mls l).mp h2
    rcases (hF d f hf).2.1 with z | z
    ·exact .inl z
    ·exact .inr ⟨d, f, hf, z⟩
   ·rcases hm with rfl | hm
    ·exact M2 _
    ·obtain ⟨k, hk, z⟩ := hall m hm
     exact M3 z (h3 k hk)
end
section
open PySem L2
theorem sum_cast (ns : List Nat) : (ns.map fun (k : Nat) => (k : Int)).sum = ((ns.sum : Nat) : Int) := by
 induction ns with
 | nil => rfl
 | cons n ns ih => rw [map_cons, sum_cons, sum_cons, ih]; omega
theorem dns (ns : List Nat) : ns.map dN = (ns.map fun (k : Nat) => (k : Int)).map .int := by rw [map_map]; rfl
theorem msum_dn {m : ML} {ρ : Ro} {ns : List Nat} (h : m ρ = some (ns.map dN)) : msum m ρ = some (dN ns.sum) := by
 unfold msum
 rw [h, dns]
 simp only [W6, sum_cast]
 rfl
theorem many_dn {m : ML} {ρ : Ro} {ns : List Nat} (h : m ρ = some (ns.map dN)) : many m ρ = some (.bl (ns.any fun n => n != 0)) := by
 unfold many
 rw [h, dns]
 simp only [W6]
 congr 2
 rw [any_map]
 congr 1
 funext n
 show ((n : Int) != 0) = (n != 0)
 by_cases z : n = 0
 ·subst z; rfl
 ·rw [bne_iff_ne.mpr z, bne_iff_ne.mpr (by omega)]
theorem at_dn (ns : List Nat) (q : Nat) (h : q < ns.length) : atI (ns.map dN) (q : Int) = some (dN (ns.getD q 0)) := by
 have := atI_map dN ns (q : Int) (by omega) (by omega) 0
 rw [Int.toNat_natCast] at this
 exact this
theorem added_up_eq (ns : List Nat) (As : List (List Nat)) (hA : ∀ a ∈ As, a.length <= 300 /\ ∀ q ∈ a, q < ns.length) (hl : As.length <= 300) : m_Z14 [.lst (ns.map dN), .lst (As.map L)] = some (.fr ((As.map fun a => (a.map fun q => ns.getD q 0).sum).map dN)) := by
 unfold m_Z14 b_Z14
 refine M8 ?_
 have big := t4
 have inner : ∀ a : List Nat, (a.length <= 300 /\ ∀ q ∈ a, q < ns.length) -> u9 [none, some 1] (k0 (mvar 0)) (.nm 0) cyes (mix (bvar 1) (mvar 0)) [some (.sh (L a)), some (.sh (.lst (ns.map dN)))] = some ((a.map fun q => ns.getD q 0).map dN) := by
  rintro a ⟨la, ha⟩
  unfold u9
  rw [show k0 (mvar 0) [some (.sh (L a)), some (.sh (.lst (ns.map dN)))] = some (a.map dN) from rfl, Option.bind_some]
  show g7 _ _ _ _ [none, some (.sh (.lst (ns.map dN)))] [] = _
  rw [k9 (f := dN) (G := fun q => dN (ns.getD q 0)) (fun es ρ => (∀ q ∈ es, q < ns.length) /\ ∃ o, ρ = [o, some (.sh (.lst (ns.map dN)))]) (by
   rintro q es ρ ⟨hq, o, rfl⟩
   exact ⟨_, rfl, rfl, U4 (ds := ns.map dN) (k := (q : Int)) rfl rfl (at_dn ns q (hq q (by simp))), fun z hz => hq z (by simp [hz]), _, rfl⟩) a _ [] ⟨ha, none, rfl⟩ (by simp; omega), nil_append, map_map]
  rfl
 unfold mretF u9
 rw [show k0 (mvar 1) (g9 2 [.lst (ns.map dN), .lst (As.map L)]) = some (As.map L) from rfl, Option.bind_some]
 show (g7 _ _ _ _ [none, some (.sh (.lst (ns.map dN)))] []).map _ = _
 rw [k9 (f := L) (G := fun a => dN (a.map fun q => ns.getD q 0).sum) (fun es ρ => (∀ a ∈ es, a.length <= 300 /\ ∀ q ∈ a, q < ns.length) /\ ∃ o, ρ = [o, some (.sh (.lst (ns.map dN)))]) (by
  rintro a es ρ ⟨ha, o, rfl⟩
  refine ⟨[some (.sh (L a)), some (.sh (.lst (ns.map dN)))], rfl, rfl, ?_, fun z hz => ha z (by simp [hz]), _, rfl⟩
  have e := inner a (ha a (by simp))
  unfold u9 at e
  exact msum_dn e) As _ [] ⟨hA, none, rfl⟩ (by simp; omega), nil_append]
 show some (Out.rf _) = _
 rw [map_map]
 rfl
theorem J5 (row : List Int) (s : Int) (d : Bool) (p : Nat) : (abv row s d p).Nodup := by
 unfold abv
 refine List.Pairwise.filter _ (List.pairwise_map.mpr ?_)
 exact List.Pairwise.imp (fun {a b} h => by omega) (nodup_range (n := row.length - (p + 1)))
theorem inj_le {A B : List (List Nat)} (f : List Nat -> List Nat) (hA : A.Nodup) : (∀ a ∈ A, ∀ b ∈ A, f a = f b -> a = b) -> (∀ a ∈ A, f a ∈ B) -> A.length <= B.length := by
 induction A generalizing B with
 | nil => intro _ _; exact Nat.zero_le _
 | cons a A ih =>
  intro hi hm
  have hA' := List.nodup_cons.mp hA
  have ha := hm a (by simp)
  have := ih (B := B.erase (f a)) hA'.2 (fun x hx y hy => hi x (by simp [hx]) y (by simp [hy])) (fun x hx => by
   refine (mem_erase_of_ne fun e => ?_).mpr (hm x (by simp [hx]))
   have := hi x (by simp [hx]) a (by simp) e
   subst this
   exact hA'.1 hx)
  rw [length_erase_of_mem ha] at this
  have hp : 0 < B.length := length_pos_of_mem ha
  rw [length_cons]; omega
theorem same_len {A B : List (List Nat)} (hA : A.Nodup) (hB : B.Nodup) (h : ∀ l, l ∈ A ↔ l ∈ B) : A.length = B.length :=
 Nat.le_antisymm (inj_le id hA (fun _ _ _ _ e => e) fun a ha => (h a).mp ha) (inj_le id hB (fun _ _ _ _ e => e) fun a ha => (h a).mpr ha)
def gl (row : List Int) (s : Int) (d : Bool) (f : Nat) : Nat -> Nat -> List (List Nat)
 | 0, p => if p ∈ abv row s d f then [[p]] else []
 | k + 1, p => (abv row s (!d) p).flatMap fun q => (abv row s d q).flatMap fun r => (gl row s d f k r).map fun l => p :: q :: l
theorem zv2 (row : List Int) (s : Int) (d : Bool) (f : Nat) : ∀ (k p : Nat), p < row.length -> ∀ l, l ∈ gl row s d f k p ↔ RaR row s d f 1 (!d) p l /\ l.length = 2 * k + 1
 | 0, p, hp, l => by
  rw [gl]
  constructor
  ·intro h
   split at h
   ·rename_i hl
    rw [mem_singleton] at h
    subst h
    exact ⟨(zy6 hp).mpr ⟨[], rfl, .inr ⟨rfl, hl⟩⟩, rfl⟩
   ·cases h
  ·rintro ⟨h1, h2⟩
   obtain ⟨k, rfl, ⟨q, _, z⟩ | ⟨rfl, z⟩⟩ := (zy6 hp).mp h1
   ·have := z.ne
    cases k with
    | nil => exact absurd rfl this
    | cons _ _ => simp at h2
   ·have z : p ∈ abv row s d f := z
    rw [if_pos z]; simp
 | k + 1, p, hp, l => by
  rw [gl, mem_flatMap]
  constructor
  ·rintro ⟨q, hq, h⟩
   obtain ⟨r, hr, h⟩ := List.mem_flatMap.mp h
   obtain ⟨m, hm, e⟩ := List.mem_map.mp h
   have hq := abv_mem.mp hq
   have hr := abv_mem.mp hr
   obtain ⟨a, b⟩ := (zv2 row s d f k r hr.2.1 m).mp hm
   subst e
   refine ⟨(zy6 hp).mpr ⟨_, rfl, .inl ⟨q, hq, ?_⟩⟩, by simp only [length_cons]; omega⟩
   rw [Bool.not_not]
   exact (U8 hq.2.1).mpr ⟨m, rfl, r, hr, a⟩
  ·rintro ⟨h1, h2⟩
   obtain ⟨k1, rfl, ⟨q, hq, z⟩ | ⟨rfl, z⟩⟩ := (zy6 hp).mp h1
   ·rw [Bool.not_not] at z
    obtain ⟨m, rfl, r, hr, a⟩ := (U8 hq.2.1).mp z
    refine ⟨q, abv_mem.mpr hq, List.mem_flatMap.mpr ⟨r, abv_mem.mpr hr, List.mem_map.mpr ⟨m, (zv2 row s d f k r hr.2.1 m).mpr ⟨a, ?_⟩, rfl⟩⟩⟩
    simp only [length_cons] at h2
    omega
   ·simp only [length_cons, length_nil] at h2
    omega
theorem gl_head {row : List Int} {s : Int} {d : Bool} {f k p : Nat} {l : List Nat} (h : l ∈ gl row s d f k p) : l.head? = some p := by
 cases k with
 | zero =>
  rw [gl] at h
  split at h
  ·rw [mem_singleton] at h; rw [h]; rfl
  ·cases h
 | succ k =>
  rw [gl, mem_flatMap] at h
  obtain ⟨q, _, h⟩ := h
  obtain ⟨r, _, h⟩ := List.mem_flatMap.mp h
  obtain ⟨m, _, e⟩ := List.mem_map.mp h
  rw [<- e]; rfl
theorem V2 {xs : List Nat} {F : Nat -> List (List Nat)} (hx : xs.Nodup) (h1 : ∀ q ∈ xs, (F q).Nodup) (h2 : ∀ q l, l ∈ F q -> l.head? = some q) : (xs.flatMap F).Nodup := by
 unfold List.Nodup
 rw [pairwise_flatMap]
 refine ⟨h1, List.Pairwise.imp (fun {a b} h => ?_) hx⟩
 intro x hx y hy e
 have := h2 a x hx
 rw [e, h2 b y hy] at this
 exact h (Option.some.inj this).symm
theorem nodup_cons {p : Nat} {xs : List (List Nat)} (h : xs.Nodup) : (xs.map (p :: ·)).Nodup := by
 unfold List.Nodup
 rw [pairwise_map]
 exact List.Pairwise.imp (fun {a b} h => by simpa using h) h
theorem gl_nodup (row : List Int) (s : Int) (d : Bool) (f : Nat) : ∀ k p, (gl row s d f k p).Nodup
 | 0, p => by
  rw [gl]; split <;> simp
 | k + 1, p => by
  have e : gl row s d f (k + 1) p = ((abv row s (!d) p).flatMap fun q => ((abv row s d q).flatMap fun r => gl row s d f k r).map (q :: ·)).map (p :: ·) := by
   rw [gl, map_flatMap]
   congr 1
   funext q
   rw [map_map, map_flatMap]
   rfl
  rw [e]
  refine nodup_cons (V2 (J5 row s (!d) p) (fun q _ => nodup_cons (V2 (J5 row s d q) (fun r _ => gl_nodup row s d f k r) fun r l h => gl_head h)) ?_)
  intro q l h
  obtain ⟨m, _, e⟩ := List.mem_map.mp h
  rw [<- e]; rfl
def gn (row : List Int) (s : Int) (d : Bool) (f k p : Nat) : Nat := (gl row s d f k p).length
theorem gn_succ (row : List Int) (s : Int) (d : Bool) (f k p : Nat) : gn row s d f (k + 1) p = ((abv row s (!d) p).map fun q => ((abv row s d q).map fun r => gn row s d f k r).sum).sum := by
 unfold gn
 rw [gl, length_flatMap]
 congr 1
 apply map_congr_left
 intro q _
 rw [length_flatMap]
 congr 1
 apply map_congr_left
 intro r _
 rw [length_map]
def rl (row : List Int) (s : Int) (d : Bool) (k f : Nat) : List (List Nat) := ((abv row s d f).flatMap fun p => gl row s d f k p).map (f :: ·)
def rn (row : List Int) (s : Int) (d : Bool) (k f : Nat) : Nat := ((abv row s d f).map fun p => gn row s d f k p).sum
theorem rl_len (row : List Int) (s : Int) (d : Bool) (k f : Nat) : (rl row s d k f).length = rn row s d k f := by
 unfold rl rn
 rw [length_map, length_flatMap]
 rfl
theorem F9 {row : List Int} {s : Int} {d : Bool} {k f : Nat} {l : List Nat} (hf : f < row.length) : l ∈ rl row s d k f ↔ RaR row s d f 0 d f l /\ l.length = 2 * k + 2 := by
 unfold rl
 rw [mem_map]
 constructor
 ·rintro ⟨m, hm, rfl⟩
  obtain ⟨p, hp, hm⟩ := List.mem_flatMap.mp hm
  have hp := abv_mem.mp hp
  obtain ⟨a, b⟩ := (zv2 row s d f k p hp.2.1 m).mp hm
  exact ⟨(U8 hf).mpr ⟨m, rfl, p, hp, a⟩, by simp only [length_cons]; omega⟩
 ·rintro ⟨h1, h2⟩
  obtain ⟨m, rfl, p, hp, a⟩ := (U8 hf).mp h1
  refine ⟨m, List.mem_flatMap.mpr ⟨p, abv_mem.mpr hp, (zv2 row s d f k p hp.2.1 m).mpr ⟨a, ?_⟩⟩, rfl⟩
  simp only [length_cons] at h2
  omega
theorem rl_head {row : List Int} {s : Int} {d : Bool} {k f : Nat} {l : List Nat} (h : l ∈ rl row s d k f) : l.head? = some f := by
 obtain ⟨m, _, e⟩ := List.mem_map.mp h
 rw [<- e]; rfl
theorem rl_nodup (row : List Int) (s : Int) (d : Bool) (k f : Nat) : (rl row s d k f).Nodup :=
 nodup_cons (V2 (J5 row s d f) (fun p _ => gl_nodup row s d f k p) fun p l h => gl_head h)
def al (row : List Int) (s : Int) (k : Nat) : List (List Nat) := (List.range row.length).flatMap (rl row s true k) ++ (List.range row.length).flatMap (rl row s false k)
def an (row : List Int) (s : Int) (k : Nat) : Nat := ((List.range row.length).map (rn row s true k)).sum + ((List.range row.length).map (rn row s false k)).sum
theorem al_len (row : List Int) (s : Int) (k : Nat) : (al row s k).length = an row s k := by
 unfold al an
 rw [length_append, length_flatMap, length_flatMap]
 simp only [rl_len]
theorem al_mem {row : List Int} {s : Int} {k : Nat} {l : List Nat} : l ∈ al row s k ↔ Rg row s l /\ l.length = 2 * k + 2 := by
 unfold al
 rw [mem_append, mem_flatMap, mem_flatMap]
 constructor
 ·rintro (⟨f, hf, h⟩ | ⟨f, hf, h⟩)
  ·have hf := List.mem_range.mp hf
   obtain ⟨a, b⟩ := (F9 hf).mp h
   exact ⟨⟨true, f, hf, a⟩, b⟩
  ·have hf := List.mem_range.mp hf
   obtain ⟨a, b⟩ := (F9 hf).mp h
   exact ⟨⟨false, f, hf, a⟩, b⟩
 ·rintro ⟨⟨d, f, hf, a⟩, b⟩
  cases d
  ·exact .inr ⟨f, List.mem_range.mpr hf, (F9 hf).mpr ⟨a, b⟩⟩
  ·exact .inl ⟨f, List.mem_range.mpr hf, (F9 hf).mpr ⟨a, b⟩⟩
theorem al_nodup {row : List Int} {s : Int} (hs : 1 <= s) (k : Nat) : (al row s k).Nodup := by
 unfold al
 have one : ∀ d, ((List.range row.length).flatMap (rl row s d k)).Nodup := fun d => V2 nodup_range (fun f _ => rl_nodup row s d k f) fun f l h => rl_head h
 unfold List.Nodup
 rw [pairwise_append]
 refine ⟨one true, one false, fun x hx y hy e => ?_⟩
 subst e
 obtain ⟨f, hf, h⟩ := List.mem_flatMap.mp hx
 obtain ⟨g, hg, h'⟩ := List.mem_flatMap.mp hy
 obtain ⟨a, _⟩ := (F9 (List.mem_range.mp hf)).mp h
 obtain ⟨b, _⟩ := (F9 (List.mem_range.mp hg)).mp h'
 obtain ⟨m, rfl, p, hp, _⟩ := (U8 (List.mem_range.mp hf)).mp a
 have w1 := a.1
 have w2 := b.1
 cases m with
 | nil => have := a.2.2.1; simp at this
 | cons q m =>
  have h1 := w1.2.1
  have h2 := w2.2.1
  unfold far at h1 h2
  simp only [if_true, Bool.false_eq_true, if_false] at h1 h2
  omega
theorem rg_len {row : List Int} {s : Int} {l : List Nat} (h : Rg row s l) : l.length <= row.length := by
 obtain ⟨d, f, hf, a, ⟨m, rfl⟩, _⟩ := h
 have := a.len
 simp; omega
theorem gn_zero {row : List Int} {s : Int} {d : Bool} {f k p : Nat} (hp : p < row.length) (h : row.length < 2 * k + 1) : gn row s d f k p = 0 := by
 unfold gn
 cases hA : gl row s d f k p with
 | nil => rfl
 | cons a A =>
  obtain ⟨⟨w, ⟨m, rfl⟩, _⟩, e⟩ := (zv2 row s d f k p hp a).mp (by rw [hA]; simp)
  have := w.len
  simp only [length_cons] at e
  omega
end
section
open PySem L2
theorem W3 {i : Nat} {x : ML} {ρ : Ro} {ds : List D} (h : x ρ = some ds) : a8 i x ρ = some (.nx (ρ.set i (some (.own ds)))) := by unfold a8; rw [h]; rfl
def GN (row : List Int) (s : Int) (d : Bool) (f k : Nat) : List Nat := (List.range row.length).map (gn row s d f k)
theorem map_at (n : Nat) (F : Nat -> Nat) (q : Nat) (h : q < n) : ((List.range n).map F).getD q 0 = F q := by
 rw [getD_eq_getElem?_getD, getElem?_map, getElem?_range h]; rfl
theorem add_Ab (row : List Int) (s : Int) (hr : row.length <= 300) (e : Bool) (F : Nat -> Nat) : m_Z14 [.lst (((List.range row.length).map F).map dN), .lst ((Ab row s e).map L)] = some (.fr (((List.range row.length).map fun p => ((abv row s e p).map F).sum).map dN)) := by
 rw [added_up_eq ((List.range row.length).map F) (Ab row s e) ?_ (by rw [J6]; omega)]
 ·congr 3
  unfold Ab
  rw [map_map]
  apply map_congr_left
  intro p hp
  show ((abv row s e p).map fun q => ((List.range row.length).map F).getD q 0).sum = _
  congr 1
  apply map_congr_left
  intro q hq
  exact map_at _ _ _ (abv_mem.mp hq).2.1
 ·intro a ha
  obtain ⟨p, _, rfl⟩ := List.mem_map.mp ha
  refine ⟨Nat.le_trans (zz6 row s e p) hr, fun q hq => ?_⟩
  rw [length_map, length_range]
  exact (abv_mem.mp hq).2.1
def eC (row : List Int) (s : Int) (d : Bool) (f k : Nat) : Ro := [some (.sh (.int (f : Int))), some (.sh (.lst ((Ab row s d).map L))), some (.sh (.lst ((Ab row s (!d)).map L))), some (.sh (L (abv row s d f))), some (.sh (.lst ((GN row s d f k).map dN))), some (.own (((List.range k).map fun k => rn row s d k f).map dN))]
theorem sum_lasts (row : List Int) (s : Int) (d : Bool) (f k : Nat) (hr : row.length <= 300) : msum (u9 [none, some 4] (k0 (mvar 3)) (.nm 0) cyes (mix (bvar 1) (mvar 0))) (eC row s d f k) = some (dN (rn row s d k f)) := by
 have big := t4
 refine msum_dn (ns := (abv row s d f).map fun p => gn row s d f k p) ?_
 unfold u9
 rw [show k0 (mvar 3) (eC row s d f k) = some ((abv row s d f).map dN) from rfl, Option.bind_some]
 refine (k9 (f := dN) (G := fun p => dN (gn row s d f k p)) (fun es ρ => (∀ q ∈ es, q < row.length) /\ ∃ o, ρ = [o, some (.sh (.lst ((GN row s d f k).map dN)))]) (by
  rintro q es ρ ⟨hq, o, rfl⟩
  refine ⟨[some (.sh (dN q)), some (.sh (.lst ((GN row s d f k).map dN)))], rfl, rfl, ?_, fun z hz => hq z (by simp [hz]), _, rfl⟩
  refine U4 (ds := (GN row s d f k).map dN) (k := (q : Int)) rfl rfl ?_
  rw [at_dn _ q (by unfold GN; rw [length_map, length_range]; exact hq q (by simp))]
  unfold GN
  rw [map_at _ _ _ (hq q (by simp))]) (abv row s d f) _ [] ⟨fun q hq => (abv_mem.mp hq).2.1, none, rfl⟩ (by have := zz6 row s d f; simp; omega)).trans ?_
 rw [nil_append, map_map]
 rfl
theorem cb_body (row : List Int) (s : Int) (d : Bool) (f k : Nat) (hr : row.length <= 300) (hk : k <= 1000) : A8 (eC row s d f k) = some (.nx (eC row s d f (k + 1))) := by
 have big := t4
 unfold A8
 refine seqI (ρ' := (eC row s d f k).set 5 (some (.own (((List.range (k + 1)).map fun k => rn row s d k f).map dN)))) ?_ ?_
 ·unfold mapp
  rw [sum_lasts row s d f k hr]
  show (if (((List.range k).map fun k => rn row s d k f).map dN).length < sizeLine then _ else none) = _
  rw [if_pos (by simp; omega), V4, map_append]
  rfl
 ·have e1 := add_Ab row s hr d (gn row s d f k)
  have e2 := add_Ab row s hr (!d) fun q => ((abv row s d q).map fun r => gn row s d f k r).sum
  have e3 : ((List.range row.length).map fun p => ((abv row s (!d) p).map fun q => ((abv row s d q).map fun r => gn row s d f k r).sum).sum) = GN row s d f (k + 1) := by
   unfold GN
   apply map_congr_left
   intro p _
   rw [gn_succ]
  rw [e3] at e2
  exact (m6 (V3 (z7 (V3 (z7 (d := .lst ((GN row s d f k).map dN)) rfl (z7 (d := .lst ((Ab row s d).map L)) rfl y6)) e1) (z7 (d := .lst ((Ab row s (!d)).map L)) rfl y6)) e2)).trans rfl
theorem cb_loop (row : List Int) (s : Int) (d : Bool) (f : Nat) (hr : row.length <= 300) : ∀ (u k : Nat), row.length + 1 <= k + u -> k <= row.length ->
  ∃ J, J <= row.length /\ (∀ p, p < row.length -> gn row s d f J p = 0) /\ Y6 (mtru (many (bvar 4))) A8 u (eC row s d f k) = some (.nx (eC row s d f J))
 | 0, k, h, hk => by omega
 | u + 1, k, h, hk => by
  have c2 : mtru (many (bvar 4)) (eC row s d f k) = some ((GN row s d f k).any fun n => n != 0) := by
   unfold mtru
   rw [many_dn (ns := GN row s d f k) rfl]
   rfl
  unfold Y6
  rw [c2]
  cases hz : (GN row s d f k).any fun n => n != 0 with
  | true =>
   have hlt : k < row.length := by
    rcases Nat.lt_or_ge k row.length with w | w
    ·exact w
    ·obtain ⟨y, hy, e⟩ := List.any_eq_true.mp hz
     obtain ⟨p, hp, rfl⟩ := List.mem_map.mp hy
     have hp := List.mem_range.mp hp
     rw [gn_zero hp (by omega)] at e
     cases e
   simp only [cb_body row s d f k hr (by omega)]
   exact cb_loop row s d f hr u (k + 1) (by omega) (by omega)
  | false =>
   refine ⟨k, hk, fun p hp => ?_, rfl⟩
   have := List.any_eq_false.mp hz (gn row s d f k p) (List.mem_map.mpr ⟨p, List.mem_range.mpr hp, rfl⟩)
   simpa using this
theorem D4 {xs : List Nat} {F : Nat -> Nat} (h : ∀ q ∈ xs, F q = 0) : (xs.map F).sum = 0 := by
 induction xs with
 | nil => rfl
 | cons x xs ih => rw [map_cons, sum_cons, h x (by simp), ih fun q hq => h q (by simp [hq])]
theorem gn_end {row : List Int} {s : Int} {d : Bool} {f J : Nat} (h : ∀ p, p < row.length -> gn row s d f J p = 0) : ∀ i p, p < row.length -> gn row s d f (J + i) p = 0
 | 0, p, hp => h p hp
 | i + 1, p, hp => by
  rw [<- Nat.add_assoc, gn_succ]
  exact D4 fun q hq => D4 fun r hr => gn_end h i r (abv_mem.mp hr).2.1
theorem J1 (row : List Int) (s : Int) (d : Bool) (f : Nat) (hr : row.length <= 300) (hf : f < row.length) : ∃ J, J <= row.length /\ (∀ k, J <= k -> rn row s d k f = 0) /\ m_Z5 [.int (f : Int), .lst ((Ab row s d).map L), .lst ((Ab row s (!d)).map L)] = some (.fr (((List.range J).map fun k => rn row s d k f).map dN)) := by
 have big := t4
 obtain ⟨J, hJ, hz, ew⟩ := cb_loop row s d f hr 1000 0 (by omega) (by omega)
 refine ⟨J, hJ, fun k hk => ?_, ?_⟩
 ·unfold rn
  refine D4 fun p hp => ?_
  have := gn_end hz (k - J) p (abv_mem.mp hp).2.1
  rw [show J + (k - J) = k by omega] at this
  exact this
 ·unfold m_Z5 b_Z5
  refine M8 ?_
  refine seqI (ρ' := [some (.sh (.int (f : Int))), some (.sh (.lst ((Ab row s d).map L))), some (.sh (.lst ((Ab row s (!d)).map L))), some (.sh (L (abv row s d f))), none, none])
   ((m6 (U4 (ds := (Ab row s d).map L) (k := (f : Int)) rfl rfl (by rw [at_L _ f (by rw [J6]; exact hf), Ab_get row s d f hf]))).trans rfl) ?_
  have ec : u9 [none, some 3] (v5 rng1 (z5 (mlen (bvar 1)) anil)) (.nm 0) cyes (mite (u6 (m2 (inD false) (mvar 0) (mvar 1))) (mc (.int 1)) (mc (.int 0))) [some (.sh (.int (f : Int))), some (.sh (.lst ((Ab row s d).map L))), some (.sh (.lst ((Ab row s (!d)).map L))), some (.sh (L (abv row s d f))), none, none] = some ((GN row s d f 0).map dN) := by
   have ei : v5 rng1 (z5 (mlen (bvar 1)) anil) [some (.sh (.int (f : Int))), some (.sh (.lst ((Ab row s d).map L))), some (.sh (.lst ((Ab row s (!d)).map L))), some (.sh (L (abv row s d f))), none, none] = some ((List.range row.length).map dN) := by
    unfold v5
    rw [z7 (d := .int (row.length : Int)) (by rw [d5 (ds := (Ab row s d).map L) rfl, length_map, J6]) y6, Option.bind_some, X7 (Y9 (by omega) (by omega)), Int.toNat_natCast, f6, map_map]
    rfl
   unfold u9
   rw [ei, Option.bind_some]
   refine (k9 (f := dN) (G := fun p => dN (gn row s d f 0 p)) (fun _ ρ => ∃ o, ρ = [o, some (.sh (L (abv row s d f)))]) (by
    rintro p ps ρ ⟨o, rfl⟩
    refine ⟨[some (.sh (dN p)), some (.sh (L (abv row s d f)))], rfl, rfl, ?_, _, rfl⟩
    unfold mite
    rw [in_ev (p := p) (l := abv row s d f) rfl rfl]
    unfold gn
    rw [gl]
    by_cases z : p ∈ abv row s d f
    ·rw [if_pos z, decide_eq_true z]; rfl
    ·rw [if_neg z, decide_eq_false z]; rfl) (List.range row.length) _ [] ⟨none, rfl⟩ (by simp; omega)).trans ?_
   unfold GN
   rw [nil_append, map_map]
   rfl
  refine seqI (ρ' := [some (.sh (.int (f : Int))), some (.sh (.lst ((Ab row s d).map L))), some (.sh (.lst ((Ab row s (!d)).map L))), some (.sh (L (abv row s d f))), some (.sh (.lst ((GN row s d f 0).map dN))), none]) ((m6 (n6 ec)).trans rfl) ?_
  refine seqI (ρ' := eC row s d f 0) ((W3 (t3 y6 (Nat.zero_le _))).trans rfl) ?_
  refine seqI ew ?_
  rfl
end
section
open PySem L2
def eK (q : Addr) (row : List Int) (s : Int) (T : List Nat) (o3 o4 o5 o6 o7 : Option S) : Ro := [some (.rd q (row.map .int)), some (.sh (.int s)), some (.own (T.map dN)), o3, o4, o5, o6, o7]
theorem augix_ev {i h b : Nat} {ix v : ME} {ρ : Ro} {T : List Nat} (hi : ρ[i]? = some (some (.own (T.map dN)))) (hx : ix ρ = some (.int (h : Int))) (hv : v ρ = some (dN b)) (hh : h < T.length) : zw3 i ix v ρ = some (.nx (ρ.set i (some (.own ((T.set h (T.getD h 0 + b)).map dN))))) := by
 unfold zw3
 rw [hi, hx]
 simp only
 rw [length_map, ixN_nat _ _ hh]
 simp only
 have e : (T.map dN)[h]? = some (.int ((T.getD h 0 : Nat) : Int)) := by
  rw [getElem?_map, getD_eq_getElem?_getD, getElem?_eq_getElem hh]; rfl
 rw [e, hv]
 show some (Out.nx (ρ.set i (some (.own ((T.map dN).set h (.int (((T.getD h 0 : Nat) : Int) + (b : Int)))))))) = _
 rw [map_set]
 rfl
theorem getN_ne (T : List Nat) (p q b : Nat) (h : p ≠ q) : (T.set p b).getD q 0 = T.getD q 0 := by
 rw [getD_eq_getElem?_getD, getD_eq_getElem?_getD, getElem?_set_ne h]
theorem getN_eq (T : List Nat) (p b : Nat) (h : p < T.length) : (T.set p b).getD p 0 = b := by
 rw [getD_eq_getElem?_getD, getElem?_set_self h]; rfl
def Put (n : Nat) (T U : List Nat) (c : Nat -> Nat) : Prop := T.length = n + 1 /\ U.length = n + 1 /\ U.getD 0 0 = T.getD 0 0 /\ ∀ h, h < n -> U.getD (h + 1) 0 = T.getD (h + 1) 0 + c h
theorem enum1_ev (c : Nat -> Nat) (J : Nat) : zv6 [.lst (((List.range J).map c).map dN)] = some ((List.range J).map fun (i : Nat) => D.tup [.int ((i + 1 : Nat) : Int), dN (c i)]) := by
 show some (P1 1 _) = _
 congr 1
 apply ext_getElem?
 intro i
 rcases Nat.lt_or_ge i J with h | h
 ·rw [R0 1 _ i (dN (c i)) (by rw [getElem?_map, getElem?_map, getElem?_range h]; rfl), getElem?_map, getElem?_range h, Nat.add_comm 1 i]
  rfl
 ·rw [getElem?_eq_none (by rw [l0]; simpa using h), getElem?_eq_none (by simpa using h)]
theorem one_first (q : Addr) (row : List Int) (s : Int) (hr : row.length <= 300) (d : Bool) (f : Nat) (hf : f < row.length) (T : List Nat) (hT : T.length = row.length + 1) (o6 o7 : Option S) :
  ∃ U p6 p7, Put row.length T U (fun h => rn row s d h f) /\ zz1 (eK q row s T (some (.sh (.lst ((Ab row s d).map L)))) (some (.sh (.lst ((Ab row s (!d)).map L)))) (some (.sh (.int (f : Int)))) o6 o7) = some (.nx (eK q row s U (some (.sh (.lst ((Ab row s d).map L)))) (some (.sh (.lst ((Ab row s (!d)).map L)))) (some (.sh (.int (f : Int)))) p6 p7)) := by
 obtain ⟨J, hJ, hz, ec⟩ := J1 row s d f hr hf
 unfold zz1
 obtain ⟨o, e, U, p6, p7, rfl, hU⟩ := S1 (mi := v5 zv6 (z5 (t8 m_Z5 (z5 (mvar 5) (z5 (mvar 3) (z5 (mvar 4) anil)))) anil)) (g := .tp [6, 7]) (body := b_Z1_f0) (ρ := eK q row s T (some (.sh (.lst ((Ab row s d).map L)))) (some (.sh (.lst ((Ab row s (!d)).map L)))) (some (.sh (.int (f : Int)))) o6 o7) J (f := fun (i : Nat) => D.tup [.int ((i + 1 : Nat) : Int), dN (rn row s d i f)])
  (by
   unfold v5
   rw [z7 (V3 (z7 (d := .int (f : Int)) rfl (z7 (d := .lst ((Ab row s d).map L)) rfl (z7 (d := .lst ((Ab row s (!d)).map L)) rfl y6))) ec) y6, Option.bind_some]
   exact enum1_ev (fun k => rn row s d k f) J)
  (I := fun j ρ => ∃ U p6 p7, ρ = eK q row s U (some (.sh (.lst ((Ab row s d).map L)))) (some (.sh (.lst ((Ab row s (!d)).map L)))) (some (.sh (.int (f : Int)))) p6 p7 /\ Put row.length T U (fun h => if h < j then rn row s d h f else 0))
  (Q := fun o => ∃ U p6 p7, o = .nx (eK q row s U (some (.sh (.lst ((Ab row s d).map L)))) (some (.sh (.lst ((Ab row s (!d)).map L)))) (some (.sh (.int (f : Int)))) p6 p7) /\ Put row.length T U (fun h => rn row s d h f))
  ⟨T, o6, o7, rfl, hT, hT, rfl, fun h _ => by simp⟩
  (by
   rintro j ρ hj ⟨U, p6, p7, rfl, h1, h2, h3, h4⟩
   refine ⟨eK q row s U (some (.sh (.lst ((Ab row s d).map L)))) (some (.sh (.lst ((Ab row s (!d)).map L)))) (some (.sh (.int (f : Int)))) (some (.sh (.int ((j + 1 : Nat) : Int)))) (some (.sh (dN (rn row s d j f)))), rfl, ?_⟩
   unfold b_Z1_f0
   refine ⟨_, augix_ev (T := U) (h := j + 1) (b := rn row s d j f) rfl rfl rfl (by omega), ?_⟩
   refine ⟨U.set (j + 1) (U.getD (j + 1) 0 + rn row s d j f), _, _, rfl, h1, by rw [length_set]; exact h2, ?_, fun h hh => ?_⟩
   ·rw [getN_ne _ _ _ _ (by omega)]; exact h3
   ·by_cases z : j = h
    ·subst z
     rw [getN_eq _ _ _ (by omega), h4 j hh]
     simp
    ·rw [getN_ne _ _ _ _ (by omega), h4 h hh]
     dsimp only
     by_cases w : h < j
     ·rw [if_pos w, if_pos (by omega)]
     ·rw [if_neg w, if_neg (by omega)])
  (by
   rintro ρ ⟨U, p6, p7, rfl, h1, h2, h3, h4⟩
   refine ⟨U, p6, p7, rfl, h1, h2, h3, fun h hh => ?_⟩
   rw [h4 h hh]
   dsimp only
   by_cases w : h < J
   ·rw [if_pos w]
   ·rw [if_neg w, hz h (by omega)])
 exact ⟨U, p6, p7, hU, e⟩
theorem rng_row {q : Addr} {row : List Int} {ρ : Ro} (hr : row.length <= 300) (h : ρ[0]? = some (some (.rd q (row.map .int)))) : v5 rng1 (z5 (mlen (bvar 0)) anil) ρ = some ((List.range row.length).map dN) := by
 unfold v5
 rw [z7 (d := .int (row.length : Int)) (by rw [d5 (ds := row.map .int) (by unfold bvar; rw [h]), length_map]) y6, Option.bind_some, X7 (Y9 (by omega) (by omega)), Int.toNat_natCast, f6, map_map]
 rfl
theorem one_way (q : Addr) (row : List Int) (s : Int) (hr : row.length <= 300) (d : Bool) (T : List Nat) (hT : T.length = row.length + 1) (o5 o6 o7 : Option S) :
  ∃ U p5 p6 p7, Put row.length T U (fun h => ((List.range row.length).map (rn row s d h)).sum) /\ zz0 (eK q row s T (some (.sh (.lst ((Ab row s d).map L)))) (some (.sh (.lst ((Ab row s (!d)).map L)))) o5 o6 o7) = some (.nx (eK q row s U (some (.sh (.lst ((Ab row s d).map L)))) (some (.sh (.lst ((Ab row s (!d)).map L)))) p5 p6 p7)) := by
 unfold zz0
 obtain ⟨o, e, U, p5, p6, p7, rfl, hU⟩ := S1 (mi := v5 rng1 (z5 (mlen (bvar 0)) anil)) (g := .nm 5) (body := zz1) (ρ := eK q row s T (some (.sh (.lst ((Ab row s d).map L)))) (some (.sh (.lst ((Ab row s (!d)).map L)))) o5 o6 o7) row.length (f := dN) (rng_row (q := q) hr rfl)
  (I := fun j ρ => ∃ U p5 p6 p7, ρ = eK q row s U (some (.sh (.lst ((Ab row s d).map L)))) (some (.sh (.lst ((Ab row s (!d)).map L)))) p5 p6 p7 /\ Put row.length T U (fun h => ((List.range j).map (rn row s d h)).sum))
  (Q := fun o => ∃ U p5 p6 p7, o = .nx (eK q row s U (some (.sh (.lst ((Ab row s d).map L)))) (some (.sh (.lst ((Ab row s (!d)).map L)))) p5 p6 p7) /\ Put row.length T U (fun h => ((List.range row.length).map (rn row s d h)).sum))
  ⟨T, o5, o6, o7, rfl, hT, hT, rfl, fun h _ => by simp⟩
  (by
   rintro j ρ hj ⟨U, p5, p6, p7, rfl, h1, h2, h3, h4⟩
   obtain ⟨V, r6, r7, ⟨_, g2, g3, g4⟩, ev⟩ := one_first q row s hr d j hj U h2 p6 p7
   refine ⟨eK q row s U (some (.sh (.lst ((Ab row s d).map L)))) (some (.sh (.lst ((Ab row s (!d)).map L)))) (some (.sh (.int (j : Int)))) p6 p7, rfl, _, ev, ?_⟩
   refine ⟨V, _, _, _, rfl, h1, g2, by rw [g3, h3], fun h hh => ?_⟩
   rw [g4 h hh, h4 h hh]
   dsimp only
   rw [V4, sum_append, sum_singleton, Nat.add_assoc])
  (by
   rintro ρ ⟨U, p5, p6, p7, rfl, hU⟩
   exact ⟨U, p5, p6, p7, rfl, hU⟩)
 exact ⟨U, p5, p6, p7, hU, e⟩
def tn (row : List Int) (s : Int) : Nat -> Nat
 | 0 => 1
 | h + 1 => an row s h
theorem pop_loop (q : Addr) (row : List Int) (s : Int) (hr : row.length <= 300) (o3 o4 o5 o6 o7 : Option S) : ∀ (m u : Nat), m < u -> m <= 400 -> ∃ M, M <= m /\ tn row s M ≠ 0 /\ (∀ h, M < h -> h <= m -> tn row s h = 0) /\
  Y6 (u6 (m2 eqSD (mix (bvar 2) (m1 negD (mc (.int 1)))) (mc (.int 0)))) A9 u (eK q row s ((List.range (m + 1)).map (tn row s)) o3 o4 o5 o6 o7) = some (.nx (eK q row s ((List.range (M + 1)).map (tn row s)) o3 o4 o5 o6 o7))
 | m, 0, h, _ => by omega
 | m, u + 1, h, hm => by
  have c : u6 (m2 eqSD (mix (bvar 2) (m1 negD (mc (.int 1)))) (mc (.int 0))) (eK q row s ((List.range (m + 1)).map (tn row s)) o3 o4 o5 o6 o7) = some (decide (tn row s m = 0)) := by
   have e : mix (bvar 2) (m1 negD (mc (.int 1))) (eK q row s ((List.range (m + 1)).map (tn row s)) o3 o4 o5 o6 o7) = some (dN (tn row s m)) := by
    refine U4 (ds := ((List.range (m + 1)).map (tn row s)).map dN) (k := -1) rfl rfl ?_
    rw [V4]
    exact atI_last dN _ _
   unfold u6
   rw [S5 e (b := .int 0) rfl]
   show (match (some (D.bl (((tn row s m : Nat) : Int) == 0)) : Option D) with | some (.bl b) => some b | _ => none) = _
   simp only
   congr 1
   rw [Bool.eq_iff_iff, beq_iff_eq, decide_eq_true_eq]
   omega
  unfold Y6
  rw [c]
  by_cases z : tn row s m = 0
  ·rw [decide_eq_true z]
   cases m with
   | zero => cases z
   | succ m =>
    have e : A9 (eK q row s ((List.range (m + 1 + 1)).map (tn row s)) o3 o4 o5 o6 o7) = some (.nx (eK q row s ((List.range (m + 1)).map (tn row s)) o3 o4 o5 o6 o7)) := by
     unfold A9 mpopS
     show (if 0 < (((List.range (m + 1 + 1)).map (tn row s)).map dN).length then some (Out.nx ((eK q row s ((List.range (m + 1 + 1)).map (tn row s)) o3 o4 o5 o6 o7).set 2 (some (.own (((List.range (m + 1 + 1)).map (tn row s)).map dN).dropLast)))) else none) = _
     rw [if_pos (by simp), V4, map_append]
     rw [show (List.map dN (List.map (tn row s) (List.range (m + 1))) ++ List.map dN [tn row s (m + 1)]).dropLast = List.map dN (List.map (tn row s) (List.range (m + 1))) from dropLast_concat]
     rfl
    simp only [e]
    obtain ⟨M, h1, h2, h3, h4⟩ := pop_loop q row s hr o3 o4 o5 o6 o7 m u (by omega) (by omega)
    refine ⟨M, by omega, h2, fun h a b => ?_, h4⟩
    rcases Nat.lt_or_ge h (m + 1) with w | w
    ·exact h3 h a (by omega)
    ·rw [show h = m + 1 by omega]; exact z
  ·rw [decide_eq_false z]
   exact ⟨m, Nat.le_refl _, z, fun h a b => by omega, rfl⟩
theorem runK_rf {n : Nat} {m : MS} {ss : List S} {d : List D} (h : m (U0 n ss) = some (.rf d)) : runK n m ss = some (.fr d) := by unfold runK; rw [h]
theorem zeros_map (n : Nat) : (List.replicate n [D.int 0]).flatten = ((List.range n).map fun _ => 0).map dN := by
 induction n with
 | zero => rfl
 | succ n ih => rw [replicate_succ', flatten_append, ih, range_succ, map_append, map_append]; rfl
theorem forD_two {g : Tg} {body : MS} {d1 d2 : D} {ρ ρ1 ρ2 ρ3 ρ4 : Ro} (h1 : tgD g d1 ρ = some ρ1) (h2 : body ρ1 = some (.nx ρ2)) (h3 : tgD g d2 ρ2 = some ρ3) (h4 : body ρ3 = some (.nx ρ4)) : forD g body [d1, d2] ρ = some (.nx ρ4) := by
 unfold forD
 rw [h1]
 simp only [h2]
 unfold forD
 rw [h3]
 simp only [h4]
 rfl
theorem J0 (q : Addr) (row : List Int) (s : Int) (h1 : 1 <= s) (hr : row.length <= 300) : ∃ M, M <= row.length /\ tn row s M ≠ 0 /\ (∀ h, M < h -> h <= row.length -> tn row s h = 0) /\ m_Z1 [.rd q (row.map .int), .sh (.int s)] = some (.fr (((List.range (M + 1)).map (tn row s)).map dN)) := by
 have big := t4
 have i1 : 1 <= sizeLine := w5 (by decide)
 have rk : repOk 1 (row.length : Int) = true := by
  unfold repOk
  rw [decide_eq_true (by omega), decide_eq_true (by omega), decide_eq_true (by rw [Int.toNat_natCast]; omega)]; rfl
 have e0 : mcat (w6 (z5 (mc (.int 1)) anil)) (mrep (w6 (z5 (mc (.int 0)) anil)) (mlen (bvar 0))) [some (.rd q (row.map .int)), some (.sh (.int s)), none, none, none, none, none, none] = some ((1 :: (List.range row.length).map fun _ => 0).map dN) := by
  have rp := mrep_ev (x := w6 (z5 (mc (.int 0)) anil)) (y := mlen (bvar 0)) (ρ := [some (.rd q (row.map .int)), some (.sh (.int s)), none, none, none, none, none, none]) (t3 (z7 (d := .int 0) rfl y6) i1) (k := (row.length : Int)) (by rw [d5 (ds := row.map .int) rfl, length_map]) rk
  rw [Int.toNat_natCast, zeros_map] at rp
  refine (K0 (t3 (z7 (d := .int 1) rfl y6) i1) rp (by simp; omega)).trans ?_
  rfl
 have lT : (1 :: (List.range row.length).map fun _ => 0).length = row.length + 1 := by simp
 obtain ⟨U, a5, a6, a7, ⟨_, u2, u3, u4⟩, eu⟩ := one_way q row s hr true (1 :: (List.range row.length).map fun _ => 0) lT none none none
 obtain ⟨V, b5, b6, b7, ⟨_, v2, v3, v4⟩, ev⟩ := one_way q row s hr false U u2 a5 a6 a7
 have hV : V = (List.range (row.length + 1)).map (tn row s) := by
  apply ext_getElem?
  intro i
  rcases Nat.lt_or_ge i (row.length + 1) with h | h
  ·have hg : V.getD i 0 = tn row s i := by
    cases i with
    | zero => rw [v3, u3]; rfl
    | succ i =>
     rw [v4 i (by omega), u4 i (by omega)]
     rw [show (1 :: (List.range row.length).map fun _ => 0).getD (i + 1) 0 = 0 from map_at row.length (fun _ => 0) i (by omega), Nat.zero_add]
     rfl
   rw [getElem?_map, getElem?_range h]
   rw [getD_eq_getElem?_getD, getElem?_eq_getElem (by omega)] at hg
   rw [getElem?_eq_getElem (by omega)]
   exact congrArg some hg
  ·rw [getElem?_eq_none (by omega), getElem?_eq_none (by simpa using h)]
 obtain ⟨M, hM, m1, m2, em⟩ := pop_loop q row s hr (some (.sh (.lst ((Ab row s false).map L)))) (some (.sh (.lst ((Ab row s true).map L)))) b5 b6 b7 row.length 1000 (by omega) (by omega)
 refine ⟨M, hM, m1, m2, ?_⟩
 unfold m_Z1 b_Z1
 refine runK_rf ?_
 refine seqI (ρ' := [some (.rd q (row.map .int)), some (.sh (.int s)), none, none, none, none, none, none]) (mexpr_ev (j5 (f := m_Z8) (z7 (d := .int s) rfl y6) (U3 s h1))) ?_
 refine seqI (ρ' := eK q row s (1 :: (List.range row.length).map fun _ => 0) none none none none none) ((W3 e0).trans rfl) ?_
 have e1 : G5 (W5 m_Z6 (krd 0 (P0 (mvar 1) knil))) (eK q row s (1 :: (List.range row.length).map fun _ => 0) none none none none none) = some [.tup [.lst ((Ab row s true).map L), .lst ((Ab row s false).map L)], .tup [.lst ((Ab row s false).map L), .lst ((Ab row s true).map L)]] := by
  unfold G5
  rw [K1 (krd_ev (q := q) (ds := row.map .int) rfl (A0 (d := .int s) rfl knil_ev)) (O7 q row s hr)]
 have ef : mfor (G5 (W5 m_Z6 (krd 0 (P0 (mvar 1) knil)))) (.tp [3, 4]) zz0 (eK q row s (1 :: (List.range row.length).map fun _ => 0) none none none none none) = some (.nx (eK q row s V (some (.sh (.lst ((Ab row s false).map L)))) (some (.sh (.lst ((Ab row s true).map L)))) b5 b6 b7)) := by
  unfold mfor
  rw [e1, Option.bind_some]
  refine forD_two (ρ1 := eK q row s (1 :: (List.range row.length).map fun _ => 0) (some (.sh (.lst ((Ab row s true).map L)))) (some (.sh (.lst ((Ab row s (!true)).map L)))) none none none) rfl eu (ρ3 := eK q row s U (some (.sh (.lst ((Ab row s false).map L)))) (some (.sh (.lst ((Ab row s (!false)).map L)))) a5 a6 a7) rfl ev
 refine seqI ef ?_
 unfold b_Z1_r4
 rw [hV]
 refine seqI em ?_
 rfl
end
section
open PySem L2
theorem U6 (c k : Int) (hk : 0 <= k) : Q7 [.int c, .int k] = some (.sh (.int (stir c k))) := by
 have hp : ((10 : Int) ^ (18 : Int).toNat) = 10 ^ 18 := rfl
 have hp2 : ((2 : Int) ^ (28 : Int).toNat) = 2 ^ 28 := rfl
 have o1 : J7 10 18 = true := by decide
 have o2 : J7 2 28 = true := by decide
 have o3 : S3 28 k = true := Q4 _ _ (by decide) (by decide)
 have o4 : S3 1013 k = true := Q4 _ _ (by decide) (by decide)
 have o5 : S3 (c + 1013 * k + 1) 16807 = true := mulOk_r _ _ (by decide) (by decide)
 have o6 : shrOk (c - 10 ^ 18) (28 * k) = true := by unfold shrOk; exact decide_eq_true (by omega)
 have o7 : S3 ((c + 1013 * k + 1) * 16807 % 2147483647) ((c + 1013 * k + 1) * 16807 % 2147483647) = true := Q4 _ _ (by omega) (by omega)
 have o8 : S3 (((c + 1013 * k + 1) * 16807 % 2147483647) * ((c + 1013 * k + 1) * 16807 % 2147483647) % 2147483629) 39373 = true := mulOk_r _ _ (by decide) (by decide)
 have q1 : ∀ i, J9 i (2 ^ 28) = true := fun i => n5 _ _ (by decide)
 have q2 : ∀ i, J9 i 2147483647 = true := fun i => n5 _ _ (by decide)
 have q3 : ∀ i, J9 i 2147483629 = true := fun i => n5 _ _ (by decide)
 have q4 : ∀ i, J9 i 2147483587 = true := fun i => n5 _ _ (by decide)
 have f1 : ∀ i, O2 i 8 = true := fun i => by unfold O2; decide
 unfold Q7 b_Z13 stir
 by_cases h : 10 ^ 18 <= c
 ·simp_arith [hp, hp2, o1, o2, o3, o6, q1, h, decide_true, if_true]
 ·simp_arith [hp, hp2, o1, o2, o3, o4, o5, o7, o8, q1, q2, q3, q4, f1, h, decide_false, if_true, if_false]
theorem cells_eq (ns : List Int) (many : Nat) (hl : ns.length <= 63) : ∃ cs : List Int, m_Z12 [.lst (ns.map .int), .int many] = some (.fr (cs.map .int)) := by
 unfold m_Z12 b_Z12
 have e1 : cutL (ns.map D.int) none (some (many : Int)) = (ns.take many).map .int := by rw [c7, A3]
 have e2 : [D.int 0] = ([0] : List Int).map .int := rfl
 have g : ((ns.take many).map D.int).length + [D.int 0].length <= sizeLine := w5 (by simp; omega)
 have g2 : 1 <= sizeLine := w5 (by decide)
 refine ⟨cutI (ns.take many ++ [0]) none (some (max 1 (min (many : Int) (ns.length : Int)))), M8 ?_⟩
 simp_arith [e1, g2, if_true, length_map, max_if, min_if]
 have g3 : (ns.take many).length + (0 + 1) <= sizeLine := w5 (by simp; omega)
 rw [if_pos g3]
 simp_arith []
 rw [e2, <- map_append, c7]
def envR (c most size kind wide block : Int) (f : List Int) (last : Int) (o8 o9 o10 : Option S) : Ro := [some (.sh (.int c)), some (.sh (.int most)), some (.sh (.int size)), some (.sh (.int kind)), some (.sh (.int wide)), some (.sh (.int block)), some (.own (f.map .int)), some (.sh (.int last)), o8, o9, o10]
theorem row_body (c most size kind wide block : Int) (f : List Int) (last : Int) (j : Nat) (o9 o10 : Option S) (hk0 : 0 <= kind) (hk8 : kind < 8) (hw : 0 < wide) (hw6 : wide <= 1000000) (hb : 0 < block) (hb9 : block <= 9) (hf : f.length < 1000000) (Q : Out -> Prop)
  (hQ : ∀ x last o8 o9 o10, Q (.nx (envR c most size kind wide block (f ++ [x]) last o8 o9 o10))) : Run zz3 (envR c most size kind wide block f last (some (.sh (.int (j : Int)))) o9 o10) Q := by
 have s1 := U6 c (10 + (j : Int)) (by omega)
 have b1 := j7 (x := stir c (10 + (j : Int))) hw
 obtain ⟨one, eo⟩ : ∃ k, stir c (10 + (j : Int)) % wide = k := ⟨_, rfl⟩
 rw [eo] at b1
 have p23 : (10 : Int) ^ (23 : Int).toNat = 100000000000000000000000 := by decide
 have o23 : J7 10 23 = true := by decide
 have i1 : 0 + 1 <= sizeLine := w5 (by decide)
 have i2 : 0 + 1 + 1 <= sizeLine := w5 (by decide)
 have i3 : 0 + 1 + 1 + 1 <= sizeLine := w5 (by decide)
 have i4 : 0 + 1 + 1 + 1 + 1 <= sizeLine := w5 (by decide)
 have i7 : 0 + 1 + 1 + 1 + 1 + (0 + 1 + 1 + 1) <= sizeLine := w5 (by decide)
 have i8 : 0 + 1 + 1 + 1 + 1 + 1 + 1 + 1 + (0 + 1) <= sizeLine := w5 (by decide)
 have d2 : ∀ i, O2 i 2 = true := fun i => K9 _ _ (by decide) (by decide)
 have m2k := j7 (x := (j : Int)) (show (0 : Int) < 2 by decide)
 obtain ⟨x2, e2⟩ := at2 one (0 - one) ((j : Int) % 2) m2k.1 m2k.2
 have mb := j7 (x := (j : Int) / block) (show (0 : Int) < 2 by decide)
 have mu1 : S3 ((j : Int) / block % 2) wide = true := Q4 _ _ (by omega) (by omega)
 have mu2 : S3 (one - wide / 2) 100000000000000000000000 = true := Q4 _ _ (by omega) (by omega)
 unfold zz3 envR
 ((apply u0; focus (simp_arith [s1, n5 (stir c (10 + (j : Int))) wide hw, if_true, eo]; rfl)))
 ((apply u0; focus (simp_arith [d2, if_true]; rfl)))
 ((apply u0; focus (simp_arith [d2, if_true, i4, i2, n5 (j : Int) 2 (by decide), e2]; rfl)))
 ((apply u0; focus (simp_arith [d2, if_true, i3, i7, K9 (j : Int) block hb (by omega), n5 ((j : Int) / block) 2 (by decide), mu1, mu2, p23, o23, s1, n5 (stir c (10 + (j : Int))) 3 (by decide)]; rfl)))
 obtain ⟨x8, e8⟩ := at8 (one - wide / 2) ((j : Int) + one / 2) (0 - (j : Int) - one / 2) x2 (one + (j : Int) / block % 2 * wide) wide ((one - wide / 2) * 100000000000000000000000 + stir c (10 + (j : Int)) % 3) (last + one - wide / 2) kind hk0 hk8
 have hl : (f.map D.int).length < sizeLine := by simp; have := t4; omega
 refine ⟨_, by simp_arith [i1, i8, if_true, e8, hl]; rfl, ?_⟩
 have := fun a b d => hQ x8 (last + one - wide / 2) a b d
 unfold envR at this
 simp only [map_append] at this
 exact this _ _ _
theorem row_eq (c : Int) (most : Nat) (hm : most <= 300) : ∃ f : List Int, f.length <= most /\ m_Z15 [.int c, .int most] = some (.fr (f.map .int)) := by
 suffices h : ∃ es, m_Z15 [.int c, .int most] = some (.fr es) /\ ∃ f : List Int, f.length <= most /\ es = f.map .int by
  obtain ⟨es, e, f, hf, rfl⟩ := h
  exact ⟨f, hf, e⟩
 unfold m_Z15 b_Z15
 refine runB_rfR ?_
 have i4 : 0 + 1 + 1 + 1 + 1 <= sizeLine := w5 (by decide)
 have i0 : 0 <= sizeLine := Nat.zero_le _
 have p6 : (10 : Int) ^ (6 : Int).toNat = 1000000 := by decide
 have o6 : J7 10 6 = true := by decide
 have b1 := j7 (x := stir c 1) (show (0 : Int) < 4 by decide)
 have b2 := j7 (x := stir c 2) (show (0 : Int) < 8 by decide)
 have b3 := j7 (x := stir c 3) (show (0 : Int) < 4 by decide)
 have b4 := j7 (x := stir c 4) (show (0 : Int) < 9 by decide)
 obtain ⟨sz, e1, hs1⟩ := at4 4 13 41 ((most : Int) + 1) (stir c 1 % 4) b1.1 b1.2
 have hsz : 0 < sz := by omega
 have b0 := j7 (x := stir c 0) hsz
 ((apply u0; focus (simp_arith [U6 c 0 (by decide), U6 c 1 (by decide), i4, if_true, n5 (stir c 1) 4 (by decide), e1, n5 (stir c 0) sz hsz]; rfl)))
 ((apply u0; focus (simp_arith [U6 c 2 (by decide), if_true, n5 (stir c 2) 8 (by decide)]; rfl)))
 obtain ⟨wide, e3, hw⟩ := at4 2 5 50 1000000 (stir c 3 % 4) b3.1 b3.2
 ((apply u0; focus (simp_arith [U6 c 3 (by decide), i4, if_true, n5 (stir c 3) 4 (by decide), p6, o6, e3]; rfl)))
 ((apply u0; focus (simp_arith [U6 c 4 (by decide), if_true, n5 (stir c 4) 9 (by decide)]; rfl)))
 ((apply u0; focus (simp_arith [i0, if_true]; rfl)))
 ((apply u0; focus (simp_arith []; rfl)))
 obtain ⟨n, en⟩ := nat_of (x := min (stir c 0 % sz) (most : Int)) (by omega)
 have hn : n <= 300 := by omega
 have hn2 : n <= most := by omega
 have k1 : okR (n : Int) = true := Y9 (by omega) (by omega)
 refine N5 (S1 n (f := fun (j : Nat) => D.int (j : Int)) (by simp_arith [min_if, en, X7 k1, Int.toNat_natCast]; rw [f6, map_map]; rfl)
  (I := fun j ρ => ∃ f last o8 o9 o10, f.length = j /\ ρ = envR c most (stir c 0 % sz) (stir c 2 % 8) wide (1 + stir c 4 % 9) f last o8 o9 o10) _ ⟨[], _, _, _, _, rfl, rfl⟩ ?_ ?_)
 ·rintro j ρ hj ⟨f, last, o8, o9, o10, hf, rfl⟩
  refine ⟨_, rfl, row_body c most (stir c 0 % sz) (stir c 2 % 8) wide (1 + stir c 4 % 9) f last j o9 o10 b2.1 b2.2 (by omega) (by omega) (by omega) (by omega) (by omega) _ fun x last o8 o9 o10 => ⟨f ++ [x], last, o8, o9, o10, by simp [hf], rfl⟩⟩
 ·rintro ρ ⟨f, last, o8, o9, o10, hf, rfl⟩
  exact run_retO rfl ⟨_, rfl, f, by omega, rfl⟩
theorem mborT_ev {i : Nat} {m : ME} {ρ : Ro} {ds : List D} {d : D} (h : ρ[i]? = some (some (.own ds))) (h2 : m (ρ.set i (some (.sh (.lst ds)))) = some d) (hn : noL d = true) : mborT i m ρ = some d := by
 unfold mborT; rw [h]; simp only; rw [h2]; simp only [hn, if_true]
theorem mtru_bl {x : ME} {ρ : Ro} {b : Bool} (h : x ρ = some (.bl b)) : mtru x ρ = some b := by unfold mtru; rw [h]; rfl
theorem cnot_ev {x : MB} {ρ : Ro} {b : Bool} (h : x ρ = some b) : cnot x ρ = some (!b) := by unfold cnot; rw [h]; rfl
theorem B4 {x : ME} {ρ : Ro} {b : Bool} (h : x ρ = some (.bl b)) : u6 x ρ = some b := by unfold u6; rw [h]
theorem call1_ev {f : List D -> Option D} {m : ML} {ρ : Ro} {ds : List D} (h : m ρ = some ds) : d9 f m ρ = f ds := by
 unfold d9; rw [h]; rfl
theorem mif_false {c : MB} {x : MS} {ρ : Ro} (h : c ρ = some false) : mif c x X4 ρ = some (.nx ρ) := by unfold mif; rw [h]; rfl
theorem Q8 {f : D -> D -> Option D} {x y : ME} {ρ : Ro} {a b : D} (h1 : x ρ = some a) (h2 : y ρ = some b) : m2 f x y ρ = f a b := by
 unfold m2; rw [h1, h2]; rfl
theorem same0 (a : Int) : m_Z9 [.int a, .int a] = some (.sh (.bl true)) := by
 unfold m_Z9 b_Z9
 refine U7 ?_
 ((apply seqI; focus (simp_arith [ks_is]; rfl)))
 ((apply seqI; focus (simp_arith [B6, k2_i]; rfl)))
 simp_arith [ks_ii, ks_ib, beq_self_eq_true]
theorem zy2 (xs : List Int) (hl : xs.length <= 1000) : m_Z10 [.lst (xs.map .int), .lst (xs.map .int)] = some (.sh (.bl true)) := by
 unfold m_Z10 b_Z10
 refine runB_run ?_
 ((apply u0; focus (simp_arith [ks_ls]; rfl)))
 refine N5 (run_if (b := true) (by simp_arith [B6, k2_l]) ?_)
 show Run (mseq _ _) _ _
 ((apply u0; focus (simp_arith [ks_ll, B6, k2_l, eqS_bb, beq_self_eq_true, Bool.not_true, Bool.not_false]; rfl)))
 ((apply u0; focus (simp_arith [beq_self_eq_true, Bool.not_true]; rfl)))
 refine ⟨.rt (.bl true), ?_, rfl⟩
 have hc := comp_none (f := D.int) (mi := v5 zip2 (z5 (mvar 0) (z5 (mvar 1) anil))) (c := cnot (mtru (t8 m_Z9 (z5 (mvar 0) (z5 (mvar 1) anil))))) (ρ := [some (.sh (.lst (xs.map .int))), some (.sh (.lst (xs.map .int)))]) xs (by simp_arith [zip_self]) hl
  (by
   intro x hx
   unfold cnot mtru
   rw [j5 (z7 (d := .int x) rfl (z7 (d := .int x) rfl y6)) (same0 x)]; rfl)
 exact Q5 hc
end
section
open PySem L2
theorem cut_last {α : Type} (A : List α) (x : α) : cutI (A ++ [x]) (some (-1)) none = [x] := by
 unfold cutI HT.sIx
 simp
 have : ((-1 : Int) + ((A.length : Int) + 1)).toNat = A.length := by omega
 rw [this]
 simp
theorem cut_lastN {α : Type} : cutI ([] : List α) (some (-1)) none = [] := by unfold cutI; simp
def rb (x : Nat -> Int) (s : Int) : Option Bool -> List (Nat × Nat) -> Bool
 | _, [] => true
 | w, (a, b) :: ps => if ((x b - x a).natAbs : Int) < s \/ w = some (decide (0 < x b - x a)) then false else rb x s (some (decide (0 < x b - x a))) ps
theorem C3 {x : Nat -> Int} {s : Int} (hs : 1 <= s) {w : Option Bool} {a b : Nat} {ps : List (Nat × Nat)} : rb x s w ((a, b) :: ps) = true ↔ ∃ e, far s e (x a) (x b) /\ w ≠ some e /\ rb x s (some e) ps = true := by
 rw [rb]
 have key : ∀ e, far s e (x a) (x b) -> e = decide (0 < x b - x a) := fun e h => by
  unfold far at h
  cases e
  ·simp only [Bool.false_eq_true, if_false] at h
   exact (decide_eq_false (by omega)).symm
  ·simp only [if_true] at h
   exact (decide_eq_true (by omega)).symm
 constructor
 ·intro h
  split at h
  ·cases h
  ·rename_i z
   refine ⟨decide (0 < x b - x a), ?_, fun y => z (.inr y), h⟩
   have z1 : ¬ ((x b - x a).natAbs : Int) < s := fun y => z (.inl y)
   unfold far
   by_cases y : 0 < x b - x a
   ·rw [decide_eq_true y, if_pos rfl]; omega
   ·rw [decide_eq_false y, if_neg (by decide)]; omega
 ·rintro ⟨e, h1, h2, h3⟩
  have ke := key e h1
  rw [<- ke, if_neg]
  ·exact h3
  ·rintro (y | y)
   ·unfold far at h1
    cases e
    ·simp only [Bool.false_eq_true, if_false] at h1; omega
    ·simp only [if_true] at h1; omega
   ·exact h2 y
theorem far_swap {s : Int} {d : Bool} {a b : Int} : far s (!d) a b ↔ far s d b a := by
 unfold far; cases d <;> simp
theorem C4 {x : Nat -> Int} {n : Nat} {s : Int} (hs : 1 <= s) : ∀ (l : List Nat) (q z : Nat) (d : Bool), (q :: l).Pairwise (· < ·) -> (∀ y ∈ q :: l, y < n) ->
  (rb x s (some (!d)) ((q :: l).zip (l ++ [z])) = true ↔ Wd x n s d (q :: l) /\ ∃ k, (q :: l).getLast? = some k /\ far s (if l.length % 2 = 0 then d else !d) (x k) (x z))
 | [], q, z, d, hp, hn => by
  show rb x s (some (!d)) [(q, z)] = true ↔ _
  rw [C3 hs]
  constructor
  ·rintro ⟨e, h1, h2, _⟩
   have : e = d := by cases e <;> cases d <;> simp at h2 ⊢
   subst this
   exact ⟨hn q (by simp), q, rfl, h1⟩
  ·rintro ⟨_, k, e, h⟩
   cases e
   exact ⟨d, h, by cases d <;> simp, rfl⟩
 | r :: l, q, z, d, hp, hn => by
  show rb x s (some (!d)) ((q, r) :: (r :: l).zip (l ++ [z])) = true ↔ _
  have hp' := List.pairwise_cons.mp hp
  have ih := C4 (x := x) (n := n) hs l r z (!d) hp'.2 fun y hy => hn y (by simp at hy ⊢; right; exact hy)
  rw [Bool.not_not] at ih
  rw [C3 hs, getLast?_cons_cons]
  have par : (if (r :: l).length % 2 = 0 then d else !d) = (if l.length % 2 = 0 then !d else d) := by
   rw [length_cons]
   rcases Nat.mod_two_eq_zero_or_one l.length with h | h
   ·rw [if_neg (by omega), if_pos h]
   ·rw [if_pos (by omega), if_neg (by omega)]
  rw [par]
  constructor
  ·rintro ⟨e, h1, h2, h3⟩
   have : e = d := by cases e <;> cases d <;> simp at h2 ⊢
   subst this
   obtain ⟨a, b⟩ := ih.mp h3
   exact ⟨⟨hp'.1 r (by simp), h1, a⟩, b⟩
  ·rintro ⟨⟨_, h1, a⟩, b⟩
   exact ⟨d, h1, by cases d <;> simp, ih.mpr ⟨a, b⟩⟩
theorem getLast_mem {l : List Nat} {k : Nat} (h : l.getLast? = some k) : k ∈ l := mem_of_getLast? h
def rbL (row : List Int) (s : Int) (K : List Nat) : Bool := rb (xr row) s none (K.zip (K.drop 1 ++ K.take 1)) && K.length % 2 == 0
theorem rbL_iff {row : List Int} {s : Int} (hs : 1 <= s) {K : List Nat} (hp : K.Pairwise (· < ·)) (hn : ∀ y ∈ K, y < row.length) : rbL row s K = true ↔ K = [] \/ Rg row s K := by
 unfold rbL
 rw [Bool.and_eq_true, beq_iff_eq]
 constructor
 ·rintro ⟨h1, h2⟩
  cases K with
  | nil => exact .inl rfl
  | cons p K =>
   cases K with
   | nil => simp at h2
   | cons q l =>
    have h1 : rb (xr row) s none ((p, q) :: (q :: l).zip (l ++ [p])) = true := h1
    obtain ⟨d, a1, _, a3⟩ := (C3 hs).mp h1
    have hp' := List.pairwise_cons.mp hp
    have c := C4 (x := xr row) (n := row.length) hs l q p (!d) hp'.2 fun y hy => hn y (mem_cons_of_mem _ hy)
    rw [Bool.not_not] at c
    obtain ⟨w, k, ek, fk⟩ := c.mp a3
    simp only [length_cons] at h2
    rw [if_pos (by omega)] at fk
    have hk := getLast_mem ek
    refine .inr ⟨d, p, hn p (by simp), ⟨hp'.1 q (by simp), a1, w⟩, ⟨_, rfl⟩, by simp only [length_cons]; omega, k, by rw [getLast?_cons_cons]; exact ek, ?_⟩
    exact abv_mem.mpr ⟨hp'.1 k hk, hn k (mem_cons_of_mem _ hk), far_swap.mp fk⟩
 ·rintro (rfl | ⟨d, f, hf, w, ⟨m, rfl⟩, h3, k, ek, hk⟩)
  ·exact ⟨rfl, rfl⟩
  ·refine ⟨?_, h3⟩
   cases m with
   | nil => simp at h3
   | cons q l =>
    show rb (xr row) s none ((f, q) :: (q :: l).zip (l ++ [f])) = true
    have hp' := List.pairwise_cons.mp hp
    have c := C4 (x := xr row) (n := row.length) hs l q f (!d) hp'.2 fun y hy => hn y (mem_cons_of_mem _ hy)
    rw [Bool.not_not] at c
    rw [getLast?_cons_cons] at ek
    simp only [length_cons] at h3
    refine (C3 hs).mpr ⟨d, w.2.1, by simp, c.mpr ⟨w.2.2, k, ek, ?_⟩⟩
    rw [if_pos (by omega)]
    exact far_swap.mpr (abv_mem.mp hk).2.2
end
section
open PySem L2
def wsD (ws : List Bool) : List D := ws.map .bl
def eR (row : List Int) (s : Int) (K : List Nat) (last : Int) (o4 : Option S) (ws : List Bool) (o6 o7 o8 : Option S) : Ro := [some (.sh (.lst (row.map .int))), some (.sh (.int s)), some (.sh (L K)), some (.sh (.int last)), o4, some (.own (wsD ws)), o6, o7, o8]
theorem ends_ev {ρ : Ro} {ws : List Bool} {b : Bool} {v : ME} (hw : ρ[5]? = some (some (.own (wsD ws)))) (hv : v ρ = some (.bl b)) : u6 (meqB false (mcut (bvar 5) (e9 (m1 negD (mc (.int 1)))) c0) (w6 (z5 v anil))) ρ = some (decide (ws.getLast? = some b)) := by
 have i1 : 0 + 1 <= sizeLine := w5 (by decide)
 have e1 : mcut (bvar 5) (e9 (m1 negD (mc (.int 1)))) c0 ρ = some ((cutI ws (some (-1)) none).map .bl) := by
  have hb : bvar 5 ρ = some (wsD ws) := by unfold bvar; rw [hw]
  unfold mcut
  rw [hb]
  show some (cutL (wsD ws) (some (-1)) none) = _
  unfold wsD
  rw [c7]
 have e2 := t3 (z7 hv y6) i1
 unfold u6 meqB
 rw [e1, e2]
 simp only [Option.bind_some]
 cases hws : ws.getLast? with
 | none =>
  rw [getLast?_eq_none_iff] at hws
  subst hws
  rw [cut_lastN]
  rfl
 | some a =>
  obtain ⟨A, rfl⟩ := List.getLast?_eq_some_iff.mp hws
  rw [cut_last]
  show (match (eqF 8 (.lst [.bl a]) (.lst [.bl b])).map (fun k => D.bl (if false then !k else k)) with | some (.bl b) => some b | _ => none) = _
  have : eqF 8 (.lst [.bl a]) (.lst [.bl b]) = some (a == b) := by
   show (if _ = _ then zipE (eqF 7) [.bl a] [.bl b] else some false) = _
   rw [if_pos (by rfl)]
   show (some (a == b)).bind (fun r => (zipE (eqF 7) [] []).map fun k => r && k) = _
   simp [zipE]
  rw [this]
  simp only [Bool.false_eq_true, if_false, Option.map_some, Option.some.injEq]
  rw [Bool.eq_iff_iff, beq_iff_eq, decide_eq_true_eq]
theorem zw5 (row : List Int) (s : Int) (K : List Nat) (hs : 1 <= s) (hl : K.length <= 300) (hp : K.Pairwise (· < ·)) (hn : ∀ y ∈ K, y < row.length) : m_Z11 [.lst (row.map .int), .int s, L K] = some (.sh (.bl (rbL row s K))) := by
 have big := t4
 unfold m_Z11 b_Z11
 refine U7 ?_
 refine seqI (ρ' := [some (.sh (.lst (row.map .int))), some (.sh (.int s)), some (.sh (L K)), some (.sh (.int (-1))), none, none, none, none, none]) rfl ?_
 refine D7 K (f := dN) rfl (I := fun ks ρ => ∃ last o4, ρ = [some (.sh (.lst (row.map .int))), some (.sh (.int s)), some (.sh (L K)), some (.sh (.int last)), o4, none, none, none, none] /\ ks.Pairwise (· < ·) /\ (∀ y ∈ ks, y < row.length /\ last < (y : Int)))
  (Q := fun o => ∃ last o4, o = .nx [some (.sh (.lst (row.map .int))), some (.sh (.int s)), some (.sh (L K)), some (.sh (.int last)), o4, none, none, none, none]) ⟨-1, none, rfl, hp, fun y hy => ⟨hn y hy, by omega⟩⟩ ?_ ?_ ?_
 ·rintro p ks ρ ⟨last, o4, rfl, h1, h2⟩
  have hq := h2 p (by simp)
  have h1' := List.pairwise_cons.mp h1
  refine ⟨_, .nx [some (.sh (.lst (row.map .int))), some (.sh (.int s)), some (.sh (L K)), some (.sh (.int (p : Int))), some (.sh (.int (p : Int))), none, none, none, none], rfl, ?_, (p : Int), _, rfl, h1'.2, fun y hy => ⟨(h2 y (by simp [hy])).1, by have := h1'.1 y hy; omega⟩⟩
  unfold b_Z11_f0
  have c1 : ¬ (p : Int) <= last := by omega
  have c2 : ¬ (row.length : Int) <= (p : Int) := by omega
  unfold dN
  simp_arith [length_map, c1, c2, decide_false, Bool.or_self]
 ·rintro ρ ⟨last, o4, rfl, _, _⟩
  exact ⟨last, o4, rfl⟩
 ·rintro o ⟨last, o4, rfl⟩
  show zz4 _ = _
  unfold zz4
  refine seqI (ρ' := eR row s K last o4 [] none none none) ((W3 (t3 y6 (Nat.zero_le _))).trans rfl) ?_
  have ez : v5 zip2 (z5 (mvar 2) (z5 (mlst (mcat (mcut (bvar 2) (e9 (mc (.int 1))) c0) (mcut (bvar 2) c0 (e9 (mc (.int 1)))))) anil)) (eR row s K last o4 [] none none none) = some ((K.zip (K.drop 1 ++ K.take 1)).map fun ab => D.tup [dN ab.1, dN ab.2]) := by
   have e1 : mcut (bvar 2) (e9 (mc (.int 1))) c0 (eR row s K last o4 [] none none none) = some ((K.drop 1).map dN) := by
    have : cutL (K.map dN) (some ((1 : Nat) : Int)) none = (K.drop 1).map dN := by rw [c7, cutI_from]
    unfold mcut
    exact congrArg some this
   have e2 : mcut (bvar 2) c0 (e9 (mc (.int 1))) (eR row s K last o4 [] none none none) = some ((K.take 1).map dN) := by
    have : cutL (K.map dN) none (some ((1 : Nat) : Int)) = (K.take 1).map dN := by rw [c7, A3]
    unfold mcut
    exact congrArg some this
   have e3 := n6 (K0 e1 e2 (by simp; omega))
   rw [<- map_append] at e3
   unfold v5
   rw [z7 (d := L K) rfl (z7 e3 y6), Option.bind_some]
   show some (List.zipWith (fun d e => D.tup [d, e]) (K.map dN) ((K.drop 1 ++ K.take 1).map dN)) = _
   rw [zipWith_map, zip_eq_zipWith, map_zipWith]
  refine D7 (K.zip (K.drop 1 ++ K.take 1)) (f := fun ab => D.tup [dN ab.1, dN ab.2]) ez
   (I := fun ps ρ => ∃ ws o6 o7 o8, ρ = eR row s K last o4 ws o6 o7 o8 /\ ws.length + ps.length <= 300 /\ (∀ ab ∈ ps, ab.1 < row.length /\ ab.2 < row.length) /\ rb (xr row) s none (K.zip (K.drop 1 ++ K.take 1)) = rb (xr row) s ws.getLast? ps)
   (Q := fun o => (∃ ws o6 o7 o8, o = .nx (eR row s K last o4 ws o6 o7 o8) /\ rb (xr row) s none (K.zip (K.drop 1 ++ K.take 1)) = true) \/ (o = .rt (.bl false) /\ rb (xr row) s none (K.zip (K.drop 1 ++ K.take 1)) = false))
   ⟨[], none, none, none, rfl, ?_, ?_, rfl⟩ ?_ ?_ ?_
  ·have : (K.zip (K.drop 1 ++ K.take 1)).length <= K.length := by rw [length_zip]; omega
   simp; omega
  ·rintro ⟨a, b⟩ hab
   have h1 := of_mem_zip hab
   refine ⟨hn a h1.1, hn b ?_⟩
   rcases List.mem_append.mp h1.2 with z | z
   ·exact mem_of_mem_drop z
   ·exact mem_of_mem_take z
  ·rintro ⟨a, b⟩ ps ρ ⟨ws, o6, o7, o8, rfl, h1, h2, h3⟩
   have hab := h2 (a, b) (by simp)
   simp only [length_cons] at h1
   have ea := at_nat row a hab.1
   have eb := at_nat row b hab.2
   rw [rb] at h3
   refine ⟨eR row s K last o4 ws (some (.sh (dN a))) (some (.sh (dN b))) o8, ?_⟩
   unfold b_Z11_f1
   have s1 : mset 8 (m2 subD (mix (bvar 0) (mvar 7)) (mix (bvar 0) (mvar 6))) (eR row s K last o4 ws (some (.sh (dN a))) (some (.sh (dN b))) o8) = some (.nx (eR row s K last o4 ws (some (.sh (dN a))) (some (.sh (dN b))) (some (.sh (.int (xr row b - xr row a)))))) :=
    (m6 ((S5 (U4 (ds := row.map .int) (k := (b : Int)) rfl rfl eb) (U4 (ds := row.map .int) (k := (a : Int)) rfl rfl ea)).trans rfl)).trans rfl
   have t1 : u6 (m2 ltD (d9 absF (z5 (mvar 8) anil)) (mvar 1)) (eR row s K last o4 ws (some (.sh (dN a))) (some (.sh (dN b))) (some (.sh (.int (xr row b - xr row a))))) = some (decide (((xr row b - xr row a).natAbs : Int) < s)) := by
    refine tlt_ev (i := ((xr row b - xr row a).natAbs : Int)) ?_ rfl
    unfold d9
    rw [z7 (d := .int (xr row b - xr row a)) rfl y6]
    show some (D.int (if xr row b - xr row a < 0 then -(xr row b - xr row a) else xr row b - xr row a)) = _
    rw [abs_if]
   have gt1 : m2 gtD (mvar 8) (mc (.int 0)) (eR row s K last o4 ws (some (.sh (dN a))) (some (.sh (dN b))) (some (.sh (.int (xr row b - xr row a))))) = some (.bl (decide (0 < xr row b - xr row a))) := by
    refine (S5 (a := .int (xr row b - xr row a)) (b := .int 0) rfl rfl).trans ?_
    rfl
   have t2 := ends_ev (ρ := eR row s K last o4 ws (some (.sh (dN a))) (some (.sh (dN b))) (some (.sh (.int (xr row b - xr row a))))) (ws := ws) rfl gt1
   have cc := cor_ev t1 t2
   by_cases z : ((xr row b - xr row a).natAbs : Int) < s \/ ws.getLast? = some (decide (0 < xr row b - xr row a))
   ·rw [if_pos z] at h3
    refine ⟨.rt (.bl false), rfl, ?_, .inr ⟨rfl, h3⟩⟩
    refine (seqI s1 (seqR ?_))
    unfold mif
    rw [cc]
    have : (decide (((xr row b - xr row a).natAbs : Int) < s) || decide (ws.getLast? = some (decide (0 < xr row b - xr row a)))) = true := by
     rw [Bool.or_eq_true, decide_eq_true_eq, decide_eq_true_eq]; exact z
    rw [this]
    rfl
   ·rw [if_neg z] at h3
    refine ⟨.nx (eR row s K last o4 (ws ++ [decide (0 < xr row b - xr row a)]) (some (.sh (dN a))) (some (.sh (dN b))) (some (.sh (.int (xr row b - xr row a))))), rfl, ?_, _, _, _, _, rfl, by simp; omega, fun ab hab => h2 ab (by simp [hab]), ?_⟩
    ·refine seqI s1 (seqI (ρ' := eR row s K last o4 ws (some (.sh (dN a))) (some (.sh (dN b))) (some (.sh (.int (xr row b - xr row a))))) ?_ ?_)
     ·unfold mif
      rw [cc]
      have : (decide (((xr row b - xr row a).natAbs : Int) < s) || decide (ws.getLast? = some (decide (0 < xr row b - xr row a)))) = false := by
       rw [<- Bool.not_eq_true, Bool.or_eq_true, decide_eq_true_eq, decide_eq_true_eq]; exact z
      rw [this]
      rfl
     ·unfold mapp
      rw [gt1]
      show (if (wsD ws).length < sizeLine then some (Out.nx _) else none) = _
      rw [if_pos (by unfold wsD; simp; omega)]
      unfold eR wsD
      rw [map_append]
      rfl
    ·rw [h3]; simp
  ·rintro ρ ⟨ws, o6, o7, o8, rfl, _, _, h⟩
   exact .inl ⟨ws, o6, o7, o8, rfl, by rw [h]; rfl⟩
  ·rintro o (⟨ws, o6, o7, o8, rfl, h⟩ | ⟨rfl, h⟩)
   ·show mret _ _ = _
    refine Q5 ?_
    have em : mlen (bvar 2) (eR row s K last o4 ws o6 o7 o8) = some (.int (K.length : Int)) := by rw [d5 (ds := K.map dN) rfl, length_map]
    have e2 : m2 modD (mlen (bvar 2)) (mc (.int 2)) (eR row s K last o4 ws o6 o7 o8) = some (.int ((K.length : Int) % 2)) := by
     rw [S5 em (b := .int 2) rfl]
     show (if J9 (K.length : Int) 2 = true then some (D.int ((K.length : Int) % 2)) else none) = _
     rw [if_pos (n5 _ _ (by decide))]
    rw [S5 e2 (b := .int 0) rfl]
    show some (D.bl ((K.length : Int) % 2 == 0)) = _
    unfold rbL
    rw [h, Bool.true_and]
    congr 2
    rw [Bool.eq_iff_iff, beq_iff_eq, beq_iff_eq]
    omega
   ·show some (Out.rt _) = _
    unfold rbL
    rw [h]
    rfl
end
section
open PySem L2
def NI (l : List Nat) : List Int := l.map fun (k : Nat) => (k : Int)
def KF (n : Nat) (f : Nat -> Bool) : List Nat := (List.range n).filter f
def bitF (j p : Nat) : Bool := j.testBit p
theorem bits_of (f : Nat -> Bool) : ∀ n, ∃ j, j < 2 ^ n /\ ∀ p, p < n -> bitF j p = f p
 | 0 => ⟨0, by decide, fun p hp => by omega⟩
 | n + 1 => by
  obtain ⟨j, hj, h⟩ := bits_of f n
  cases hf : f n with
  | false =>
   refine ⟨j, by rw [Nat.pow_succ]; omega, fun p hp => ?_⟩
   rcases Nat.lt_or_ge p n with z | z
   ·exact h p z
   ·rw [show p = n by omega, hf]
    exact Nat.testBit_lt_two_pow hj
  | true =>
   refine ⟨2 ^ n + j, by rw [Nat.pow_succ]; omega, fun p hp => ?_⟩
   rcases Nat.lt_or_ge p n with z | z
   ·rw [<- h p z]
    exact Nat.testBit_two_pow_add_gt z j
   ·rw [show p = n by omega, hf]
    show (2 ^ n + j).testBit n = true
    rw [Nat.testBit_two_pow_add_eq, Nat.testBit_lt_two_pow hj]
    rfl
theorem KF_congr {n : Nat} {f g : Nat -> Bool} (h : ∀ p, p < n -> f p = g p) : KF n f = KF n g := filter_congr fun p hp => h p (List.mem_range.mp hp)
theorem bit_at (j p : Nat) : (Builtin.bitAnd ((j : Int) / 2 ^ p) 1 == 1) = bitF j p := by
 have e : (j : Int) / 2 ^ p = ((j / 2 ^ p : Nat) : Int) := by norm_cast
 rw [e]
 have e2 : Builtin.bitAnd ((j / 2 ^ p : Nat) : Int) 1 = ((j / 2 ^ p % 2 : Nat) : Int) := by
  unfold Builtin.bitAnd
  rw [show decide ((0 : Int) <= ((j / 2 ^ p : Nat) : Int)) = true from decide_eq_true (Int.natCast_nonneg _)]
  show (((((j / 2 ^ p : Nat) : Int).toNat &&& (1 : Int).toNat : Nat)) : Int) = _
  rw [Int.toNat_natCast, show (1 : Int).toNat = 1 from rfl, Nat.and_one_is_mod]
 rw [e2]
 unfold bitF
 rw [Nat.testBit_eq_decide_div_mod_eq, Bool.eq_iff_iff, beq_iff_eq, decide_eq_true_eq]
 omega
theorem KF_mem {n : Nat} {f : Nat -> Bool} (p : Nat) : p ∈ KF n f ↔ p < n /\ f p = true := by unfold KF; rw [mem_filter, mem_range]
def eA (n : Nat) (F : List (List Nat)) (o2 : Option S) : Ro := [some (.sh (.int (n : Int))), some (.own (F.map L)), o2]
theorem L_NI (l : List Nat) : D.lst ((NI l).map .int) = L l := by unfold NI L dN; rw [map_map]; rfl
theorem all_comp (n : Nat) (hn : n <= 900) (j : Nat) (F : List (List Nat)) : u9 [none, some 2] (v5 rng1 (z5 (mvar 0) anil)) (.nm 0) (u6 (m2 eqSD (m2 andD (m2 shrD (mvar 1) (mvar 0)) (mc (.int 1))) (mc (.int 1)))) (mvar 0) (eA n F (some (.sh (.int (j : Int))))) = some ((NI (KF n (bitF j))).map .int) := by
 have big := t4
 unfold u9 v5
 rw [z7 (d := .int (n : Int)) rfl y6, Option.bind_some, X7 (Y9 (by omega) (by omega)), Option.bind_some, Int.toNat_natCast, f6, map_map]
 refine (o0 (f := D.int ∘ fun (i : Nat) => (i : Int)) (p := bitF j) (G := fun (i : Nat) => D.int (i : Int)) (fun is ρ => ∃ x, ρ = [x, some (.sh (.int (j : Int)))]) (by
  rintro i is ρ ⟨x, rfl⟩
  refine ⟨[some (.sh (.int (i : Int))), some (.sh (.int (j : Int)))], rfl, B4 ?_, fun _ => rfl, _, rfl⟩
  have e1 : m2 shrD (mvar 1) (mvar 0) [some (.sh (.int (i : Int))), some (.sh (.int (j : Int)))] = some (.int ((j : Int) / 2 ^ i)) := by
   rw [Q8 (a := .int (j : Int)) (b := .int (i : Int)) rfl rfl]
   show (if shrOk (j : Int) (i : Int) = true then some (D.int ((j : Int) / 2 ^ (i : Int).toNat)) else none) = _
   rw [if_pos (by unfold shrOk; exact decide_eq_true (Int.natCast_nonneg i)), Int.toNat_natCast]
  rw [Q8 ((Q8 e1 (b := .int 1) rfl).trans (show andD (.int ((j : Int) / 2 ^ i)) (.int 1) = some (.int (Builtin.bitAnd ((j : Int) / 2 ^ i) 1)) from rfl)) (b := .int 1) rfl]
  unfold eqSD
  rw [eqS_ii, bit_at]
  rfl) (List.range n) _ [] ⟨none, rfl⟩ (w5 (by simp; omega))).trans ?_
 rw [nil_append]
 unfold NI KF
 rw [map_map]
 rfl
theorem all_eq (n : Nat) (hn : n <= 9) : m_Z16 [.int (n : Int)] = some (.fr (((List.range (2 ^ n)).map fun j => KF n (bitF j)).map L)) := by
 have big := t4
 have hp : 2 ^ n <= 512 := by
  have : 2 ^ n <= 2 ^ 9 := Nat.pow_le_pow_right (by decide) hn
  exact this
 unfold m_Z16 b_Z16
 refine M8 ?_
 refine seqI (ρ' := eA n [] none) (by unfold eA; simp_arith [Nat.zero_le, if_true]) ?_
 have e0 : v5 rng1 (z5 (m2 shlD (mc (.int 1)) (mvar 0)) anil) (eA n [] none) = some ((List.range (2 ^ n)).map fun (i : Nat) => D.int (i : Int)) := by
  have es : m2 shlD (mc (.int 1)) (mvar 0) (eA n [] none) = some (.int ((2 ^ n : Nat) : Int)) := by
   rw [Q8 (a := .int 1) (b := .int (n : Int)) rfl rfl]
   show (if J7 1 (n : Int) = true then some (D.int (1 * 2 ^ (n : Int).toNat)) else none) = _
   rw [if_pos (by unfold J7; rw [decide_eq_true (by omega), decide_eq_true (by omega)]; rfl), Int.toNat_natCast, Int.one_mul]
   norm_cast
  have okr : okR ((2 ^ n : Nat) : Int) = true := by
   generalize 2 ^ n = N at hp ⊢
   exact Y9 (by omega) (by omega)
  unfold v5
  rw [z7 es y6, Option.bind_some, X7 okr, Int.toNat_natCast, f6, map_map]
  rfl
 refine seq_forN (2 ^ n) e0 (I := fun i ρ => i <= 2 ^ n /\ ∃ o2, ρ = eA n ((List.range i).map fun j => KF n (bitF j)) o2) (Q := fun o => ∃ o2, o = .nx (eA n ((List.range (2 ^ n)).map fun j => KF n (bitF j)) o2)) ⟨Nat.zero_le _, none, rfl⟩ ?_ ?_ ?_
 ·rintro i ρ hi ⟨_, o2, rfl⟩
  refine ⟨eA n ((List.range i).map fun j => KF n (bitF j)) (some (.sh (.int (i : Int)))), .nx (eA n ((List.range (i + 1)).map fun j => KF n (bitF j)) (some (.sh (.int (i : Int))))), rfl, ?_, by omega, _, rfl⟩
  unfold b_Z16_f0
  have hz : (((List.range i).map fun j => KF n (bitF j)).map L).length < sizeLine := by simp; omega
  have ec := n6 (all_comp n (by omega) i ((List.range i).map fun j => KF n (bitF j)))
  rw [L_NI] at ec
  have ha : ∀ (x : ME) (d : D), x (eA n ((List.range i).map fun j => KF n (bitF j)) (some (.sh (.int (i : Int))))) = some d -> mapp 1 x (eA n ((List.range i).map fun j => KF n (bitF j)) (some (.sh (.int (i : Int))))) = some (.nx [some (.sh (.int (n : Int))), some (.own ((((List.range i).map fun j => KF n (bitF j)).map L) ++ [d])), some (.sh (.int (i : Int)))]) := fun x d h => by
   unfold mapp
   rw [h]
   unfold eA
   simp_arith [hz, if_true]
  rw [ha _ _ ec]
  unfold eA
  rw [range_succ, map_append, map_append]
  rfl
 ·rintro ρ ⟨_, o2, rfl⟩
  exact ⟨o2, rfl⟩
 ·rintro o ⟨o2, rfl⟩
  rfl
theorem Wd_up {x : Nat -> Int} {n : Nat} {s : Int} : ∀ {l : List Nat} {d : Bool} {p : Nat}, Wd x n s d (p :: l) -> (p :: l).Pairwise (· < ·) /\ ∀ y ∈ p :: l, y < n
 | [], d, p, h => ⟨pairwise_singleton .., fun y hy => by rw [List.mem_singleton.mp hy]; exact h⟩
 | q :: l, d, p, h => by
  obtain ⟨h1, h2⟩ := Wd_up h.2.2
  have hq := List.pairwise_cons.mp h1
  refine ⟨List.pairwise_cons.mpr ⟨fun y hy => ?_, h1⟩, fun y hy => ?_⟩
  ·rcases List.mem_cons.mp hy with rfl | hy
   ·exact h.1
   ·exact Nat.lt_trans h.1 (hq.1 y hy)
  ·rcases List.mem_cons.mp hy with rfl | hy
   ·exact h.lt
   ·exact h2 y hy
theorem up_ext : ∀ {a b : List Nat}, a.Pairwise (· < ·) -> b.Pairwise (· < ·) -> (∀ x, x ∈ a ↔ x ∈ b) -> a = b
 | [], [], _, _, _ => rfl
 | [], y :: b, _, _, h => by have := (h y).mpr (by simp); cases this
 | x :: a, [], _, _, h => by have := (h x).mp (by simp); cases this
 | x :: a, y :: b, ha, hb, h => by
  have h1 := List.pairwise_cons.mp ha
  have h2 := List.pairwise_cons.mp hb
  have e : x = y := by
   rcases List.mem_cons.mp ((h x).mp (by simp)) with e | e
   ·exact e
   ·rcases List.mem_cons.mp ((h y).mpr (by simp)) with e2 | e2
    ·exact e2.symm
    ·have := h2.1 x e
     have := h1.1 y e2
     omega
  subst e
  congr 1
  refine up_ext h1.2 h2.2 fun z => ⟨fun hz => ?_, fun hz => ?_⟩
  ·rcases List.mem_cons.mp ((h z).mp (by simp [hz])) with e | e
   ·have := h1.1 z hz; omega
   ·exact e
  ·rcases List.mem_cons.mp ((h z).mpr (by simp [hz])) with e | e
   ·have := h2.1 z hz; omega
   ·exact e
theorem lt_L (a b : List Nat) : ltF 8 (L a) (L b) = some (lx a b) := lexF_nn 6 a b
theorem minP_L : ∀ (ls : List (List Nat)) (b : List Nat), ∃ r, minP (ls.map L) (L b) = some (L r) /\ r ∈ b :: ls /\ ∀ m ∈ b :: ls, lx m r = false
 | [], b => ⟨b, rfl, by simp, by simp [lx_irr]⟩
 | m :: ls, b => by
  rw [map_cons, minP, lt_L]
  cases h : lx m b with
  | true =>
   obtain ⟨r, e, hm, ha⟩ := minP_L ls m
   refine ⟨r, e, by simp at hm ⊢; rcases hm with z | z <;> simp [z], fun k hk => ?_⟩
   rcases List.mem_cons.mp hk with rfl | hk
   ·cases z : lx k r with
    | false => rfl
    | true => rw [<- ha m (by simp), N8 h z]
   ·exact ha k hk
  | false =>
   obtain ⟨r, e, hm, ha⟩ := minP_L ls b
   refine ⟨r, e, by simp at hm ⊢; rcases hm with z | z <;> simp [z], fun k hk => ?_⟩
   rcases List.mem_cons.mp hk with rfl | hk
   ·exact ha k (by simp)
   ·rcases List.mem_cons.mp hk with rfl | hk
    ·cases z : lx k r with
     | false => rfl
     | true =>
      have hb := ha b (by simp)
      rcases lx_tri b k with e | e | e
      ·rw [<- e, hb] at z; cases z
      ·rw [<- hb, N8 e z]
      ·rw [h] at e; cases e
    ·exact ha k (by simp [hk])
theorem min_best {P : List Nat -> Prop} {l : List Nat} (hB : Best P l) {ls : List (List Nat)} (hl : l ∈ ls) (hP : ∀ m ∈ ls, P m /\ m.length = l.length) {m : ML} {ρ : Ro} (h : m ρ = some (ls.map L)) : mminP m ρ = some (L l) := by
 cases ls with
 | nil => cases hl
 | cons b ls =>
  rw [mminP_ev h]
  obtain ⟨r, e, hm, ha⟩ := minP_L ls b
  rw [e]
  have h1 := ha l hl
  obtain ⟨p1, p2⟩ := hP r hm
  have h2 := hB.2 r p1
  have h3 : lx r l = false := by
   cases z : lx r l with
   | false => rfl
   | true => rw [<- h2, (j0 r l).mpr (.inr ⟨p2, z⟩)]
  rcases lx_tri r l with e | e | e
  ·rw [e]
  ·rw [h3] at e; cases e
  ·rw [h1] at e; cases e
theorem maxI_mem : ∀ (x : Int) (r : List Int), maxI (x :: r) ∈ x :: r /\ ∀ y ∈ x :: r, y <= maxI (x :: r) := fun x r => A1 r x
abbrev RW (row : List Int) : D := .lst (row.map .int)
theorem L_len (K : List Nat) : mlen (bvar 0) [some (.sh (L K))] = some (.int (K.length : Int)) := by
 rw [d5 (show bvar 0 [some (.sh (L K))] = some (K.map dN) from rfl), length_map]
theorem KF_up (n : Nat) (f : Nat -> Bool) : (KF n f).Pairwise (· < ·) /\ ∀ y ∈ KF n f, y < n := ⟨List.Pairwise.filter _ pairwise_lt_range, fun y hy => (KF_mem y).mp hy |>.1⟩
theorem up_bits {n : Nat} {l : List Nat} (h1 : l.Pairwise (· < ·)) (h2 : ∀ y ∈ l, y < n) : ∃ j, j < 2 ^ n /\ KF n (bitF j) = l := by
 obtain ⟨j, hj, hb⟩ := bits_of (fun p => decide (p ∈ l)) n
 refine ⟨j, hj, ?_⟩
 rw [KF_congr hb]
 refine up_ext (List.Pairwise.filter _ pairwise_lt_range) h1 fun y => ?_
 rw [KF_mem, decide_eq_true_eq]
 exact ⟨fun z => z.2, fun z => ⟨h2 y z, z⟩⟩
theorem KF_inj {n i j : Nat} (hi : i < 2 ^ n) (hj : j < 2 ^ n) (h : KF n (bitF i) = KF n (bitF j)) : i = j := by
 apply Nat.eq_of_testBit_eq
 intro p
 rcases Nat.lt_or_ge p n with z | z
 ·have e : (p ∈ KF n (bitF i)) ↔ (p ∈ KF n (bitF j)) := by rw [h]
  rw [KF_mem, KF_mem] at e
  show bitF i p = bitF j p
  rw [Bool.eq_iff_iff]
  exact ⟨fun w => (e.mp ⟨z, w⟩).2, fun w => (e.mpr ⟨z, w⟩).2⟩
 ·have hp : 2 ^ n <= 2 ^ p := Nat.pow_le_pow_right (by decide) z
  rw [Nat.testBit_lt_two_pow (Nat.lt_of_lt_of_le hi hp), Nat.testBit_lt_two_pow (Nat.lt_of_lt_of_le hj hp)]
theorem all_nodup (n : Nat) : ((List.range (2 ^ n)).map fun j => KF n (bitF j)).Nodup := by
 unfold List.Nodup
 rw [pairwise_map]
 refine List.nodup_range.imp_of_mem fun {a b} ha hb hab e => ?_
 exact hab (KF_inj (List.mem_range.mp ha) (List.mem_range.mp hb) e)
theorem rg_up {row : List Int} {s : Int} {l : List Nat} (h : l = [] \/ Rg row s l) : l.Pairwise (· < ·) /\ ∀ y ∈ l, y < row.length := by
 rcases h with rfl | ⟨d, f, hf, w, ⟨m, rfl⟩, _⟩
 ·exact ⟨List.Pairwise.nil, fun y hy => by cases hy⟩
 ·exact Wd_up w
theorem rg_even {row : List Int} {s : Int} {l : List Nat} (h : l = [] \/ Rg row s l) : l.length % 2 = 0 := by
 rcases h with rfl | ⟨d, f, hf, w, _, h, _⟩
 ·rfl
 ·exact h
def wav (row : List Int) (s : Int) : List (List Nat) := ((List.range (2 ^ row.length)).map fun j => KF row.length (bitF j)).filter (rbL row s)
theorem R8 {row : List Int} {s : Int} (hs : 1 <= s) {l : List Nat} : l ∈ wav row s ↔ l = [] \/ Rg row s l := by
 unfold wav
 rw [mem_filter]
 constructor
 ·rintro ⟨h1, h2⟩
  obtain ⟨j, _, rfl⟩ := List.mem_map.mp h1
  have := KF_up row.length (bitF j)
  exact (rbL_iff hs this.1 this.2).mp h2
 ·intro h
  obtain ⟨a, b⟩ := rg_up h
  obtain ⟨j, hj, e⟩ := up_bits a b
  exact ⟨List.mem_map.mpr ⟨j, List.mem_range.mpr hj, e⟩, (rbL_iff hs a b).mpr h⟩
theorem zz7 (row : List Int) (s : Int) : (wav row s).Nodup := List.Pairwise.filter _ (all_nodup row.length)
theorem M6 {row : List Int} {s : Int} (hs : 1 <= s) (k : Nat) : ((wav row s).filter fun l => decide (l.length = 2 * k)).length = tn row s k := by
 cases k with
 | zero =>
  refine same_len (List.Pairwise.filter _ (zz7 row s)) (B := [[]]) (by simp) fun l => ?_
  rw [mem_filter, R8 hs, decide_eq_true_eq, mem_singleton]
  constructor
  ·rintro ⟨_, h⟩; exact eq_nil_of_length_eq_zero (by omega)
  ·rintro rfl; exact ⟨.inl rfl, rfl⟩
 | succ k =>
  show _ = an row s k
  rw [<- al_len]
  refine same_len (List.Pairwise.filter _ (zz7 row s)) (al_nodup hs k) fun l => ?_
  rw [mem_filter, R8 hs, decide_eq_true_eq, al_mem]
  constructor
  ·rintro ⟨rfl | h, e⟩
   ·simp at e
   ·exact ⟨h, by omega⟩
  ·rintro ⟨h, e⟩; exact ⟨.inr h, by omega⟩
theorem top_eq {row : List Int} {s : Int} (hs : 1 <= s) {l : List Nat} (hB : Best (fun m => m = [] \/ Rg row s m) l) {M : Nat} (h0 : M <= row.length) (h1 : tn row s M ≠ 0) (h2 : ∀ h, M < h -> h <= row.length -> tn row s h = 0) : M = l.length / 2 := by
 have he := rg_even hB.1
 have hl : l.length <= row.length := by
  rcases hB.1 with z | z
  ·rw [z]; simp
  ·exact rg_len z
 rcases Nat.lt_trichotomy M (l.length / 2) with z | z | z
 ·exfalso
  have := h2 (l.length / 2) z (by omega)
  rw [<- M6 hs] at this
  have hm : l ∈ (wav row s).filter fun m => decide (m.length = 2 * (l.length / 2)) := List.mem_filter.mpr ⟨(R8 hs).mpr hB.1, decide_eq_true (by omega)⟩
  have := length_pos_of_mem hm
  omega
 ·exact z
 ·exfalso
  rw [<- M6 hs] at h1
  cases hA : (wav row s).filter fun m => decide (m.length = 2 * M) with
  | nil => rw [hA] at h1; exact h1 rfl
  | cons a A =>
   have hm : a ∈ (wav row s).filter fun m => decide (m.length = 2 * M) := by rw [hA]; simp
   obtain ⟨a1, a2⟩ := List.mem_filter.mp hm
   have := hB.len a ((R8 hs).mp a1)
   have := of_decide_eq_true a2
   omega
end
section
open PySem L2
def eL (scr : D) (c : Int) (row : List Int) (st : D) (o4 : Option S) (s : Int) (o6 o7 o8 o9 o10 o11 o12 o13 o14 : Option S) : Ro := [some (.sh scr), some (.sh (.int c)), some (.sh (RW row)), some (.sh st), o4, some (.sh (.int s)), o6, o7, o8, o9, o10, o11, o12, o13, o14]
theorem zw2 {f : MF} {m : ML} {ρ : Ro} {ds es : List D} (h : m ρ = some ds) (h2 : f ds = some (.fr es)) : K2 f m ρ = some es := by
 unfold K2; rw [h, Option.bind_some, h2]
theorem mcomp_ev {src : List (Option Nat)} {mi : ML} {g : Tg} {c : MB} {elt : ME} {ρ : Ro} {its : List D} (h : mi ρ = some its) : u9 src mi g c elt ρ = g7 g c elt its (A5 src ρ) [] := by
 unfold u9; rw [h]; rfl
theorem told_one (row : List Int) (s : Int) (hs : 1 <= s) (hr : row.length <= 300) : ∃ l, Best (fun m => m = [] \/ Rg row s m) l /\ d6 [RW row, .int s] = some (.fr ((NI l).map .int)) /\ a9 [RW row, .int s] = some (.fr ((NI ((List.range (l.length / 2 + 1)).map (tn row s))).map .int)) := by
 obtain ⟨l, el, hB⟩ := X1 0 row s hs hr
 have conv : ∀ k : List Nat, L k = .lst ((NI k).map .int) := fun k => (L_NI k).symm
 have conv2 : ∀ k : List Nat, k.map dN = (NI k).map .int := fun k => by unfold NI; rw [map_map]; rfl
 refine ⟨l, hB, ?_, ?_⟩
 ·refine lsn8_eq ⟨⟨row, rfl⟩, fun q => .inl ?_⟩
  obtain ⟨l', el', hB'⟩ := X1 q row s hs hr
  rw [el', hB'.unique hB, conv]
 ·refine lsn8_eq ⟨⟨row, rfl⟩, fun q => .inr ?_⟩
  obtain ⟨M, h0, h1, h2, e⟩ := J0 q row s hs hr
  rw [e, top_eq hs hB h0 h1 h2, conv2]
theorem step_ok (scr : D) (c : Int) (row : List Int) (st : D) (o4 : Option S) (s : Int) (hs : 1 <= s) (hr : row.length <= 9) (o6 o7 o8 o9 o10 o11 o12 o13 o14 : Option S) : ∃ p6 p7 p8 p9 p10 p11 p12 p13 p14, M0 (eL scr c row st o4 s o6 o7 o8 o9 o10 o11 o12 o13 o14) = some (.nx (eL scr c row st o4 s p6 p7 p8 p9 p10 p11 p12 p13 p14)) := by
 have big := t4
 obtain ⟨l, hB, elr, ecr⟩ := told_one row s hs (by omega)
 have hp : 2 ^ row.length <= 512 := by
  have : 2 ^ row.length <= 2 ^ 9 := Nat.pow_le_pow_right (by decide) hr
  exact this
 have eall := all_eq row.length hr
 have hlW : l ∈ wav row s := (R8 hs).mpr hB.1
 have hWm : ∀ K ∈ wav row s, K = [] \/ Rg row s K := fun K h => (R8 hs).mp h
 have hcnt := fun k => M6 (row := row) hs k
 have hWl : (wav row s).length <= 512 := by
  unfold wav
  refine Nat.le_trans (length_filter_le _ _) ?_
  rw [length_map, length_range]; exact hp
 have hl9 : l.length <= 9 := by
  rcases hB.1 with z | z
  ·rw [z]; simp
  ·have := rg_len z; omega
 have hev := rg_even hB.1
 have e6 : u9 [none, some 2, some 5] (k0 (t8 m_Z16 (z5 (mlen (bvar 2)) anil))) (.nm 0) (mtru (t8 m_Z11 (z5 (mvar 1) (z5 (mvar 2) (z5 (mvar 0) anil))))) (mvar 0) (eL scr c row st o4 s o6 o7 o8 o9 o10 o11 o12 o13 o14) = some ((wav row s).map L) := by
  unfold u9
  rw [c9 (ds := ((List.range (2 ^ row.length)).map fun j => KF row.length (bitF j)).map L) (V3 (z7 (d := .int (row.length : Int)) (by rw [d5 (show bvar 2 (eL scr c row st o4 s o6 o7 o8 o9 o10 o11 o12 o13 o14) = some (row.map .int) from rfl), length_map]) y6) eall), Option.bind_some]
  refine (o0 (f := L) (p := rbL row s) (G := L) (fun is ρ => (∀ K ∈ is, K.length <= 300 /\ K.Pairwise (· < ·) /\ ∀ y ∈ K, y < row.length) /\ ∃ x, ρ = [x, some (.sh (RW row)), some (.sh (.int s))]) (by
   rintro K is ρ ⟨hi, x, rfl⟩
   have hk := hi K (by simp)
   refine ⟨[some (.sh (L K)), some (.sh (RW row)), some (.sh (.int s))], rfl, mtru_bl ?_, fun _ => rfl, fun j hj => hi j (by simp [hj]), _, rfl⟩
   exact j5 (z7 (d := RW row) rfl (z7 (d := .int s) rfl (z7 (d := L K) rfl y6))) (zw5 row s K hs hk.1 hk.2.1 hk.2.2)) _ _ [] ⟨fun K hK => by
    obtain ⟨j, _, rfl⟩ := List.mem_map.mp hK
    have := KF_up row.length (bitF j)
    refine ⟨?_, this.1, this.2⟩
    have := length_filter_le (bitF j) (List.range row.length)
    rw [length_range] at this
    unfold KF
    omega, none, rfl⟩ (by simp; omega)).trans ?_
  rfl
 have esz : ∀ ρ : Ro, k0 (mvar 6) ρ = some ((wav row s).map L) -> u9 [none] (k0 (mvar 6)) (.nm 0) cyes (mlen (bvar 0)) ρ = some (((wav row s).map fun K => (K.length : Int)).map .int) := fun ρ h => by
  unfold u9
  rw [h, Option.bind_some]
  refine (k9 (f := L) (G := fun K => D.int (K.length : Int)) (fun _ ρ => ∃ x, ρ = [x]) (by
   rintro K is ρ ⟨x, rfl⟩
   exact ⟨[some (.sh (L K))], rfl, rfl, L_len K, _, rfl⟩) (wav row s) _ [] ⟨none, rfl⟩ (by simp; omega)).trans ?_
  rw [map_map]
  rfl
 generalize hwv : wav row s = wavy at *
 unfold M0
 refine Exists.intro (some (.sh (.lst (wavy.map L)))) (Exists.intro (some (.sh (.int (l.length : Int)))) (Exists.intro (some (.sh (L l))) (Exists.intro (some (.sh (RW (wavy.map fun K => (K.length : Int))))) (Exists.intro (some (.sh (RW (NI ((List.range (l.length / 2 + 1)).map (tn row s)))))) (Exists.intro (some (.sh (RW row))) ?_)))))
 suffices hfor : ∃ p12 p13 p14, mfor (v5 rng1 (z5 (mc (.int 2)) anil)) (.nm 12) M1 (eL scr c row st o4 s (some (.sh (.lst (wavy.map L)))) (some (.sh (.int (l.length : Int)))) (some (.sh (L l))) (some (.sh (RW (wavy.map fun K => (K.length : Int))))) (some (.sh (RW (NI ((List.range (l.length / 2 + 1)).map (tn row s)))))) (some (.sh (RW row))) o12 o13 o14) = some (.nx (eL scr c row st o4 s (some (.sh (.lst (wavy.map L)))) (some (.sh (.int (l.length : Int)))) (some (.sh (L l))) (some (.sh (RW (wavy.map fun K => (K.length : Int))))) (some (.sh (RW (NI ((List.range (l.length / 2 + 1)).map (tn row s)))))) (some (.sh (RW row))) p12 p13 p14)) by
  obtain ⟨p12, p13, p14, hfor⟩ := hfor
  refine ⟨p12, p13, p14, ?_⟩
  refine seqI (ρ' := eL scr c row st o4 s (some (.sh (.lst (wavy.map L)))) o7 o8 o9 o10 o11 o12 o13 o14) ((m6 (n6 e6)).trans rfl) ?_
  refine seqI (ρ' := eL scr c row st o4 s (some (.sh (.lst (wavy.map L)))) (some (.sh (.int (l.length : Int)))) o8 o9 o10 o11 o12 o13 o14) ((m6 ?_).trans rfl) ?_
  ·have ec := esz (eL scr c row st o4 s (some (.sh (.lst (wavy.map L)))) o7 o8 o9 o10 o11 o12 o13 o14) rfl
   cases hw : wavy with
   | nil => rw [hw] at hlW; cases hlW
   | cons b r =>
    rw [hw] at ec hlW hWm
    rw [mmaxL_ev (x := (b.length : Int)) (r := r.map fun K => (K.length : Int)) ec]
    have hmx := maxI_mem (b.length : Int) (r.map fun K => (K.length : Int))
    obtain ⟨K, hK, e⟩ := List.mem_map.mp (show maxI ((b.length : Int) :: r.map fun K => (K.length : Int)) ∈ (b :: r).map fun K => (K.length : Int) from hmx.1)
    have h1 := hmx.2 (l.length : Int) (show (l.length : Int) ∈ (b :: r).map fun K => (K.length : Int) from List.mem_map.mpr ⟨l, hlW, rfl⟩)
    have h2 := hB.len K (hWm K hK)
    have e : (K.length : Int) = maxI ((b.length : Int) :: r.map fun K => (K.length : Int)) := e
    rw [show maxI ((b.length : Int) :: r.map fun K => (K.length : Int)) = (l.length : Int) by omega]
  refine seqI (ρ' := eL scr c row st o4 s (some (.sh (.lst (wavy.map L)))) (some (.sh (.int (l.length : Int)))) (some (.sh (L l))) o9 o10 o11 o12 o13 o14) ((m6 ?_).trans rfl) ?_
  ·refine min_best hB (ls := wavy.filter fun K => ((K.length : Int) == (l.length : Int))) (List.mem_filter.mpr ⟨hlW, by simp⟩) (fun m hm => ?_) ?_
   ·obtain ⟨h1, h2⟩ := List.mem_filter.mp hm
    have := beq_iff_eq.mp h2
    exact ⟨hWm m h1, by omega⟩
   ·unfold u9
    rw [c9 (ds := wavy.map L) rfl, Option.bind_some]
    exact (o0 (f := L) (p := fun K => ((K.length : Int) == (l.length : Int))) (G := L) (fun _ ρ => ∃ x, ρ = [x, some (.sh (.int (l.length : Int)))]) (by
     rintro K is ρ ⟨x, rfl⟩
     refine ⟨[some (.sh (L K)), some (.sh (.int (l.length : Int)))], rfl, B4 ?_, fun _ => rfl, _, rfl⟩
     rw [Q8 (d5 (show bvar 0 [some (.sh (L K)), some (.sh (.int (l.length : Int)))] = some (K.map dN) from rfl)) (b := .int (l.length : Int)) rfl, length_map]
     rfl) wavy _ [] ⟨none, rfl⟩ (by simp; omega)).trans rfl
  refine seqI (ρ' := eL scr c row st o4 s (some (.sh (.lst (wavy.map L)))) (some (.sh (.int (l.length : Int)))) (some (.sh (L l))) (some (.sh (RW (wavy.map fun K => (K.length : Int))))) o10 o11 o12 o13 o14) ((m6 (n6 (esz _ rfl))).trans rfl) ?_
  refine seqI (ρ' := eL scr c row st o4 s (some (.sh (.lst (wavy.map L)))) (some (.sh (.int (l.length : Int)))) (some (.sh (L l))) (some (.sh (RW (wavy.map fun K => (K.length : Int))))) (some (.sh (RW (NI ((List.range (l.length / 2 + 1)).map (tn row s)))))) o11 o12 o13 o14) ((m6 (n6 ?_)).trans rfl) ?_
  ·have ei : v5 rng1 (z5 (m2 addD (m2 S9 (mvar 7) (mc (.int 2))) (mc (.int 1))) anil) (eL scr c row st o4 s (some (.sh (.lst (wavy.map L)))) (some (.sh (.int (l.length : Int)))) (some (.sh (L l))) (some (.sh (RW (wavy.map fun K => (K.length : Int))))) o10 o11 o12 o13 o14) = some ((List.range (l.length / 2 + 1)).map dN) := by
    have e1 : m2 S9 (mvar 7) (mc (.int 2)) (eL scr c row st o4 s (some (.sh (.lst (wavy.map L)))) (some (.sh (.int (l.length : Int)))) (some (.sh (L l))) (some (.sh (RW (wavy.map fun K => (K.length : Int))))) o10 o11 o12 o13 o14) = some (.int ((l.length / 2 : Nat) : Int)) := by
     rw [Q8 (a := .int (l.length : Int)) (b := .int 2) rfl rfl]
     show (if O2 (l.length : Int) 2 = true then some (D.int ((l.length : Int) / 2)) else none) = _
     rw [if_pos (K9 _ _ (by decide) (by decide))]
     congr 2
    have e2 : m2 addD (m2 S9 (mvar 7) (mc (.int 2))) (mc (.int 1)) (eL scr c row st o4 s (some (.sh (.lst (wavy.map L)))) (some (.sh (.int (l.length : Int)))) (some (.sh (L l))) (some (.sh (RW (wavy.map fun K => (K.length : Int))))) o10 o11 o12 o13 o14) = some (.int ((l.length / 2 + 1 : Nat) : Int)) := (Q8 (f := addD) e1 (b := .int 1) rfl).trans rfl
    unfold v5
    rw [z7 e2 y6, Option.bind_some, X7 (Y9 (by omega) (by omega)), Int.toNat_natCast, f6, map_map]
    rfl
   rw [mcomp_ev ei]
   refine (k9 (f := dN) (G := fun k => D.int ((tn row s k : Nat) : Int)) (fun ks ρ => (∀ k ∈ ks, k <= 10) /\ ∃ x, ρ = [x, some (.sh (RW (wavy.map fun K => (K.length : Int))))]) (by
    rintro k ks ρ ⟨hk, x, rfl⟩
    have hk0 := hk k (by simp)
    refine ⟨[some (.sh (dN k)), some (.sh (RW (wavy.map fun K => (K.length : Int))))], rfl, rfl, ?_, fun j hj => hk j (by simp [hj]), _, rfl⟩
    have ec : u9 [none, some 0] (k0 (mvar 1)) (.nm 0) (u6 (m2 eqSD (mvar 0) (m2 mulD (mc (.int 2)) (mvar 1)))) (mc (.int 1)) [some (.sh (dN k)), some (.sh (RW (wavy.map fun K => (K.length : Int))))] = some ((wavy.filter fun K => decide (K.length = 2 * k)).map fun _ => D.int 1) := by
     rw [mcomp_ev (c9 (ds := wavy.map fun K => D.int (K.length : Int)) (by show some (D.lst ((wavy.map fun K => (K.length : Int)).map .int)) = _; rw [map_map]; rfl))]
     exact (o0 (g := .nm 0) (c := u6 (m2 eqSD (mvar 0) (m2 mulD (mc (.int 2)) (mvar 1)))) (elt := mc (.int 1)) (f := fun K => D.int (K.length : Int)) (p := fun K => decide (K.length = 2 * k)) (G := fun _ => D.int 1) (fun _ ρ => ∃ x, ρ = [x, some (.sh (dN k))]) (by
      rintro K is ρ ⟨x, rfl⟩
      refine ⟨[some (.sh (.int (K.length : Int))), some (.sh (dN k))], rfl, B4 ?_, fun _ => rfl, _, rfl⟩
      have em : m2 mulD (mc (.int 2)) (mvar 1) [some (.sh (.int (K.length : Int))), some (.sh (dN k))] = some (.int ((2 * k : Nat) : Int)) := by
       rw [Q8 (a := .int 2) (b := .int (k : Int)) rfl rfl]
       show (if S3 2 (k : Int) = true then some (D.int (2 * (k : Int))) else none) = _
       rw [if_pos (Q4 _ _ (by decide) (by decide))]
       congr 2
      rw [Q8 (a := .int (K.length : Int)) rfl em]
      show some (D.bl ((K.length : Int) == ((2 * k : Nat) : Int))) = _
      congr 2
      rw [Bool.eq_iff_iff, beq_iff_eq, decide_eq_true_eq]
      omega) wavy _ [] ⟨none, rfl⟩ (by simp; omega)).trans rfl
    rw [d5 ec, length_map, hcnt k]) (List.range (l.length / 2 + 1)) _ [] ⟨fun k hk => by have := List.mem_range.mp hk; omega, none, rfl⟩ (by simp; omega)).trans ?_
   unfold NI
   rw [nil_append, map_map, map_map]
   rfl
  refine seqI (ρ' := eL scr c row st o4 s (some (.sh (.lst (wavy.map L)))) (some (.sh (.int (l.length : Int)))) (some (.sh (L l))) (some (.sh (RW (wavy.map fun K => (K.length : Int))))) (some (.sh (RW (NI ((List.range (l.length / 2 + 1)).map (tn row s)))))) (some (.sh (RW row))) o12 o13 o14) ((m6 (n6 (ds := row.map .int) rfl)).trans rfl) ?_
  exact hfor
 have hsame : m_Z10 [.lst ((NI l).map .int), L l] = some (.sh (.bl true)) := by
  rw [<- L_NI]
  exact zy2 (NI l) (by unfold NI; rw [length_map]; omega)
 have hsame2 : m_Z10 [.lst ((NI ((List.range (l.length / 2 + 1)).map (tn row s))).map .int), RW (NI ((List.range (l.length / 2 + 1)).map (tn row s)))] = some (.sh (.bl true)) := zy2 _ (by unfold NI; rw [length_map, length_map, length_range]; omega)
 have hbl : (NI ((List.range (l.length / 2 + 1)).map (tn row s))).length <= 10 := by unfold NI; rw [length_map, length_map, length_range]; omega
 have hll : (NI l).length <= 10 := by unfold NI; rw [length_map]; omega
 generalize NI ((List.range (l.length / 2 + 1)).map (tn row s)) = by_size at *
 generalize NI l = lI at *
 generalize hX : (some (S.sh (.lst (wavy.map L)))) = X6 at *
 generalize hX9 : (some (S.sh (RW (wavy.map fun K => (K.length : Int))))) = X9 at *
 have body : ∀ o12 o13 o14, ∃ p13 p14, M1 (eL scr c row st o4 s X6 (some (.sh (.int (l.length : Int)))) (some (.sh (L l))) X9 (some (.sh (RW by_size))) (some (.sh (RW row))) o12 o13 o14) = some (.nx (eL scr c row st o4 s X6 (some (.sh (.int (l.length : Int)))) (some (.sh (L l))) X9 (some (.sh (RW by_size))) (some (.sh (RW row))) o12 p13 p14)) := fun o12 o13 o14 => by
  refine ⟨some (.own (lI.map .int ++ [.int 0])), some (.own (by_size.map .int ++ [.int 0])), ?_⟩
  unfold M1
  refine seqI (ρ' := eL scr c row st o4 s X6 (some (.sh (.int (l.length : Int)))) (some (.sh (L l))) X9 (some (.sh (RW by_size))) (some (.sh (RW row))) o12 (some (.own (lI.map .int))) o14) ((W3 (zw2 (z7 (d := RW row) rfl (z7 (d := .int s) rfl y6)) elr)).trans rfl) ?_
  refine seqI (ρ' := eL scr c row st o4 s X6 (some (.sh (.int (l.length : Int)))) (some (.sh (L l))) X9 (some (.sh (RW by_size))) (some (.sh (RW row))) o12 (some (.own (lI.map .int))) (some (.own (by_size.map .int)))) ((W3 (zw2 (z7 (d := RW row) rfl (z7 (d := .int s) rfl y6)) ecr)).trans rfl) ?_
  refine seqI (ρ' := eL scr c row st o4 s X6 (some (.sh (.int (l.length : Int)))) (some (.sh (L l))) X9 (some (.sh (RW by_size))) (some (.sh (RW row))) o12 (some (.own (lI.map .int))) (some (.own (by_size.map .int)))) (mif_false ((cor_ev (a := false) (b := false) ?_ ((cor_ev (a := false) (b := false) ?_ ?_).trans rfl)).trans rfl)) ?_
  ·refine (cnot_ev (b := true) (mtru_bl (mborT_ev (ds := lI.map .int) rfl ?_ rfl))).trans rfl
   exact j5 (z7 (d := .lst (lI.map .int)) rfl (z7 (d := L l) rfl y6)) hsame
  ·refine (cnot_ev (b := true) (mtru_bl (mborT_ev (ds := by_size.map .int) rfl ?_ rfl))).trans rfl
   exact j5 (z7 (d := .lst (by_size.map .int)) rfl (z7 (d := RW by_size) rfl y6)) hsame2
  ·unfold u6 meqB
   rw [show bvar 11 (eL scr c row st o4 s X6 (some (.sh (.int (l.length : Int)))) (some (.sh (L l))) X9 (some (.sh (RW by_size))) (some (.sh (RW row))) o12 (some (.own (lI.map .int))) (some (.own (by_size.map .int)))) = some (row.map .int) from rfl, show bvar 2 (eL scr c row st o4 s X6 (some (.sh (.int (l.length : Int)))) (some (.sh (L l))) X9 (some (.sh (RW by_size))) (some (.sh (RW row))) o12 (some (.own (lI.map .int))) (some (.own (by_size.map .int)))) = some (row.map .int) from rfl]
   simp only [Option.bind_some, eq_lst]
  have app : ∀ (ρ : Ro) (i : Nat) (ds : List D), ρ[i]? = some (some (.own ds)) -> ds.length <= 1000 -> mapp i (mc (.int 0)) ρ = some (.nx (ρ.set i (some (.own (ds ++ [.int 0]))))) := fun ρ i ds h1 h2 => by
   unfold mapp
   rw [h1]
   show (some (D.int 0)).bind (fun d => if ds.length < sizeLine then some (Out.nx (ρ.set i (some (.own (ds ++ [d]))))) else none) = _
   rw [Option.bind_some, if_pos (by omega)]
  refine seqI (app _ 13 (lI.map .int) rfl (by rw [length_map]; omega)) ?_
  exact (app _ 14 (by_size.map .int) rfl (by rw [length_map]; omega)).trans rfl
 obtain ⟨a13, a14, ea⟩ := body (some (.sh (.int 0))) o13 o14
 obtain ⟨b13, b14, eb⟩ := body (some (.sh (.int 1))) a13 a14
 refine ⟨some (.sh (.int 1)), b13, b14, ?_⟩
 unfold mfor
 have ei : v5 rng1 (z5 (mc (.int 2)) anil) (eL scr c row st o4 s X6 (some (.sh (.int (l.length : Int)))) (some (.sh (L l))) X9 (some (.sh (RW by_size))) (some (.sh (RW row))) o12 o13 o14) = some [.int 0, .int 1] := by
  unfold v5
  rw [z7 (d := .int 2) rfl y6, Option.bind_some, X7 (Y9 (by decide) (by decide))]
  rfl
 rw [ei, Option.bind_some]
 exact forD_two (g := .nm 12) rfl ea rfl eb
end
section
open PySem L2
theorem cutI_le {α : Type} (xs : List α) (lo hi : Option Int) : (cutI xs lo hi).length <= xs.length := by
 unfold cutI
 rw [length_take, length_drop]
 omega
def eM (scr : D) (c : Int) (row ss : List Int) (o4 o5 o6 o7 o8 o9 o10 o11 o12 o13 o14 : Option S) : Ro := [some (.sh scr), some (.sh (.int c)), some (.sh (RW row)), some (.sh (RW ss)), o4, o5, o6, o7, o8, o9, o10, o11, o12, o13, o14]
theorem more_steps (scr : D) (c : Int) (row ss : List Int) (one : Int) (o5 o6 o7 o8 o9 o10 o11 o12 o13 o14 : Option S) (hr : row.length <= 9) (hs : ss.length <= 40) : ∃ ts : List Int, ts.length <= 9 /\ (∀ t ∈ ts, 1 <= t) /\ R6 (eM scr c row ss (some (.sh (.int one))) o5 o6 o7 o8 o9 o10 o11 o12 o13 o14) = some (.nx (eM scr c row (ss ++ ts) (some (.sh (.int one))) o5 o6 o7 o8 o9 o10 o11 o12 o13 o14)) := by
 have big := t4
 have hcl := cutI_le row (some (-3)) none
 generalize hcu : cutI row (some (-3)) none = cu at hcl
 refine ⟨cu.map fun x => (if (if one - x < 0 then -(one - x) else one - x) > 1 then (if one - x < 0 then -(one - x) else one - x) else 1), by rw [length_map]; omega, fun t ht => ?_, ?_⟩
 ·obtain ⟨x, _, rfl⟩ := List.mem_map.mp ht
  split <;> omega
 ·unfold R6
  have e1 : mcut (bvar 2) (e9 (m1 negD (mc (.int 3)))) c0 (eM scr c row ss (some (.sh (.int one))) o5 o6 o7 o8 o9 o10 o11 o12 o13 o14) = some (cu.map .int) := by
   unfold eM RW
   simp_arith [c7]
   rw [hcu]
  have ec : u9 [none, some 4] (k0 (mlst (mcut (bvar 2) (e9 (m1 negD (mc (.int 3)))) c0))) (.nm 0) cyes (d9 max2F (z5 (mc (.int 1)) (z5 (d9 absF (z5 (m2 subD (mvar 1) (mvar 0)) anil)) anil))) (eM scr c row ss (some (.sh (.int one))) o5 o6 o7 o8 o9 o10 o11 o12 o13 o14) = some ((cu.map fun x => (if (if one - x < 0 then -(one - x) else one - x) > 1 then (if one - x < 0 then -(one - x) else one - x) else 1)).map .int) := by
   unfold u9
   rw [c9 (n6 e1), Option.bind_some]
   refine (k9 (f := D.int) (G := fun x => D.int (if (if one - x < 0 then -(one - x) else one - x) > 1 then (if one - x < 0 then -(one - x) else one - x) else 1)) (fun _ ρ => ∃ x, ρ = [x, some (.sh (.int one))]) (by
    rintro x is ρ ⟨y, rfl⟩
    refine ⟨[some (.sh (.int x)), some (.sh (.int one))], rfl, rfl, ?_, _, rfl⟩
    rw [call1_ev (z7 (d := .int 1) rfl (z7 (d := .int (if one - x < 0 then -(one - x) else one - x)) ((call1_ev (z7 (d := .int (one - x)) ((Q8 (a := .int one) (b := .int x) rfl rfl).trans rfl) y6)).trans rfl) y6))]
    rfl) cu _ [] ⟨none, rfl⟩ (w5 (by simp; omega))).trans ?_
   rw [map_map]
   rfl
  have em := K0 (show bvar 3 (eM scr c row ss (some (.sh (.int one))) o5 o6 o7 o8 o9 o10 o11 o12 o13 o14) = some (ss.map .int) from rfl) ec (by rw [length_map, length_map, length_map]; omega)
  rw [<- map_append] at em
  exact (m6 (n6 em)).trans rfl
theorem cell_ok (scr : D) (c : Int) (o2 o3 o4 o5 o6 o7 o8 o9 o10 o11 o12 o13 o14 : Option S) : ∃ p2 p3 p4 p5 p6 p7 p8 p9 p10 p11 p12 p13 p14, zz2 [some (.sh scr), some (.sh (.int c)), o2, o3, o4, o5, o6, o7, o8, o9, o10, o11, o12, o13, o14] = some (.nx [some (.sh scr), some (.sh (.int c)), p2, p3, p4, p5, p6, p7, p8, p9, p10, p11, p12, p13, p14]) := by
 have big := t4
 have i1 : 0 + 1 <= sizeLine := w5 (by decide)
 have i2 : 0 + 1 + 1 <= sizeLine := w5 (by decide)
 obtain ⟨row, hr, er⟩ := row_eq c 9 (by decide)
 have q1000 : J9 (stir c 320) 1000 = true := n5 _ _ (by decide)
 have hss : ∃ ss : List Int, ∃ p4, ss ≠ [] /\ ss.length <= 29 /\ (∀ t ∈ ss, 1 <= t) /\ mfor (k0 (mlst (mcut (bvar 2) c0 (e9 (mc (.int 3)))))) (.nm 4) R6 (eM scr c row [1, 2 + stir c 320 % 1000] o4 o5 o6 o7 o8 o9 o10 o11 o12 o13 o14) = some (.nx (eM scr c row ss p4 o5 o6 o7 o8 o9 o10 o11 o12 o13 o14)) := by
  have h1000 : 0 <= stir c 320 % 1000 := Int.emod_nonneg _ (by decide)
  have ht : (row.take 3).length <= 3 := by rw [length_take]; omega
  obtain ⟨o, e, ss, p4, rfl, h1, h2, h3⟩ := Z8 (g := .nm 4) (body := R6) (f := D.int) (fun ds ρ => ∃ ss p4, ρ = eM scr c row ss p4 o5 o6 o7 o8 o9 o10 o11 o12 o13 o14 /\ ss ≠ [] /\ ss.length + 9 * ds.length <= 29 /\ ∀ t ∈ ss, 1 <= t) (fun o => ∃ ss p4, o = .nx (eM scr c row ss p4 o5 o6 o7 o8 o9 o10 o11 o12 o13 o14) /\ ss ≠ [] /\ ss.length <= 29 /\ ∀ t ∈ ss, 1 <= t)
   (by
    rintro d ds ρ ⟨ss, p4, rfl, h1, h2, h3⟩
    simp only [length_cons] at h2
    obtain ⟨ts, t1, t2, e⟩ := more_steps scr c row ss d o5 o6 o7 o8 o9 o10 o11 o12 o13 o14 hr (by omega)
    refine ⟨eM scr c row ss (some (.sh (.int d))) o5 o6 o7 o8 o9 o10 o11 o12 o13 o14, _, rfl, e, ss ++ ts, _, rfl, by simp [h1], by rw [length_append]; omega, fun t ht => ?_⟩
    rcases List.mem_append.mp ht with ht | ht
    ·exact h3 t ht
    ·exact t2 t ht)
   (by rintro ρ ⟨ss, p4, rfl, h1, h2, h3⟩; exact ⟨ss, p4, rfl, h1, by simpa using h2, h3⟩) (row.take 3) (eM scr c row [1, 2 + stir c 320 % 1000] o4 o5 o6 o7 o8 o9 o10 o11 o12 o13 o14)
   ⟨_, _, rfl, by simp, by simp only [length_cons, length_nil]; omega, fun t ht => by
    simp only [mem_cons, not_mem_nil, or_false] at ht
    rcases ht with rfl | rfl <;> omega⟩
  refine ⟨ss, p4, h1, h2, h3, ?_⟩
  have e1 : mcut (bvar 2) c0 (e9 (mc (.int 3))) (eM scr c row [1, 2 + stir c 320 % 1000] o4 o5 o6 o7 o8 o9 o10 o11 o12 o13 o14) = some ((row.take 3).map .int) := by
   have : cutL (row.map D.int) none (some ((3 : Nat) : Int)) = (row.take 3).map .int := by rw [c7, A3]
   unfold mcut
   exact congrArg some this
  unfold mfor
  rw [c9 (n6 e1), Option.bind_some]
  exact e
 obtain ⟨ss, p4, h1, h2, h3, es⟩ := hss
 obtain ⟨x, r, rfl⟩ : ∃ x r, ss = x :: r := by
  cases ss with
  | nil => exact absurd rfl h1
  | cons x r => exact ⟨x, r, rfl⟩
 have hmx := maxI_mem x r
 have hmx1 := h3 _ hmx.1
 generalize hq : (N4 (ddI (x :: r))).take 4 = qs
 have hqs : ∀ t ∈ qs, 1 <= t := fun t ht => by
  rw [<- hq] at ht
  have h4 := (V6 _).mem_iff.mp (mem_of_mem_take ht)
  have h5 := PyProof.Rows.firstMet_any (fun i => (x :: r).getD i 0) (x :: r).length t
  have h6 : (PyProof.Rows.firstMet (fun i => (x :: r).getD i 0) (x :: r).length).any (· == t) = true := List.any_eq_true.mpr ⟨t, h4, by simp⟩
  rw [h5] at h6
  obtain ⟨y, hy, e⟩ := List.any_eq_true.mp h6
  rw [beq_iff_eq] at e
  subst e
  obtain ⟨i, hi, rfl⟩ := List.mem_map.mp hy
  have hi := List.mem_range.mp hi
  refine h3 _ ?_
  rw [getD_eq_getElem?_getD, getElem?_eq_getElem hi]
  exact getElem_mem hi
 have hql : qs.length <= 4 := by rw [<- hq, length_take]; omega
 have el : mcat (mcut (Y0 (bvar 3)) c0 (e9 (mc (.int 4)))) (w6 (z5 (m2 addD (mmaxL (bvar 3)) (mc (.int 1))) anil)) (eM scr c row (x :: r) p4 o5 o6 o7 o8 o9 o10 o11 o12 o13 o14) = some ((qs ++ [maxI (x :: r) + 1]).map .int) := by
  have e1 : Y0 (bvar 3) (eM scr c row (x :: r) p4 o5 o6 o7 o8 o9 o10 o11 o12 o13 o14) = some ((N4 (ddI (x :: r))).map .int) := by
   unfold Y0
   rw [show bvar 3 (eM scr c row (x :: r) p4 o5 o6 o7 o8 o9 o10 o11 o12 o13 o14) = some ((x :: r).map .int) from rfl]
   simp only [W6]
   rw [if_pos (by omega)]
  have e2 : mcut (Y0 (bvar 3)) c0 (e9 (mc (.int 4))) (eM scr c row (x :: r) p4 o5 o6 o7 o8 o9 o10 o11 o12 o13 o14) = some (qs.map .int) := by
   have : cutL ((N4 (ddI (x :: r))).map D.int) none (some ((4 : Nat) : Int)) = qs.map .int := by rw [c7, A3, hq]
   unfold mcut
   rw [e1]
   exact congrArg some this
  have e3 := mmaxL_ev (x := x) (r := r) (show bvar 3 (eM scr c row (x :: r) p4 o5 o6 o7 o8 o9 o10 o11 o12 o13 o14) = some ((x :: r).map .int) from rfl)
  have e4 := t3 (z7 (d := .int (maxI (x :: r) + 1)) ((Q8 (f := addD) (y := mc (.int 1)) e3 (b := .int 1) rfl).trans rfl) y6) i1
  have e5 := K0 e2 e4 (by rw [length_map]; simp; omega)
  rw [e5, map_append]
  rfl
 obtain ⟨o, ef, p5, p6, p7, p8, p9, p10, p11, p12, p13, p14, rfl⟩ := Z8 (g := .nm 5) (body := M0) (f := D.int) (fun ds ρ => (∀ t ∈ ds, 1 <= t) /\ ∃ p5 p6 p7 p8 p9 p10 p11 p12 p13 p14, ρ = eM scr c row (x :: r) p4 p5 p6 p7 p8 p9 p10 p11 p12 p13 p14) (fun o => ∃ p5 p6 p7 p8 p9 p10 p11 p12 p13 p14, o = .nx (eM scr c row (x :: r) p4 p5 p6 p7 p8 p9 p10 p11 p12 p13 p14))
  (by
   rintro d ds ρ ⟨hd, p5, p6, p7, p8, p9, p10, p11, p12, p13, p14, rfl⟩
   obtain ⟨q6, q7, q8, q9, q10, q11, q12, q13, q14, e⟩ := step_ok scr c row (RW (x :: r)) p4 d (hd d (by simp)) hr p6 p7 p8 p9 p10 p11 p12 p13 p14
   exact ⟨eL scr c row (RW (x :: r)) p4 d p6 p7 p8 p9 p10 p11 p12 p13 p14, _, rfl, e, fun t ht => hd t (by simp [ht]), _, _, _, _, _, _, _, _, _, _, rfl⟩)
  (by rintro ρ ⟨_, p5, p6, p7, p8, p9, p10, p11, p12, p13, p14, rfl⟩; exact ⟨_, _, _, _, _, _, _, _, _, _, rfl⟩) (qs ++ [maxI (x :: r) + 1]) (eM scr c row (x :: r) p4 o5 o6 o7 o8 o9 o10 o11 o12 o13 o14)
  ⟨fun t ht => by
   rcases List.mem_append.mp ht with ht | ht
   ·exact hqs t ht
   ·rw [List.mem_singleton.mp ht]; omega, _, _, _, _, _, _, _, _, _, _, rfl⟩
 refine ⟨some (.sh (RW row)), some (.sh (RW (x :: r))), p4, p5, p6, p7, p8, p9, p10, p11, p12, p13, p14, ?_⟩
 unfold zz2
 refine seqI (ρ' := [some (.sh scr), some (.sh (.int c)), some (.sh (RW row)), o3, o4, o5, o6, o7, o8, o9, o10, o11, o12, o13, o14]) ((m6 (V3 (z7 (d := .int c) rfl (z7 (d := .int ((9 : Nat) : Int)) rfl y6)) er)).trans rfl) ?_
 refine seqI (ρ' := eM scr c row [1, 2 + stir c 320 % 1000] o4 o5 o6 o7 o8 o9 o10 o11 o12 o13 o14) ((m6 (n6 (t3 (z7 (d := .int 1) rfl (z7 (d := .int (2 + stir c 320 % 1000)) ?_ y6)) i2))).trans rfl) ?_
 ·have e1 : t8 Q7 (z5 (mvar 1) (z5 (mc (.int 320)) anil)) [some (.sh scr), some (.sh (.int c)), some (.sh (RW row)), o3, o4, o5, o6, o7, o8, o9, o10, o11, o12, o13, o14] = some (.int (stir c 320)) := j5 (z7 (d := .int c) rfl (z7 (d := .int 320) rfl y6)) (U6 c 320 (by decide))
  have e2 : m2 modD (t8 Q7 (z5 (mvar 1) (z5 (mc (.int 320)) anil))) (mc (.int 1000)) [some (.sh scr), some (.sh (.int c)), some (.sh (RW row)), o3, o4, o5, o6, o7, o8, o9, o10, o11, o12, o13, o14] = some (.int (stir c 320 % 1000)) := by
   rw [Q8 e1 (b := .int 1000) rfl]
   show (if J9 (stir c 320) 1000 = true then some (D.int (stir c 320 % 1000)) else none) = _
   rw [if_pos q1000]
  exact (Q8 (a := .int 2) rfl e2).trans rfl
 refine seqI es ?_
 unfold mfor
 rw [c9 (n6 el), Option.bind_some]
 exact ef
theorem law_true (ns : List Int) (hn : ns.length <= 63) : m_Z17 [.lst (ns.map .int)] = some (.sh (.bl true)) := by
 obtain ⟨cs, ec⟩ := cells_eq ns 4 hn
 unfold m_Z17 b_Z17
 refine U7 ?_
 refine D7 cs (f := D.int) (c9 (V3 (z7 (d := .lst (ns.map .int)) rfl (z7 (d := .int ((4 : Nat) : Int)) rfl y6)) ec)) (I := fun _ ρ => ∃ p1 p2 p3 p4 p5 p6 p7 p8 p9 p10 p11 p12 p13 p14, ρ = [some (.sh (.lst (ns.map .int))), p1, p2, p3, p4, p5, p6, p7, p8, p9, p10, p11, p12, p13, p14]) (Q := fun o => ∃ p1 p2 p3 p4 p5 p6 p7 p8 p9 p10 p11 p12 p13 p14, o = .nx [some (.sh (.lst (ns.map .int))), p1, p2, p3, p4, p5, p6, p7, p8, p9, p10, p11, p12, p13, p14]) ⟨none, none, none, none, none, none, none, none, none, none, none, none, none, none, rfl⟩ ?_ ?_ ?_
 ·rintro c ks ρ ⟨p1, p2, p3, p4, p5, p6, p7, p8, p9, p10, p11, p12, p13, p14, rfl⟩
  obtain ⟨q2, q3, q4, q5, q6, q7, q8, q9, q10, q11, q12, q13, q14, e⟩ := cell_ok (.lst (ns.map .int)) c p2 p3 p4 p5 p6 p7 p8 p9 p10 p11 p12 p13 p14
  exact ⟨_, _, rfl, e, _, _, _, _, _, _, _, _, _, _, _, _, _, _, rfl⟩
 ·rintro ρ ⟨p1, p2, p3, p4, p5, p6, p7, p8, p9, p10, p11, p12, p13, p14, rfl⟩
  exact ⟨_, _, _, _, _, _, _, _, _, _, _, _, _, _, rfl⟩
 ·rintro o ⟨p1, p2, p3, p4, p5, p6, p7, p8, p9, p10, p11, p12, p13, p14, rfl⟩
  rfl
end
end
end Lw
namespace Lw
open List
open PySem L2
open PyProof.Rows
section
def top (i : Nat) : Stmt := PySem.Challenge.pw_wavyrow_k48_short_rings.main.body.getD i (.Pass ⟨0, 0, 0, 0⟩)
section
variable (P : Program) (w : World) (K : W.Frag) (mg : Str -> Option Value) (base : Heap)
abbrev T_Z8 : Prop := QHd P w K mg base 1 "refuse_step" ["step"] (spR K 1 m_Z8)
abbrev T_Z2 : Prop := QHd P w K mg base 1 "later_steps" ["row", "step"] (spK K 2 m_Z2)
abbrev T_Z14 : Prop := QHd P w K mg base 1 "added_up" ["tails", "laters"] (spR K 2 m_Z14)
abbrev T_Z7 : Prop := QHd P w K mg base 1 "longer_first" ["places"] (spR K 1 m_Z7)
abbrev T_Z3 : Prop := QHd P w K mg base 1 "longest_behind" ["tails", "laters"] (spR K 2 m_Z3)
abbrev T_Z6 : Prop := QHd P w K mg base 2 "both_ways" ["row", "step"] (spK K 2 m_Z6)
abbrev T_Z4 : Prop := QHd P w K mg base 2 "longest_begun" ["first", "nexts", "backs"] (spR K 3 m_Z4)
abbrev T_Z0 : Prop := QHd P w K mg base 3 "longest_round" ["row", "step"] (spK K 2 m_Z0)
abbrev W9 : Prop := QHd P w K mg base 3 "longest_round" ["row", "step"] (spR K 2 d6)
abbrev T_Z5 : Prop := QHd P w K mg base 2 "counts_begun" ["first", "nexts", "backs"] (spR K 3 m_Z5)
abbrev T_Z1 : Prop := QHd P w K mg base 3 "counts_round" ["row", "step"] (spK K 2 m_Z1)
abbrev U5 : Prop := QHd P w K mg base 3 "counts_round" ["row", "step"] (spR K 2 a9)
abbrev T_Z13 : Prop := QHd P w K mg base 1 "_law_stir" ["cell", "k"] (spR K 2 Q7)
abbrev T_Z12 : Prop := QHd P w K mg base 1 "_law_cells" ["script", "many"] (spR K 2 m_Z12)
abbrev T_Z15 : Prop := QHd P w K mg base 2 "_law_row" ["cell", "most"] (spR K 2 m_Z15)
abbrev T_Z9 : Prop := QHd P w K mg base 1 "_law_same" ["found", "due"] (spR K 2 m_Z9)
abbrev T_Z10 : Prop := QHd P w K mg base 2 "_law_same" ["found", "due"] (spR K 2 m_Z10)
abbrev T_Z11 : Prop := QHd P w K mg base 1 "_law_round" ["row", "step", "places"] (spR K 3 m_Z11)
abbrev T_Z16 : Prop := QHd P w K mg base 1 "_law_all" ["size"] (spR K 1 m_Z16)
end
abbrev Zs (mg : Str -> Option Value) : Prop := mg "abs" = none /\ mg "any" = none /\ mg "bool" = none /\ mg "enumerate" = none /\ mg "int" = none /\ mg "isinstance" = none /\ mg "len" = none /\ mg "list" = none /\ mg "max" = none /\ mg "min" = none /\ mg "range" = none /\ mg "reversed" = none /\ mg "set" = none /\ mg "sorted" = none /\ mg "str" = none /\ mg "sum" = none /\ mg "tuple" = none /\ mg "zip" = none /\ True
theorem z_abs {mg : Str -> Option Value} (Z : Zs mg) : mg "abs" = none := Z.1
theorem z_any {mg : Str -> Option Value} (Z : Zs mg) : mg "any" = none := Z.2.1
theorem z_bool {mg : Str -> Option Value} (Z : Zs mg) : mg "bool" = none := Z.2.2.1
theorem M5 {mg : Str -> Option Value} (Z : Zs mg) : mg "enumerate" = none := Z.2.2.2.1
theorem z_int {mg : Str -> Option Value} (Z : Zs mg) : mg "int" = none := Z.2.2.2.2.1
theorem y9 {mg : Str -> Option Value} (Z : Zs mg) : mg "isinstance" = none := Z.2.2.2.2.2.1
theorem j8 {mg : Str -> Option Value} (Z : Zs mg) : mg "len" = none := Z.2.2.2.2.2.2.1
theorem T7 {mg : Str -> Option Value} (Z : Zs mg) : mg "list" = none := Z.2.2.2.2.2.2.2.1
theorem z_max {mg : Str -> Option Value} (Z : Zs mg) : mg "max" = none := Z.2.2.2.2.2.2.2.2.1
theorem z_min {mg : Str -> Option Value} (Z : Zs mg) : mg "min" = none := Z.2.2.2.2.2.2.2.2.2.1
theorem k6 {mg : Str -> Option Value} (Z : Zs mg) : mg "range" = none := Z.2.2.2.2.2.2.2.2.2.2.1
theorem z_reversed {mg : Str -> Option Value} (Z : Zs mg) : mg "reversed" = none := Z.2.2.2.2.2.2.2.2.2.2.2.1
theorem z_set {mg : Str -> Option Value} (Z : Zs mg) : mg "set" = none := Z.2.2.2.2.2.2.2.2.2.2.2.2.1
theorem z_sorted {mg : Str -> Option Value} (Z : Zs mg) : mg "sorted" = none := Z.2.2.2.2.2.2.2.2.2.2.2.2.2.1
theorem z_str {mg : Str -> Option Value} (Z : Zs mg) : mg "str" = none := Z.2.2.2.2.2.2.2.2.2.2.2.2.2.2.1
theorem z_sum {mg : Str -> Option Value} (Z : Zs mg) : mg "sum" = none := Z.2.2.2.2.2.2.2.2.2.2.2.2.2.2.2.1
theorem D3 {mg : Str -> Option Value} (Z : Zs mg) : mg "tuple" = none := Z.2.2.2.2.2.2.2.2.2.2.2.2.2.2.2.2.1
theorem z_zip {mg : Str -> Option Value} (Z : Zs mg) : mg "zip" = none := Z.2.2.2.2.2.2.2.2.2.2.2.2.2.2.2.2.2.1
variable {P : Program} {w : World} {K : W.Frag} {mg : Str -> Option Value} {base : Heap}
abbrev s_Z8 : Stmt := top 4
abbrev N_Z8 : List Str := ["step"]
theorem sc_Z8 : FnScope N_Z8 ["step"] (z9 s_Z8) := qsc
theorem ok_Z8 (D : QDf K mg "refuse_step" s_Z8 ["step"]) : T_Z8 P w K mg base :=
 D.mk fun f fd Fn => Fn.okD (k := 0) (m := b_Z8) sc_Z8 fun cdv A outer s H E hr => (y4 (f7 (k4 op_lt opd_lt (z3 0 (pv 0)) z8 (u7 _)) (y4 zx0) n4))
abbrev D8 : Stmt := top 5
abbrev s_Z2 : Stmt := top 5
abbrev N_Z2 : List Str := ["row", "step", "above", "below", "place", "number"]
theorem sc_Z2 : FnScope N_Z2 ["row", "step"] (z9 s_Z2) := qsc
theorem d4 : List.Nodup (["later", "step", "number", "row"] : List Str) := by decide +kernel
theorem d3 : List.Nodup (["later", "step", "number", "row"] : List Str) := by decide +kernel
theorem ok_Z2 (D : QDf K mg "later_steps" s_Z2 ["row", "step"]) (Z : Zs mg) : T_Z2 P w K mg base :=
 D.mk fun f fd Fn => Fn.okK (k := 0) (m := b_Z2) sc_Z2 fun cdv A outer s H E hr => (z4 (k7 (i := 2) sc_Z2.nd rfl (Or.inl rfl) (v6 z6)) (z4 (k7 (i := 3) sc_Z2.nd rfl (Or.inl rfl) (v6 z6)) (z4 (psd_forH PassesOwn.never rfl (pih_enum rfl (M5 Z) (pv 0)) (T1 (is := [4, 5]) (L3 rfl (m8 (y7 (i := 4) sc_Z2.nd rfl (Or.inl rfl)) (m8 (y7 (i := 5) sc_Z2.nd rfl (Or.inr rfl)) T0)))) (z4 (k3 (i := 2) (pv 2) (i6 (N7 (T9 (by decide)) (k5 (N := ["later", "step", "number", "row"]) (src := [none, some 1, some 5, some 0]) (z9 s_Z2) N_Z2 rfl rfl (by decide +kernel)) rfl (V1 rfl (k6 Z) (z0 (j1 (z3 4 (pv 4)) z8) (z0 (t5 rfl (j8 Z) (y8 0 (pv 0))) z6))) (fun C fp s0 H0 => (x9 (i := 0) (y7 d4 rfl (Or.inl rfl)))) (fun C fp s0 H0 => (j3 (k4 op_ge E5 (Z2 (Z3 (y8 3 (pv 3)) (z3 0 (pv 0))) (z3 2 (pv 2))) (z3 1 (pv 1)) (u7 _)))) (fun C fp s0 H0 => (z3 0 (pv 0))))) (fun t ha => qap (pv 2) ha) (z0 (i6 (N7 (T9 (by decide)) (k5 (N := ["later", "step", "number", "row"]) (src := [none, some 1, some 5, some 0]) (z9 s_Z2) N_Z2 rfl rfl (by decide +kernel)) rfl (V1 rfl (k6 Z) (z0 (j1 (z3 4 (pv 4)) z8) (z0 (t5 rfl (j8 Z) (y8 0 (pv 0))) z6))) (fun C fp s0 H0 => (x9 (i := 0) (y7 d4 rfl (Or.inl rfl)))) (fun C fp s0 H0 => (j3 (k4 op_ge E5 (Z2 (Z3 (y8 3 (pv 3)) (z3 0 (pv 0))) (z3 2 (pv 2))) (z3 1 (pv 1)) (u7 _)))) (fun C fp s0 H0 => (z3 0 (pv 0))))) z6)) (y4 (k3 (i := 3) (pv 3) (i6 (N7 (T9 (by decide)) (k5 (N := ["later", "step", "number", "row"]) (src := [none, some 1, some 5, some 0]) (z9 s_Z2) N_Z2 rfl rfl (by decide +kernel)) rfl (V1 rfl (k6 Z) (z0 (j1 (z3 4 (pv 4)) z8) (z0 (t5 rfl (j8 Z) (y8 0 (pv 0))) z6))) (fun C fp s0 H0 => (x9 (i := 0) (y7 d3 rfl (Or.inl rfl)))) (fun C fp s0 H0 => (j3 (k4 op_ge E5 (Z2 (z3 2 (pv 2)) (Z3 (y8 3 (pv 3)) (z3 0 (pv 0)))) (z3 1 (pv 1)) (u7 _)))) (fun C fp s0 H0 => (z3 0 (pv 0))))) (fun t ha => qap (pv 3) ha) (z0 (i6 (N7 (T9 (by decide)) (k5 (N := ["later", "step", "number", "row"]) (src := [none, some 1, some 5, some 0]) (z9 s_Z2) N_Z2 rfl rfl (by decide +kernel)) rfl (V1 rfl (k6 Z) (z0 (j1 (z3 4 (pv 4)) z8) (z0 (t5 rfl (j8 Z) (y8 0 (pv 0))) z6))) (fun C fp s0 H0 => (x9 (i := 0) (y7 d3 rfl (Or.inl rfl)))) (fun C fp s0 H0 => (j3 (k4 op_ge E5 (Z2 (z3 2 (pv 2)) (Z3 (y8 3 (pv 3)) (z3 0 (pv 0)))) (z3 1 (pv 1)) (u7 _)))) (fun C fp s0 H0 => (z3 0 (pv 0))))) z6))))) (U9 3 (U9 2 (y4 (u5 (zx2 (z0 (z3 2 (pv 2)) (z0 (z3 3 (pv 3)) z6))))))))))
abbrev s_Z14 : Stmt := top 7
abbrev N_Z14 : List Str := ["tails", "laters"]
theorem sc_Z14 : FnScope N_Z14 ["tails", "laters"] (z9 s_Z14) := qsc
theorem B2 : List.Nodup (["each", "tails"] : List Str) := by decide +kernel
theorem B1 : List.Nodup (["later", "tails"] : List Str) := by decide +kernel
theorem ok_Z14 (D : QDf K mg "added_up" s_Z14 ["tails", "laters"]) (Z : Zs mg) : T_Z14 P w K mg base :=
 D.mk fun f fd Fn => Fn.okD (k := 0) (m := b_Z14) sc_Z14 fun cdv A outer s H E hr => (y4 (psd_retF (k8 (k5 (N := ["each", "tails"]) (src := [none, some 0]) (z9 s_Z14) N_Z14 rfl rfl (by decide +kernel)) rfl (l8 (z3 1 (pv 1))) (fun C fp s0 H0 => (x9 (i := 0) (y7 B2 rfl (Or.inl rfl)))) (fun C fp s0 H0 => j4) (fun C fp s0 H0 => (pd_sum rfl rfl (z_sum Z) (l5 (k8 (blk_of2 (N := ["later", "tails"]) (src := [none, some 1]) (z9 s_Z14) rfl (by decide +kernel)) rfl (l8 (z3 0 (pv 0))) (fun C fp s0 H0 => (x9 (i := 0) (y7 B1 rfl (Or.inl rfl)))) (fun C fp s0 H0 => j4) (fun C fp s0 H0 => (Z3 (y8 1 (pv 1)) (z3 0 (pv 0)))))) PyProof.Rows.boot_sum)))))
abbrev s_Z7 : Stmt := top 9
abbrev N_Z7 : List Str := ["places"]
theorem sc_Z7 : FnScope N_Z7 ["places"] (z9 s_Z7) := qsc
theorem ok_Z7 (D : QDf K mg "longer_first" s_Z7 ["places"]) (Z : Zs mg) : T_Z7 P w K mg base :=
 D.mk fun f fd Fn => Fn.okD (k := 0) (m := b_Z7) sc_Z7 fun cdv A outer s H E hr => (y4 (u5 (zx2 (z0 (zx4 (t5 rfl (j8 Z) (y8 0 (pv 0)))) (z0 (z3 0 (pv 0)) z6)))))
abbrev s_Z3 : Stmt := top 11
abbrev N_Z3 : List Str := ["tails", "laters"]
theorem sc_Z3 : FnScope N_Z3 ["tails", "laters"] (z9 s_Z3) := qsc
theorem T3 : List.Nodup (["later", "tails"] : List Str) := by decide +kernel
theorem ok_Z3 (D : QDf K mg "longest_behind" s_Z3 ["tails", "laters"]) (Z : Zs mg) : T_Z3 P w K mg base :=
 D.mk fun f fd Fn => Fn.okD (k := 0) (m := b_Z3) sc_Z3 fun cdv A outer s H E hr => (y4 (u5 (pd_maxLen rfl hr.units rfl (z_max Z) rfl (j8 Z) (l5 (k8 (k5 (N := ["later", "tails"]) (src := [none, some 0]) (z9 s_Z3) N_Z3 rfl rfl (by decide +kernel)) rfl (l8 (z3 1 (pv 1))) (fun C fp s0 H0 => (x9 (i := 0) (y7 T3 rfl (Or.inl rfl)))) (fun C fp s0 H0 => j4) (fun C fp s0 H0 => (Z3 (y8 1 (pv 1)) (z3 0 (pv 0)))))) (i6 (v6 z6)))))
abbrev s_both_ways : Stmt := top 13
abbrev s_Z6 : Stmt := top 13
abbrev N_Z6 : List Str := ["row", "step", "above", "below"]
theorem sc_Z6 : FnScope N_Z6 ["row", "step"] (z9 s_Z6) := qsc
theorem ok_Z6 (D : QDf K mg "both_ways" s_Z6 ["row", "step"]) (H_Z2 : T_Z2 P w K mg base) : T_Z6 P w K mg base :=
 D.mk fun f fd Fn => Fn.okK (k := 1) (m := b_Z6) sc_Z6 fun cdv A outer s H E hr => (z4 (psd_asg (ps_asg (C8 (fun t ha => qcl H_Z2 hr ha) rfl (pak_rd (pv 0) (C9 (z3 1 (pv 1)) pak_nil)) (krd_len (K4 B9))) (T1 (is := [2, 3]) (L3 rfl (m8 (y7 (i := 2) sc_Z6.nd rfl (Or.inl rfl)) (m8 (y7 (i := 3) sc_Z6.nd rfl (Or.inl rfl)) T0)))))) (y4 (u5 (zx2 (z0 (zx2 (z0 (z3 2 (pv 2)) (z0 (z3 3 (pv 3)) z6))) (z0 (zx2 (z0 (z3 3 (pv 3)) (z0 (z3 2 (pv 2)) z6))) z6))))))
abbrev s_Z4 : Stmt := top 14
abbrev N_Z4 : List Str := ["first", "nexts", "backs", "lasts", "gone", "back", "place", "behind"]
theorem sc_Z4 : FnScope N_Z4 ["first", "nexts", "backs"] (z9 s_Z4) := qsc
theorem ok_Z4 (D : QDf K mg "longest_begun" s_Z4 ["first", "nexts", "backs"]) (H_Z3 : T_Z3 P w K mg base) (Z : Zs mg) : T_Z4 P w K mg base :=
 D.mk fun f fd Fn => Fn.okD (k := 1) (m := b_Z4) sc_Z4 fun cdv A outer s H E hr => (z4 (w4 (i := 3) sc_Z4.nd rfl (Or.inl rfl) (Z3 (y8 1 (pv 1)) (z3 0 (pv 0)))) (z4 (k7 (i := 4) sc_Z4.nd rfl (Or.inl rfl) (pf_rep (v6 (z0 (i6 (v6 z6)) z6)) (t5 rfl (j8 Z) (y8 1 (pv 1))))) (z4 (k7 (i := 5) sc_Z4.nd rfl (Or.inl rfl) (pf_rep (v6 (z0 (i6 (v6 z6)) z6)) (t5 rfl (j8 Z) (y8 1 (pv 1))))) (z4 (i5 PassesOwn.never rfl (pid_revR2 rfl (z_reversed Z) rfl (k6 Z) (z0 (j1 (z3 0 (pv 0)) z8) (z0 (t5 rfl (j8 Z) (y8 1 (pv 1))) z6))) (x9 (i := 6) (y7 sc_Z4.nd rfl (Or.inl rfl))) (z4 (w4 (i := 7) sc_Z4.nd rfl (Or.inl rfl) (pd_borL 5 (w8 (fun t ha => qcl H_Z3 hr ha) rfl (z0 (z3 5 (pv 5)) (z0 (Z3 (y8 2 (pv 2)) (z3 6 (pv 6))) z6)) qal2))) (z4 (f7 (pc_w (L6 (c6 (z3 7 (pv 7))) (E2 (k4 zx7 opd_in (z3 6 (pv 6)) (z3 3 (pv 3)) rfl)))) (y4 (zy8 (i := 4) (ps_asg (i6 (W0 (l5 (v6 (z0 (z3 6 (pv 6)) z6))) (y8 7 (pv 7)))) (pg_sub (pv 4) (z3 6 (pv 6)) D6)))) n4) (z4 (w4 (i := 7) sc_Z4.nd rfl (Or.inl rfl) (pd_borL 4 (w8 (fun t ha => qcl H_Z3 hr ha) rfl (z0 (z3 4 (pv 4)) (z0 (Z3 (y8 1 (pv 1)) (z3 6 (pv 6))) z6)) qal2))) (y4 (f7 (c6 (z3 7 (pv 7))) (y4 (zy8 (i := 5) (ps_asg (i6 (W0 (l5 (v6 (z0 (z3 6 (pv 6)) z6))) (y8 7 (pv 7)))) (pg_sub (pv 5) (z3 6 (pv 6)) D6)))) n4)))))) (U9 4 (z4 (w4 (i := 7) sc_Z4.nd rfl (Or.inl rfl) (w8 (fun t ha => qcl H_Z3 hr ha) rfl (z0 (z3 4 (pv 4)) (z0 (z3 3 (pv 3)) z6)) qal2)) (y4 (u5 (pd_ite (c6 (z3 7 (pv 7))) (i6 (W0 (l5 (v6 (z0 (z3 0 (pv 0)) z6))) (y8 7 (pv 7)))) (i6 (v6 z6)))))))))))
abbrev s_Z0 : Stmt := top 15
abbrev N_Z0 : List Str := ["row", "step", "lists"]
theorem sc_Z0 : FnScope N_Z0 ["row", "step"] (z9 s_Z0) := qsc
theorem m9 : List.Nodup (["nexts", "backs", "first", "row"] : List Str) := by decide +kernel
theorem ok_Z0 (D : QDf K mg "longest_round" s_Z0 ["row", "step"]) (H_Z6 : T_Z6 P w K mg base) (H_Z7 : T_Z7 P w K mg base) (H_Z4 : T_Z4 P w K mg base) (H_Z8 : T_Z8 P w K mg base) (Z : Zs mg) : T_Z0 P w K mg base := by
 obtain ⟨x_Z7, d_Z7, G_Z7, b_Z7, k_Z7, a_Z7⟩ := H_Z7
 exact D.mk fun f fd Fn => Fn.okK (k := 2) (m := b_Z0) sc_Z0 fun cdv A outer s H E hr => (z4 (psd_expr (w8 (fun t ha => qcl H_Z8 hr ha) rfl (z0 (z3 1 (pv 1)) z6) qal1)) (z4 (psd_setC2s (T9 (by decide)) (ps_setC2 (i := 2) sc_Z0.nd rfl (Or.inl rfl) (k5 (N := ["nexts", "backs", "first", "row"]) (src := [none, none, none, some 0]) (z9 s_Z0) N_Z0 rfl rfl (by decide +kernel)) rfl (pid_tup (C8 (fun t ha => qcl H_Z6 hr ha) rfl (pak_rd (pv 0) (C9 (z3 1 (pv 1)) pak_nil)) (krd_len (K4 B9)))) (fun C fp s0 H0 => (T1 (is := [0, 1]) (L3 rfl (m8 (y7 (i := 0) m9 rfl (Or.inl rfl)) (m8 (y7 (i := 1) m9 rfl (Or.inl rfl)) T0))))) (fun C fp s0 H0 => (l4 rfl (k6 Z) (z0 (t5 rfl (j8 Z) (y8 3 (pv 3))) z6))) (fun C fp s0 H0 => (x9 (i := 2) (y7 m9 rfl (Or.inl rfl)))) (fun C fp s0 H0 => (w8 (fun t ha => qcl H_Z4 hr ha) rfl (z0 (z3 2 (pv 2)) (z0 (z3 0 (pv 0)) (z0 (z3 1 (pv 1)) z6))) qal3)))) (y4 (u5 (pd_minK (keyAt_fn (G_Z7.mono (by decide)) hr.in1 b_Z7) rfl hr.units rfl (z_min Z) rfl a_Z7 (y8 2 (pv 2)) (i6 (v6 z6)))))))
abbrev X5 : Stmt := top 15
theorem N3 (D : QDf K mg "longest_round" X5 ["row", "step"]) (H_Z0 : T_Z0 P w K mg base) (nl : NoL K) : W9 P w K mg base := QHd.lsn8 nl H_Z0
abbrev s_Z5 : Stmt := top 16
abbrev N_Z5 : List Str := ["first", "nexts", "backs", "lasts", "gone", "told"]
theorem sc_Z5 : FnScope N_Z5 ["first", "nexts", "backs"] (z9 s_Z5) := qsc
theorem Q3 : List.Nodup (["place", "lasts"] : List Str) := by decide +kernel
theorem Z4 : List.Nodup (["place", "gone"] : List Str) := by decide +kernel
theorem ok_Z5 (D : QDf K mg "counts_begun" s_Z5 ["first", "nexts", "backs"]) (H_Z14 : T_Z14 P w K mg base) (Z : Zs mg) : T_Z5 P w K mg base :=
 D.mk fun f fd Fn => Fn.okD (k := 1) (m := b_Z5) sc_Z5 fun cdv A outer s H E hr => (z4 (w4 (i := 3) sc_Z5.nd rfl (Or.inr rfl) (Z3 (y8 1 (pv 1)) (z3 0 (pv 0)))) (z4 (w4 (i := 4) sc_Z5.nd rfl (Or.inr rfl) (i6 (k8 (k5 (N := ["place", "lasts"]) (src := [none, some 3]) (z9 s_Z5) N_Z5 rfl rfl (by decide +kernel)) rfl (l4 rfl (k6 Z) (z0 (t5 rfl (j8 Z) (y8 1 (pv 1))) z6)) (fun C fp s0 H0 => (x9 (i := 0) (y7 Q3 rfl (Or.inl rfl)))) (fun C fp s0 H0 => j4) (fun C fp s0 H0 => (pd_ite (k4 zx7 opd_in (z3 0 (pv 0)) (z3 1 (pv 1)) rfl) z8 z8))))) (z4 (k7 (i := 5) sc_Z5.nd rfl (Or.inl rfl) (v6 z6)) (z4 (zy7 1000 PassesOwn.never (c6 (pd_any rfl rfl (z_any Z) (y8 4 (pv 4)) PyProof.Rows.boot_any)) (z4 (k3 (i := 5) (pv 5) (pd_sum rfl rfl (z_sum Z) (l5 (k8 (k5 (N := ["place", "gone"]) (src := [none, some 4]) (z9 s_Z5) N_Z5 rfl rfl (by decide +kernel)) rfl (l8 (z3 3 (pv 3))) (fun C fp s0 H0 => (x9 (i := 0) (y7 Z4 rfl (Or.inl rfl)))) (fun C fp s0 H0 => j4) (fun C fp s0 H0 => (Z3 (y8 1 (pv 1)) (z3 0 (pv 0)))))) PyProof.Rows.boot_sum) (fun t ha => qap (pv 5) ha) (z0 (pd_sum rfl rfl (z_sum Z) (l5 (k8 (k5 (N := ["place", "gone"]) (src := [none, some 4]) (z9 s_Z5) N_Z5 rfl rfl (by decide +kernel)) rfl (l8 (z3 3 (pv 3))) (fun C fp s0 H0 => (x9 (i := 0) (y7 Z4 rfl (Or.inl rfl)))) (fun C fp s0 H0 => j4) (fun C fp s0 H0 => (Z3 (y8 1 (pv 1)) (z3 0 (pv 0)))))) PyProof.Rows.boot_sum) z6)) (y4 (w4 (i := 4) sc_Z5.nd rfl (Or.inr rfl) (w8 (fun t ha => qcl H_Z14 hr ha) rfl (z0 (w8 (fun t ha => qcl H_Z14 hr ha) rfl (z0 (z3 4 (pv 4)) (z0 (z3 1 (pv 1)) z6)) qal2) (z0 (z3 2 (pv 2)) z6)) qal2))))) (y4 (N6 5 (pv 5)))))))
abbrev s_Z1 : Stmt := top 17
abbrev N_Z1 : List Str := ["row", "step", "told", "nexts", "backs", "first", "half", "many"]
theorem sc_Z1 : FnScope N_Z1 ["row", "step"] (z9 s_Z1) := qsc
theorem ok_Z1 (D : QDf K mg "counts_round" s_Z1 ["row", "step"]) (H_Z6 : T_Z6 P w K mg base) (H_Z5 : T_Z5 P w K mg base) (H_Z8 : T_Z8 P w K mg base) (Z : Zs mg) : T_Z1 P w K mg base :=
 D.mk fun f fd Fn => Fn.okK (k := 2) (m := b_Z1) sc_Z1 fun cdv A outer s H E hr => (z4 (psd_expr (w8 (fun t ha => qcl H_Z8 hr ha) rfl (z0 (z3 1 (pv 1)) z6) qal1)) (z4 (k7 (i := 2) sc_Z1.nd rfl (Or.inl rfl) (W0 (l5 (v6 (z0 z8 z6))) (l5 (pf_rep (v6 (z0 z8 z6)) (t5 rfl (j8 Z) (y8 0 (pv 0))))))) (z4 (i5 PassesOwn.never rfl (pid_tup (C8 (fun t ha => qcl H_Z6 hr ha) rfl (pak_rd (pv 0) (C9 (z3 1 (pv 1)) pak_nil)) (krd_len (K4 B9)))) (T1 (is := [3, 4]) (L3 rfl (m8 (y7 (i := 3) sc_Z1.nd rfl (Or.inl rfl)) (m8 (y7 (i := 4) sc_Z1.nd rfl (Or.inl rfl)) T0)))) (y4 (i5 PassesOwn.never rfl (l4 rfl (k6 Z) (z0 (t5 rfl (j8 Z) (y8 0 (pv 0))) z6)) (x9 (i := 5) (y7 sc_Z1.nd rfl (Or.inl rfl))) (y4 (i5 PassesOwn.never rfl (pid_en1 rfl (M5 Z) (w8 (fun t ha => qcl H_Z5 hr ha) rfl (z0 (z3 5 (pv 5)) (z0 (z3 3 (pv 3)) (z0 (z3 4 (pv 4)) z6))) qal3)) (T1 (is := [6, 7]) (L3 rfl (m8 (y7 (i := 6) sc_Z1.nd rfl (Or.inl rfl)) (m8 (y7 (i := 7) sc_Z1.nd rfl (Or.inl rfl)) T0)))) (y4 (psd_augix (i := 2) (pv 2) (z3 6 (pv 6)) (z3 7 (pv 7))))))))) (z4 (zy7 1000 PassesOwn.never (k4 J8 a0 (Z3 (y8 2 (pv 2)) (zx4 z8)) z8 (u7 _)) (y4 (psd_popS (i := 2) (pv 2) (pe_bm0 PySem.F.plainAttrs_list PySem.F.slot_list_pop PySem.F.type_list_pop mt_pop (pv 2))))) (y4 (N6 2 (pv 2)))))))
abbrev U2 : Stmt := top 17
theorem L7 (D : QDf K mg "counts_round" U2 ["row", "step"]) (H_Z1 : T_Z1 P w K mg base) (nl : NoL K) : U5 P w K mg base := QHd.lsn8 nl H_Z1
abbrev s_Z13 : Stmt := top 19
abbrev N_Z13 : List Str := ["cell", "k", "number"]
theorem sc_Z13 : FnScope N_Z13 ["cell", "k"] (z9 s_Z13) := qsc
theorem ok_Z13 (D : QDf K mg "_law_stir" s_Z13 ["cell", "k"]) : T_Z13 P w K mg base :=
 D.mk fun f fd Fn => Fn.okD (k := 0) (m := b_Z13) sc_Z13 fun cdv A outer s H E hr => (z4 (f7 (k4 op_ge E5 (z3 0 (pv 0)) (zx3 z8 z8) (u7 _)) (y4 (u5 (f9 (pd_shr (Z2 (z3 0 (pv 0)) (zx3 z8 z8)) (P5 z8 (z3 1 (pv 1)))) (zx3 z8 z8)))) n4) (z4 (w4 (i := 2) sc_Z13.nd rfl (Or.inl rfl) (f9 (P5 (j1 (j1 (z3 0 (pv 0)) (P5 z8 (z3 1 (pv 1)))) z8) z8) z8)) (z4 (w4 (i := 2) sc_Z13.nd rfl (Or.inl rfl) (f9 (P5 (z3 2 (pv 2)) (z3 2 (pv 2))) z8)) (y4 (u5 (W1 (f9 (P5 (z3 2 (pv 2)) z8) z8) z8))))))
abbrev s_Z12 : Stmt := top 20
abbrev N_Z12 : List Str := ["script", "many"]
theorem sc_Z12 : FnScope N_Z12 ["script", "many"] (z9 s_Z12) := qsc
theorem ok_Z12 (D : QDf K mg "_law_cells" s_Z12 ["script", "many"]) (Z : Zs mg) : T_Z12 P w K mg base :=
 D.mk fun f fd Fn => Fn.okD (k := 0) (m := b_Z12) sc_Z12 fun cdv A outer s H E hr => (y4 (psd_retF (zx1 (l5 (W0 (l5 (zx1 (y8 0 (pv 0)) c5 (c4 (z3 1 (pv 1))))) (l5 (v6 (z0 z8 z6))))) c5 (c4 (pd_max2 rfl rfl (z_max Z) (z0 z8 (z0 (pd_min2 rfl rfl (z_min Z) (z0 (z3 1 (pv 1)) (z0 (t5 rfl (j8 Z) (y8 0 (pv 0))) z6))) z6)))))))
abbrev s_Z15 : Stmt := top 21
abbrev N_Z15 : List Str := ["cell", "most", "size", "kind", "wide", "block", "found", "last", "k", "one", "some"]
theorem sc_Z15 : FnScope N_Z15 ["cell", "most"] (z9 s_Z15) := qsc
theorem ok_Z15 (D : QDf K mg "_law_row" s_Z15 ["cell", "most"]) (H_Z13 : T_Z13 P w K mg base) (Z : Zs mg) : T_Z15 P w K mg base :=
 D.mk fun f fd Fn => Fn.okD (k := 1) (m := b_Z15) sc_Z15 fun cdv A outer s H E hr => (z4 (w4 (i := 2) sc_Z15.nd rfl (Or.inl rfl) (f9 (w8 (fun t ha => qcl H_Z13 hr ha) rfl (z0 (z3 0 (pv 0)) (z0 z8 z6)) qal2) (Z3 (l5 (v6 (z0 z8 (z0 z8 (z0 z8 (z0 (j1 (z3 1 (pv 1)) z8) z6)))))) (f9 (w8 (fun t ha => qcl H_Z13 hr ha) rfl (z0 (z3 0 (pv 0)) (z0 z8 z6)) qal2) z8)))) (z4 (w4 (i := 3) sc_Z15.nd rfl (Or.inl rfl) (f9 (w8 (fun t ha => qcl H_Z13 hr ha) rfl (z0 (z3 0 (pv 0)) (z0 z8 z6)) qal2) z8)) (z4 (w4 (i := 4) sc_Z15.nd rfl (Or.inl rfl) (Z3 (l5 (v6 (z0 z8 (z0 z8 (z0 z8 (z0 (zx3 z8 z8) z6)))))) (f9 (w8 (fun t ha => qcl H_Z13 hr ha) rfl (z0 (z3 0 (pv 0)) (z0 z8 z6)) qal2) z8))) (z4 (w4 (i := 5) sc_Z15.nd rfl (Or.inl rfl) (j1 z8 (f9 (w8 (fun t ha => qcl H_Z13 hr ha) rfl (z0 (z3 0 (pv 0)) (z0 z8 z6)) qal2) z8))) (z4 (k7 (i := 6) sc_Z15.nd rfl (Or.inl rfl) (v6 z6)) (z4 (w4 (i := 7) sc_Z15.nd rfl (Or.inl rfl) z8) (z4 (i5 PassesOwn.never rfl (l4 rfl (k6 Z) (z0 (pd_min2 rfl rfl (z_min Z) (z0 (z3 2 (pv 2)) (z0 (z3 1 (pv 1)) z6))) z6)) (x9 (i := 8) (y7 sc_Z15.nd rfl (Or.inl rfl))) (z4 (w4 (i := 9) sc_Z15.nd rfl (Or.inl rfl) (f9 (w8 (fun t ha => qcl H_Z13 hr ha) rfl (z0 (z3 0 (pv 0)) (z0 (j1 z8 (z3 8 (pv 8))) z6)) qal2) (z3 4 (pv 4)))) (z4 (w4 (i := 7) sc_Z15.nd rfl (Or.inl rfl) (Z2 (j1 (z3 7 (pv 7)) (z3 9 (pv 9))) (W1 (z3 4 (pv 4)) z8))) (z4 (w4 (i := 10) sc_Z15.nd rfl (Or.inl rfl) (i6 (v6 (z0 (Z2 (z3 9 (pv 9)) (W1 (z3 4 (pv 4)) z8)) (z0 (j1 (z3 8 (pv 8)) (W1 (z3 9 (pv 9)) z8)) (z0 (Z2 (Z2 z8 (z3 8 (pv 8))) (W1 (z3 9 (pv 9)) z8)) (z0 (Z3 (l5 (v6 (z0 (z3 9 (pv 9)) (z0 (Z2 z8 (z3 9 (pv 9))) z6)))) (f9 (z3 8 (pv 8)) z8)) z6))))))) (z4 (w4 (i := 10) sc_Z15.nd rfl (Or.inl rfl) (i6 (W0 (y8 10 (pv 10)) (l5 (v6 (z0 (j1 (z3 9 (pv 9)) (P5 (f9 (W1 (z3 8 (pv 8)) (z3 5 (pv 5))) z8) (z3 4 (pv 4)))) (z0 (z3 4 (pv 4)) (z0 (j1 (P5 (Z2 (z3 9 (pv 9)) (W1 (z3 4 (pv 4)) z8)) (zx3 z8 z8)) (f9 (w8 (fun t ha => qcl H_Z13 hr ha) rfl (z0 (z3 0 (pv 0)) (z0 (j1 z8 (z3 8 (pv 8))) z6)) qal2) z8)) z6)))))))) (y4 (k3 (i := 6) (pv 6) (Z3 (l5 (W0 (y8 10 (pv 10)) (l5 (v6 (z0 (z3 7 (pv 7)) z6))))) (z3 3 (pv 3))) (fun t ha => qap (pv 6) ha) (z0 (Z3 (l5 (W0 (y8 10 (pv 10)) (l5 (v6 (z0 (z3 7 (pv 7)) z6))))) (z3 3 (pv 3))) z6)))))))) (y4 (N6 6 (pv 6))))))))))
abbrev s_law_same : Stmt := top 22
abbrev s_Z9 : Stmt := top 22
abbrev N_Z9 : List Str := ["found", "due"]
theorem sc_Z9 : FnScope N_Z9 ["found", "due"] (z9 s_Z9) := qsc
theorem ok_Z9 (D : QDf K mg "_law_same" s_Z9 ["found", "due"]) (Z : Zs mg) : T_Z9 P w K mg base :=
 D.mk fun f fd Fn => Fn.okD (k := 0) (m := b_Z9) sc_Z9 fun cdv A outer s H E hr => (z4 (f7 (c6 (Y8 (C := "str") rfl (y9 Z) rfl (z_str Z) PyProof.Rows.boot_str (z3 1 (pv 1)))) (y4 (u5 (E3 (Y8 (C := "str") rfl (y9 Z) rfl (z_str Z) PyProof.Rows.boot_str (z3 0 (pv 0))) (pd_one (P6 J8 a0 (z3 0 (pv 0)) (z3 1 (pv 1)) (u7 _)))))) n4) (z4 (f7 (c6 (C7 (C1 := "list") (C2 := "tuple") rfl (y9 Z) rfl (T7 Z) PyProof.Rows.boot_list rfl (D3 Z) PyProof.Rows.boot_tuple (z3 1 (pv 1)))) (z4 (f7 (pc_w (L6 (k4 op_ne B0 (Y8 (C := "list") rfl (y9 Z) rfl (T7 Z) PyProof.Rows.boot_list (z3 0 (pv 0))) (Y8 (C := "list") rfl (y9 Z) rfl (T7 Z) PyProof.Rows.boot_list (z3 1 (pv 1))) (u7 _)) (E2 (zx6 (c6 (C7 (C1 := "list") (C2 := "tuple") rfl (y9 Z) rfl (T7 Z) PyProof.Rows.boot_list rfl (D3 Z) PyProof.Rows.boot_tuple (z3 0 (pv 0)))))))) (y4 (u5 zx5)) n4) (z4 (f7 (k4 op_ne B0 (pd_len rfl (j8 Z) (z0 (z3 0 (pv 0)) z6)) (pd_len rfl (j8 Z) (z0 (z3 1 (pv 1)) z6)) (u7 _)) (y4 (u5 zx5)) n4) (y4 zx0))) n4) (y4 (u5 (E3 (Y8 (C := "int") rfl (y9 Z) rfl (z_int Z) PyProof.Rows.boot_int (z3 0 (pv 0))) (E3 (pd_not (Y8 (C := "bool") rfl (y9 Z) rfl (z_bool Z) PyProof.Rows.boot_bool (z3 0 (pv 0)))) (pd_one (P6 J8 a0 (z3 0 (pv 0)) (z3 1 (pv 1)) (u7 _)))))))))
abbrev s_Z10 : Stmt := top 22
abbrev N_Z10 : List Str := ["found", "due"]
theorem sc_Z10 : FnScope N_Z10 ["found", "due"] (z9 s_Z10) := qsc
theorem X0 : List.Nodup (["one", "other"] : List Str) := by decide +kernel
theorem ok_Z10 (D : QDf K mg "_law_same" s_Z10 ["found", "due"]) (H_Z9 : T_Z9 P w K mg base) (Z : Zs mg) : T_Z10 P w K mg base :=
 D.mk fun f fd Fn => Fn.okD (k := 1) (m := b_Z10) sc_Z10 fun cdv A outer s H E hr => (z4 (f7 (c6 (Y8 (C := "str") rfl (y9 Z) rfl (z_str Z) PyProof.Rows.boot_str (z3 1 (pv 1)))) (y4 (u5 (E3 (Y8 (C := "str") rfl (y9 Z) rfl (z_str Z) PyProof.Rows.boot_str (z3 0 (pv 0))) (pd_one (P6 J8 a0 (z3 0 (pv 0)) (z3 1 (pv 1)) (u7 _)))))) n4) (z4 (f7 (c6 (C7 (C1 := "list") (C2 := "tuple") rfl (y9 Z) rfl (T7 Z) PyProof.Rows.boot_list rfl (D3 Z) PyProof.Rows.boot_tuple (z3 1 (pv 1)))) (z4 (f7 (pc_w (L6 (k4 op_ne B0 (Y8 (C := "list") rfl (y9 Z) rfl (T7 Z) PyProof.Rows.boot_list (z3 0 (pv 0))) (Y8 (C := "list") rfl (y9 Z) rfl (T7 Z) PyProof.Rows.boot_list (z3 1 (pv 1))) (u7 _)) (E2 (zx6 (c6 (C7 (C1 := "list") (C2 := "tuple") rfl (y9 Z) rfl (T7 Z) PyProof.Rows.boot_list rfl (D3 Z) PyProof.Rows.boot_tuple (z3 0 (pv 0)))))))) (y4 (u5 zx5)) n4) (z4 (f7 (k4 op_ne B0 (pd_len rfl (j8 Z) (z0 (z3 0 (pv 0)) z6)) (pd_len rfl (j8 Z) (z0 (z3 1 (pv 1)) z6)) (u7 _)) (y4 (u5 zx5)) n4) (y4 (u5 (pd_eqB (op_eqF hr.units) (l5 (k8 (k5 (N := ["one", "other"]) (src := [none, none]) (z9 s_Z10) N_Z10 rfl rfl (by decide +kernel)) rfl (pid_zip2 rfl (z_zip Z) (z0 (z3 0 (pv 0)) (z0 (z3 1 (pv 1)) z6))) (fun C fp s0 H0 => (T1 (is := [0, 1]) (L3 rfl (m8 (y7 (i := 0) X0 rfl (Or.inl rfl)) (m8 (y7 (i := 1) X0 rfl (Or.inl rfl)) T0))))) (fun C fp s0 H0 => (j3 (zx6 (c6 (w8 (fun t ha => qcl H_Z9 hr ha) rfl (z0 (z3 0 (pv 0)) (z0 (z3 1 (pv 1)) z6)) qal2))))) (fun C fp s0 H0 => z8))) (l5 (v6 z6)) (u7 _)))))) n4) (y4 (u5 (E3 (Y8 (C := "int") rfl (y9 Z) rfl (z_int Z) PyProof.Rows.boot_int (z3 0 (pv 0))) (E3 (pd_not (Y8 (C := "bool") rfl (y9 Z) rfl (z_bool Z) PyProof.Rows.boot_bool (z3 0 (pv 0)))) (pd_one (P6 J8 a0 (z3 0 (pv 0)) (z3 1 (pv 1)) (u7 _)))))))))
abbrev s_Z11 : Stmt := top 23
abbrev N_Z11 : List Str := ["row", "step", "places", "last", "place", "ways", "one", "other", "far"]
theorem sc_Z11 : FnScope N_Z11 ["row", "step", "places"] (z9 s_Z11) := qsc
theorem ok_Z11 (D : QDf K mg "_law_round" s_Z11 ["row", "step", "places"]) (Z : Zs mg) : T_Z11 P w K mg base :=
 D.mk fun f fd Fn => Fn.okD (k := 0) (m := b_Z11) sc_Z11 fun cdv A outer s H E hr => (z4 (w4 (i := 3) sc_Z11.nd rfl (Or.inl rfl) (zx4 z8)) (z4 (i5 PassesOwn.never rfl (l8 (z3 2 (pv 2))) (x9 (i := 4) (y7 sc_Z11.nd rfl (Or.inl rfl))) (z4 (f7 (pc_w (L6 (k4 op_le opd_le (z3 4 (pv 4)) (z3 3 (pv 3)) (u7 _)) (E2 (k4 op_ge E5 (z3 4 (pv 4)) (t5 rfl (j8 Z) (y8 0 (pv 0))) (u7 _))))) (y4 (u5 zx5)) n4) (y4 (w4 (i := 3) sc_Z11.nd rfl (Or.inl rfl) (z3 4 (pv 4)))))) (z4 (k7 (i := 5) sc_Z11.nd rfl (Or.inl rfl) (v6 z6)) (z4 (i5 PassesOwn.never rfl (pid_zip2 rfl (z_zip Z) (z0 (z3 2 (pv 2)) (z0 (i6 (W0 (l5 (zx1 (y8 2 (pv 2)) (c4 z8) c5)) (l5 (zx1 (y8 2 (pv 2)) c5 (c4 z8))))) z6))) (T1 (is := [6, 7]) (L3 rfl (m8 (y7 (i := 6) sc_Z11.nd rfl (Or.inl rfl)) (m8 (y7 (i := 7) sc_Z11.nd rfl (Or.inl rfl)) T0)))) (z4 (w4 (i := 8) sc_Z11.nd rfl (Or.inl rfl) (Z2 (Z3 (y8 0 (pv 0)) (z3 7 (pv 7))) (Z3 (y8 0 (pv 0)) (z3 6 (pv 6))))) (z4 (f7 (pc_w (L6 (k4 op_lt opd_lt (pd_abs rfl (z_abs Z) (z0 (z3 8 (pv 8)) z6)) (z3 1 (pv 1)) (u7 _)) (E2 (pc_eqB (op_eqF hr.units) (l5 (zx1 (y8 5 (pv 5)) (c4 (zx4 z8)) c5)) (l5 (v6 (z0 (P6 op_gt opd_gt (z3 8 (pv 8)) z8 (u7 _)) z6))) (u7 _))))) (y4 (u5 zx5)) n4) (y4 (k3 (i := 5) (pv 5) (P6 op_gt opd_gt (z3 8 (pv 8)) z8 (u7 _)) (fun t ha => qap (pv 5) ha) (z0 (P6 op_gt opd_gt (z3 8 (pv 8)) z8 (u7 _)) z6)))))) (y4 (u5 (P6 J8 a0 (f9 (t5 rfl (j8 Z) (y8 2 (pv 2))) z8) z8 (u7 _))))))))
abbrev s_Z16 : Stmt := top 24
abbrev N_Z16 : List Str := ["size", "found", "number"]
theorem sc_Z16 : FnScope N_Z16 ["size"] (z9 s_Z16) := qsc
theorem P8 : List.Nodup (["place", "number"] : List Str) := by decide +kernel
theorem ok_Z16 (D : QDf K mg "_law_all" s_Z16 ["size"]) (Z : Zs mg) : T_Z16 P w K mg base :=
 D.mk fun f fd Fn => Fn.okD (k := 0) (m := b_Z16) sc_Z16 fun cdv A outer s H E hr => (z4 (k7 (i := 1) sc_Z16.nd rfl (Or.inl rfl) (v6 z6)) (z4 (i5 PassesOwn.never rfl (l4 rfl (k6 Z) (z0 (pd_shl z8 (z3 0 (pv 0))) z6)) (x9 (i := 2) (y7 sc_Z16.nd rfl (Or.inr rfl))) (y4 (k3 (i := 1) (pv 1) (i6 (k8 (k5 (N := ["place", "number"]) (src := [none, some 2]) (z9 s_Z16) N_Z16 rfl rfl (by decide +kernel)) rfl (l4 rfl (k6 Z) (z0 (z3 0 (pv 0)) z6)) (fun C fp s0 H0 => (x9 (i := 0) (y7 P8 rfl (Or.inl rfl)))) (fun C fp s0 H0 => (j3 (k4 J8 a0 (pd_band (pd_shr (z3 1 (pv 1)) (z3 0 (pv 0))) z8) z8 (u7 _)))) (fun C fp s0 H0 => (z3 0 (pv 0))))) (fun t ha => qap (pv 1) ha) (z0 (i6 (k8 (k5 (N := ["place", "number"]) (src := [none, some 2]) (z9 s_Z16) N_Z16 rfl rfl (by decide +kernel)) rfl (l4 rfl (k6 Z) (z0 (z3 0 (pv 0)) z6)) (fun C fp s0 H0 => (x9 (i := 0) (y7 P8 rfl (Or.inl rfl)))) (fun C fp s0 H0 => (j3 (k4 J8 a0 (pd_band (pd_shr (z3 1 (pv 1)) (z3 0 (pv 0))) z8) z8 (u7 _)))) (fun C fp s0 H0 => (z3 0 (pv 0))))) z6)))) (y4 (N6 1 (pv 1)))))
abbrev R9 : Stmt := top 25
abbrev N_Z17 : List Str := ["script", "cell", "row", "steps", "one", "step", "wavy", "most", "due", "sizes", "by_size", "handed", "turn", "found", "told"]
theorem sc_Z17 : FnScope N_Z17 ["script"] (z9 R9) := qsc
theorem nd_law_0 : List.Nodup (["other", "one"] : List Str) := by decide +kernel
theorem nd_law_1 : List.Nodup (["places", "row", "step"] : List Str) := by decide +kernel
theorem nd_law_2 : List.Nodup (["places"] : List Str) := by decide +kernel
theorem nd_law_3 : List.Nodup (["places", "most"] : List Str) := by decide +kernel
theorem nd_law_4 : List.Nodup (["places"] : List Str) := by decide +kernel
theorem nd_law_5 : List.Nodup (["k", "sizes"] : List Str) := by decide +kernel
theorem nd_law_6 : List.Nodup (["size", "k"] : List Str) := by decide +kernel
theorem ok_Z17 {f : Addr} {fd : FuncData} (Fn : Fun K "law" "law" R9 f fd) (H_Z16 : T_Z16 P w K mg base) (H_Z12 : T_Z12 P w K mg base) (H_Z11 : T_Z11 P w K mg base) (H_Z15 : T_Z15 P w K mg base) (H_Z10 : T_Z10 P w K mg base) (H_Z13 : T_Z13 P w K mg base) (H_counts_round : U5 P w K mg base) (H_longest_round : W9 P w K mg base) (Z : Zs mg) : FnOk P w K mg base CX0 4 f fd ["script"] (spR K 1 m_Z17) :=
 Fn.okD (k := 3) (m := b_Z17) sc_Z17 fun cdv A outer s H E hr => (z4 (i5 PassesOwn.never rfl (l8 (w8 (fun t ha => qcl H_Z12 hr ha) rfl (z0 (z3 0 (pv 0)) (z0 z8 z6)) qal2)) (x9 (i := 1) (y7 sc_Z17.nd rfl (Or.inl rfl))) (z4 (w4 (i := 2) sc_Z17.nd rfl (Or.inr rfl) (w8 (fun t ha => qcl H_Z15 hr ha) rfl (z0 (z3 1 (pv 1)) (z0 z8 z6)) qal2)) (z4 (w4 (i := 3) sc_Z17.nd rfl (Or.inl rfl) (i6 (v6 (z0 z8 (z0 (j1 z8 (f9 (w8 (fun t ha => qcl H_Z13 hr ha) rfl (z0 (z3 1 (pv 1)) (z0 z8 z6)) qal2) z8)) z6))))) (z4 (i5 PassesOwn.never rfl (l8 (i6 (zx1 (y8 2 (pv 2)) c5 (c4 z8)))) (x9 (i := 4) (y7 sc_Z17.nd rfl (Or.inr rfl))) (y4 (w4 (i := 3) sc_Z17.nd rfl (Or.inl rfl) (i6 (W0 (y8 3 (pv 3)) (l5 (k8 (k5 (N := ["other", "one"]) (src := [none, some 4]) (z9 R9) N_Z17 rfl rfl (by decide +kernel)) rfl (l8 (i6 (zx1 (y8 2 (pv 2)) (c4 (zx4 z8)) c5))) (fun C fp s0 H0 => (x9 (i := 0) (y7 nd_law_0 rfl (Or.inl rfl)))) (fun C fp s0 H0 => j4) (fun C fp s0 H0 => (pd_max2 rfl rfl (z_max Z) (z0 z8 (z0 (pd_abs rfl (z_abs Z) (z0 (Z2 (z3 1 (pv 1)) (z3 0 (pv 0))) z6)) z6))))))))))) (y4 (i5 PassesOwn.never rfl (l8 (i6 (W0 (l5 (zx1 (l5 (pf_sortSet rfl rfl (z_sorted Z) rfl (z_set Z) (y8 3 (pv 3)) PyProof.Rows.boot_sorted PyProof.Rows.boot_set)) c5 (c4 z8))) (l5 (v6 (z0 (j1 (pd_maxL rfl rfl (z_max Z) (y8 3 (pv 3))) z8) z6)))))) (x9 (i := 5) (y7 sc_Z17.nd rfl (Or.inr rfl))) (z4 (zy9 (ps_setC (i := 6) sc_Z17.nd rfl (Or.inl rfl) (k5 (N := ["places", "row", "step"]) (src := [none, some 2, some 5]) (z9 R9) N_Z17 rfl rfl (by decide +kernel)) rfl (l8 (w8 (fun t ha => qcl H_Z16 hr ha) rfl (z0 (t5 rfl (j8 Z) (y8 2 (pv 2))) z6) qal1)) (fun C fp s0 H0 => (x9 (i := 0) (y7 nd_law_1 rfl (Or.inl rfl)))) (fun C fp s0 H0 => (j3 (c6 (w8 (fun t ha => qcl H_Z11 hr ha) rfl (z0 (z3 1 (pv 1)) (z0 (z3 2 (pv 2)) (z0 (z3 0 (pv 0)) z6))) qal3)))) (fun C fp s0 H0 => (z3 0 (pv 0))))) (z4 (w4 (i := 7) sc_Z17.nd rfl (Or.inr rfl) (pd_maxL rfl rfl (z_max Z) (l5 (k8 (k5 (N := ["places"]) (src := [none]) (z9 R9) N_Z17 rfl rfl (by decide +kernel)) rfl (l8 (z3 6 (pv 6))) (fun C fp s0 H0 => (x9 (i := 0) (y7 nd_law_2 rfl (Or.inl rfl)))) (fun C fp s0 H0 => j4) (fun C fp s0 H0 => (t5 rfl (j8 Z) (y8 0 (pv 0)))))))) (z4 (w4 (i := 8) sc_Z17.nd rfl (Or.inl rfl) (pd_minP rfl hr.units rfl (z_min Z) (l5 (k8 (k5 (N := ["places", "most"]) (src := [none, some 7]) (z9 R9) N_Z17 rfl rfl (by decide +kernel)) rfl (l8 (z3 6 (pv 6))) (fun C fp s0 H0 => (x9 (i := 0) (y7 nd_law_3 rfl (Or.inl rfl)))) (fun C fp s0 H0 => (j3 (k4 J8 a0 (t5 rfl (j8 Z) (y8 0 (pv 0))) (z3 1 (pv 1)) (u7 _)))) (fun C fp s0 H0 => (z3 0 (pv 0))))))) (z4 (w4 (i := 9) sc_Z17.nd rfl (Or.inr rfl) (i6 (k8 (k5 (N := ["places"]) (src := [none]) (z9 R9) N_Z17 rfl rfl (by decide +kernel)) rfl (l8 (z3 6 (pv 6))) (fun C fp s0 H0 => (x9 (i := 0) (y7 nd_law_4 rfl (Or.inl rfl)))) (fun C fp s0 H0 => j4) (fun C fp s0 H0 => (t5 rfl (j8 Z) (y8 0 (pv 0))))))) (z4 (zy9 (ps_setCC (i := 10) sc_Z17.nd rfl (Or.inl rfl) (blk_ofC (N := ["k", "sizes"]) (src := [none, some 9]) (z9 R9) N_Z17 rfl rfl (by decide +kernel)) rfl (l4 rfl (k6 Z) (z0 (j1 (W1 (z3 7 (pv 7)) z8) z8) z6)) (fun C fp s0 H0 => (x9 (i := 0) (y7 nd_law_5 rfl (by first | exact Or.inr rfl | exact Or.inl rfl)))) (fun C fp s0 H0 => j4) (fun C fp s0 H0 => (t5 rfl (j8 Z) (l5 (k8 (blk_of2C (N := ["size", "k"]) (src := [none, some 0]) (z9 R9) rfl (by decide +kernel)) rfl (l8 (z3 1 (pv 1))) (fun C fp s0 H0 => (x9 (i := 0) (y7 nd_law_6 rfl (Or.inl rfl)))) (fun C fp s0 H0 => (j3 (k4 J8 a0 (z3 0 (pv 0)) (P5 z8 (z3 1 (pv 1))) (u7 _)))) (fun C fp s0 H0 => z8))))))) (z4 (w4 (i := 11) sc_Z17.nd rfl (Or.inl rfl) (i6 (pf_list rfl (T7 Z) (y8 2 (pv 2)) PyProof.Rows.boot_list))) (y4 (i5 PassesOwn.never rfl (l4 rfl (k6 Z) (z0 z8 z6)) (x9 (i := 12) (y7 sc_Z17.nd rfl (Or.inl rfl))) (z4 (k7 (i := 13) sc_Z17.nd rfl (Or.inl rfl) (pf_call (fun t ha => qcl H_longest_round hr ha) rfl (z0 (z3 11 (pv 11)) (z0 (z3 5 (pv 5)) z6)) qal2)) (z4 (k7 (i := 14) sc_Z17.nd rfl (Or.inl rfl) (pf_call (fun t ha => qcl H_counts_round hr ha) rfl (z0 (z3 11 (pv 11)) (z0 (z3 5 (pv 5)) z6)) qal2)) (z4 (f7 (pc_w (L6 (zx6 (c6 (pd_borT 13 (w8 (fun t ha => qcl H_Z10 hr ha) rfl (z0 (z3 13 (pv 13)) (z0 (z3 8 (pv 8)) z6)) qal2)))) (L6 (zx6 (c6 (pd_borT 14 (w8 (fun t ha => qcl H_Z10 hr ha) rfl (z0 (z3 14 (pv 14)) (z0 (z3 10 (pv 10)) z6)) qal2)))) (E2 (pc_eqB (op_neF hr.units) (y8 11 (pv 11)) (y8 2 (pv 2)) (u7 _)))))) (y4 (u5 zx5)) n4) (z4 (k3 (i := 13) (pv 13) z8 (fun t ha => qap (pv 13) ha) (z0 z8 z6)) (y4 (k3 (i := 14) (pv 14) z8 (fun t ha => qap (pv 14) ha) (z0 z8 z6))))))))))))))))))))) (y4 (u5 zx5)))
theorem all_mk {l : W.OpenLaw} {h : Heap} {fa : Addr} (X : K.In h) (G : h.Ns mainGlobals mg) (hfa : mg "law" = some (.ref fa)) (d_Z8 : QDn K "refuse_step" s_Z8) (d_later_steps : QDn K "later_steps" D8) (d_Z14 : QDn K "added_up" s_Z14) (d_Z7 : QDn K "longer_first" s_Z7) (d_Z3 : QDn K "longest_behind" s_Z3) (d_both_ways : QDn K "both_ways" s_both_ways) (d_Z4 : QDn K "longest_begun" s_Z4) (d_longest_round : QDn K "longest_round" X5) (d_Z5 : QDn K "counts_begun" s_Z5) (d_counts_round : QDn K "counts_round" U2) (d_Z13 : QDn K "_law_stir" s_Z13) (d_Z12 : QDn K "_law_cells" s_Z12) (d_Z15 : QDn K "_law_row" s_Z15) (d_law_same : QDn K "_law_same" s_law_same) (d_Z11 : QDn K "_law_round" s_Z11) (d_Z16 : QDn K "_law_all" s_Z16) (d_Z17 : QDn K "law" R9) (nl : NoL K) (y_abs : W.nsIn K mainGlobals "abs" = some none) (y_any : W.nsIn K mainGlobals "any" = some none) (y_bool : W.nsIn K mainGlobals "bool" = some none) (y_enumerate : W.nsIn K mainGlobals "enumerate" = some none) (y_int : W.nsIn K mainGlobals "int" = some none) (y_isinstance : W.nsIn K mainGlobals "isinstance" = some none) (y_len : W.nsIn K mainGlobals "len" = some none) (y_list : W.nsIn K mainGlobals "list" = some none) (y_max : W.nsIn K mainGlobals "max" = some none) (y_min : W.nsIn K mainGlobals "min" = some none) (y_range : W.nsIn K mainGlobals "range" = some none) (y_reversed : W.nsIn K mainGlobals "reversed" = some none) (y_set : W.nsIn K mainGlobals "set" = some none) (y_sorted : W.nsIn K mainGlobals "sorted" = some none) (y_str : W.nsIn K mainGlobals "str" = some none) (y_sum : W.nsIn K mainGlobals "sum" = some none) (y_tuple : W.nsIn K mainGlobals "tuple" = some none) (y_zip : W.nsIn K mainGlobals "zip" = some none) :
  ∃ fd : FuncData, (∀ (s : Shared) (v : Value), BindsTo s fd ⟨[v], []⟩ [("script", v)]) /\ ∀ base : Heap, K.In base -> base.Ns mainGlobals mg -> FnOk l.prog w K mg base CX0 4 fa fd ["script"] (spR K 1 m_Z17) := by
 obtain ⟨x, e, oc, o1, kV, dc, pm, o2, cd, ct, sl, l', c, k⟩ := d_Z17
 have e := hfa.symm.trans (W.mg_of X G e)
 cases e
 have Z : Zs mg := ⟨W.mg_none_of X G y_abs, W.mg_none_of X G y_any, W.mg_none_of X G y_bool, W.mg_none_of X G y_enumerate, W.mg_none_of X G y_int, W.mg_none_of X G y_isinstance, W.mg_none_of X G y_len, W.mg_none_of X G y_list, W.mg_none_of X G y_max, W.mg_none_of X G y_min, W.mg_none_of X G y_range, W.mg_none_of X G y_reversed, W.mg_none_of X G y_set, W.mg_none_of X G y_sorted, W.mg_none_of X G y_str, W.mg_none_of X G y_sum, W.mg_none_of X G y_tuple, W.mg_none_of X G y_zip, True.intro⟩
 refine ⟨W.fnOf "law" "law" (Y1 R9) (i9 R9) (z9 R9) .none kV dc pm o2 cd ct, fun s v => .of_eq rfl, fun base _ _ => ?_⟩
 have H_Z8 := ok_Z8 (P := l.prog) (w := w) (mg := mg) (base := base) (d_Z8.df X G (qbd1 fun _ _ _ _ _ _ _ => rfl))
 have H_Z2 := ok_Z2 (P := l.prog) (w := w) (mg := mg) (base := base) (d_later_steps.df X G (qbd2 fun _ _ _ _ _ _ _ _ => rfl)) Z
 have H_Z14 := ok_Z14 (P := l.prog) (w := w) (mg := mg) (base := base) (d_Z14.df X G (qbd2 fun _ _ _ _ _ _ _ _ => rfl)) Z
 have H_Z7 := ok_Z7 (P := l.prog) (w := w) (mg := mg) (base := base) (d_Z7.df X G (qbd1 fun _ _ _ _ _ _ _ => rfl)) Z
 have H_Z3 := ok_Z3 (P := l.prog) (w := w) (mg := mg) (base := base) (d_Z3.df X G (qbd2 fun _ _ _ _ _ _ _ _ => rfl)) Z
 have H_Z6 := ok_Z6 (P := l.prog) (w := w) (mg := mg) (base := base) (d_both_ways.df X G (qbd2 fun _ _ _ _ _ _ _ _ => rfl)) H_Z2
 have H_Z4 := ok_Z4 (P := l.prog) (w := w) (mg := mg) (base := base) (d_Z4.df X G (qbd3 fun _ _ _ _ _ _ _ _ _ => rfl)) H_Z3 Z
 have H_Z0 := ok_Z0 (P := l.prog) (w := w) (mg := mg) (base := base) (d_longest_round.df X G (qbd2 fun _ _ _ _ _ _ _ _ => rfl)) H_Z6 H_Z7 H_Z4 H_Z8 Z
 have H_longest_round := N3 (P := l.prog) (w := w) (mg := mg) (base := base) (d_longest_round.df X G (qbd2 fun _ _ _ _ _ _ _ _ => rfl)) H_Z0 nl
 have H_Z5 := ok_Z5 (P := l.prog) (w := w) (mg := mg) (base := base) (d_Z5.df X G (qbd3 fun _ _ _ _ _ _ _ _ _ => rfl)) H_Z14 Z
 have H_Z1 := ok_Z1 (P := l.prog) (w := w) (mg := mg) (base := base) (d_counts_round.df X G (qbd2 fun _ _ _ _ _ _ _ _ => rfl)) H_Z6 H_Z5 H_Z8 Z
 have H_counts_round := L7 (P := l.prog) (w := w) (mg := mg) (base := base) (d_counts_round.df X G (qbd2 fun _ _ _ _ _ _ _ _ => rfl)) H_Z1 nl
 have H_Z13 := ok_Z13 (P := l.prog) (w := w) (mg := mg) (base := base) (d_Z13.df X G (qbd2 fun _ _ _ _ _ _ _ _ => rfl))
 have H_Z12 := ok_Z12 (P := l.prog) (w := w) (mg := mg) (base := base) (d_Z12.df X G (qbd2 fun _ _ _ _ _ _ _ _ => rfl)) Z
 have H_Z15 := ok_Z15 (P := l.prog) (w := w) (mg := mg) (base := base) (d_Z15.df X G (qbd2 fun _ _ _ _ _ _ _ _ => rfl)) H_Z13 Z
 have H_Z9 := ok_Z9 (P := l.prog) (w := w) (mg := mg) (base := base) (d_law_same.df X G (qbd2 fun _ _ _ _ _ _ _ _ => rfl)) Z
 have H_Z10 := ok_Z10 (P := l.prog) (w := w) (mg := mg) (base := base) (d_law_same.df X G (qbd2 fun _ _ _ _ _ _ _ _ => rfl)) H_Z9 Z
 have H_Z11 := ok_Z11 (P := l.prog) (w := w) (mg := mg) (base := base) (d_Z11.df X G (qbd3 fun _ _ _ _ _ _ _ _ _ => rfl)) Z
 have H_Z16 := ok_Z16 (P := l.prog) (w := w) (mg := mg) (base := base) (d_Z16.df X G (qbd1 fun _ _ _ _ _ _ _ => rfl)) Z
 exact ok_Z17 (fun_mk l' c k) H_Z16 H_Z12 H_Z11 H_Z15 H_Z10 H_Z13 H_counts_round H_longest_round Z
theorem walk {l : W.OpenLaw} {q : Program} {loose : List Str} {XP : (Str -> Option Value) -> Heap -> Prop} {YP : World -> Heap -> Prop} {d : DefRec} {K : Params -> W.Frag} (hn : l.most = some 63) (hdf : d.params.defaults = [])
  (law : ∀ ns : List Int, ns.length <= 63 -> m_Z17 [.lst (ns.map .int)] = some (.sh (.bl true)))
  (hY : ∀ (w : World) (h : Heap), YP w h -> (K w.params).In h)
  (F : ∀ (w : World) (mg : Str -> Option Value) (fa : Addr) (h : Heap), (K w.params).In h -> h.Ns mainGlobals mg -> mg d.name = some (.ref fa) ->
   ∃ fd : FuncData, (∀ (s : Shared) (u : Value), BindsTo s fd ⟨[u], []⟩ [("script", u)]) /\ ∀ base : Heap, (K w.params).In base -> base.Ns mainGlobals mg -> FnOk l.prog w (K w.params) mg base CX0 4 fa fd ["script"] (spR (K w.params) 1 m_Z17)) :
  W.WalkO q loose XP YP l.row.toRowW d [] (fun f vs => PySem.call f vs) :=
 L2.walk_of (n := 63) (k := 4) (x := "script") (CX := fun _ => CX0) (sp := fun w => spR (K w.params) 1 m_Z17) hn (by decide) hdf ⟨rfl, by decide, by decide⟩ hY F (fun w H a ns hl _ hS => sp_Z17 law H a ns hl hS _) fun _ _ _ _ _ z => z
end
end Lw
open PySem PySem.W PyProof.Rows L2
set_option maxRecDepth 100000 in
set_option maxHeartbeats 0 in
theorem PySem.Challenge.cw_wavyrow_k48_short_rings_holds : PySem.Challenge.rw_wavyrow_k48_short_rings.Holds := by
 w_on; o_law; k_head; (case hw => w_witness2)
 k_fill
 refine Lw.walk (l := PySem.Challenge.rw_wavyrow_k48_short_rings) rfl rfl Lw.law_true (fun w h Y => PySem.W.kIn_of Y) ?F
 case F =>
  intro w mg fa h KX G hmg
  refine' Lw.all_mk KX G hmg  ?d_Z8 ?d_later_steps ?d_Z14 ?d_Z7 ?d_Z3 ?d_both_ways ?d_Z4 ?d_longest_round ?d_Z5 ?d_counts_round ?d_Z13 ?d_Z12 ?d_Z15 ?d_law_same ?d_Z11 ?d_Z16 ?d_Z17    ?nl ?y_abs ?y_any ?y_bool ?y_enumerate ?y_int ?y_isinstance ?y_len ?y_list ?y_max ?y_min ?y_range ?y_reversed ?y_set ?y_sorted ?y_str ?y_sum ?y_tuple ?y_zip
  (case nl => exact L2.NoL.of (by rfl))
  all_goals first | (refine' QDn.of ?e ?l ?c ?k; (case e => k_is); (case l => k_is); (case c => k_is); (case k => k_is)) | (refine' QMn.of ?e ?i ?l ?c ?k; (case e => k_is); (case i => k_is); (case l => k_is); (case c => k_is); (case k => k_is)) | k_is | skip
