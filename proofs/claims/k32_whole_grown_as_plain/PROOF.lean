import PyProof.Rows.All
import Wide.All
import OpenK.AllK
import Wide.FinOn
import Lean
import PyProof.EqAt
import PyProof.EqKinds
import PyProof.TupleCall
import PyProof.NeKinds
import KE.IntBitsLaws
import PyProof.FitsBits
import PySem.Challenge.RW_wavyrow_k32_whole_grown_as_plain
theorem PySem.W.Fast.te11942466816209801770 : True := True.intro
noncomputable def PySem.W.Fast.tw10389578419184518920 := PySem.Challenge.pw_wavyrow_k32_whole_grown_as_plain
theorem PySem.W.Fast.te10389578419184518920 : PySem.Challenge.pw_wavyrow_k32_whole_grown_as_plain = PySem.W.Fast.tw10389578419184518920 := rfl
def PySem.W.Fast.tw16978179174770861408 : Nat := 0
def PySem.W.Fast.tw16174555356540120930 : Nat := 0
def PySem.W.Fast.tw1109109490147401989 : Nat := 0
def PySem.W.Fast.tw9763338714003628106 : Nat := 0
def PySem.W.Fast.tw15704175119293772876 : Nat := 0
def PySem.W.Fast.tw7522518736019700911 : Nat := 0
def PySem.W.Fast.tw10365053426156304499 : Nat := 0
def PySem.W.Fast.tw6762372204224194899 : Nat := 0
def PySem.W.Fast.tw13407087905171200085 : Nat := 0
def PySem.W.Fast.tw17123436664281022809 : Nat := 0
def PySem.W.Fast.tw1444895177025481786 : Nat := 0
set_option Elab.async false
set_option linter.all false
set_option maxRecDepth 100000
namespace L2
open List
open PySem PySem.Spec PyProof.Rows
section
abbrev Key := Sum Int Str
def yc0 : Key -> Value -> Bool
 | .inl k, v => Value.isInt k v
 | .inr x, v => Value.isStrOf x v
def keyH (w : World) : Key -> Int
 | .inl k => hashInt k
 | .inr x => hashStr w x
theorem k8 : ∀ {k : Key} {v : Value}, yc0 k v = true -> (∃ i t, k = Sum.inl i /\ v = Value.int i t) \/ (∃ x t, k = Sum.inr x /\ v = Value.str x t)
 | .inl i, v, h => by
  obtain ⟨t, e⟩ := Value.isInt_shape (k := i) (v := v) h
  exact .inl ⟨i, t, rfl, e⟩
 | .inr x, v, h => by
  obtain ⟨t, e⟩ := Value.isStrOf_shape (x := x) (v := v) h
  exact .inr ⟨x, t, rfl, e⟩
theorem zx3 (x : Str) (t : Tok) : yc0 (.inr x) (.str x t) = true := by simp [yc0, Value.isStrOf]
theorem xe4 (a b : Int) : decide ((Sum.inl a : Key) = Sum.inl b) = (a == b) := by
 by_cases e : a = b
 ·subst e; simp
 ·have h : ¬ (Sum.inl a : Key) = Sum.inl b := fun q => e (Sum.inl.inj q)
  rw [decide_eq_false h]
  exact (beq_eq_false_iff_ne.mpr e).symm
theorem xe1 (a b : Str) : decide ((Sum.inr a : Key) = Sum.inr b) = decide (a = b) := by
 by_cases e : a = b
 ·subst e; simp
 ·have h : ¬ (Sum.inr a : Key) = Sum.inr b := fun q => e (Sum.inr.inj q)
  rw [decide_eq_false h, decide_eq_false e]
theorem xe3 (a : Int) (b : Str) : decide ((Sum.inl a : Key) = Sum.inr b) = false := decide_eq_false (fun q => nomatch q)
theorem xe2 (a : Str) (b : Int) : decide ((Sum.inr a : Key) = Sum.inl b) = false := decide_eq_false (fun q => nomatch q)
def zy7 (prog : Program) (w : World) : PySem.KeyKind prog w Key where
 is := yc0
 hash := keyH w
 inj := fun v a b ha hb => by
  rcases k8 ha with ⟨i, t, rfl, rfl⟩ | ⟨x, t, rfl, rfl⟩
  ·rcases k8 hb with ⟨j, u, rfl, e⟩ | ⟨y, u, rfl, e⟩
   ·injection e with e1 _; rw [e1]
   ·exact nomatch e
  ·rcases k8 hb with ⟨j, u, rfl, e⟩ | ⟨y, u, rfl, e⟩
   ·exact nomatch e
   ·injection e with e1 _; rw [e1]
 byValue := fun k v h => by
  rcases k8 h with ⟨i, t, rfl, rfl⟩ | ⟨x, t, rfl, rfl⟩ <;> rfl
 pyHash := fun hv h => by
  rcases k8 hv with ⟨i, t, rfl, rfl⟩ | ⟨x, t, rfl, rfl⟩
  ·exact wpAny_pyHash_int h
  ·exact wpAny_pyHash_str h
 eqBool := fun hu hv h => by
  rcases k8 hu with ⟨i, t, rfl, rfl⟩ | ⟨x, t, rfl, rfl⟩
  ·rcases k8 hv with ⟨j, u, rfl, rfl⟩ | ⟨y, u, rfl, rfl⟩
   ·rw [xe4] at h; exact wpAny_eqBool_int h
   ·rw [xe3] at h; exact SeqAt.EqAt.int_str i t y u _ _ _ _ h
  ·rcases k8 hv with ⟨j, u, rfl, rfl⟩ | ⟨y, u, rfl, rfl⟩
   ·rw [xe2] at h; exact SeqAt.EqAt.str_int x t j u _ _ _ _ h
   ·rw [xe1] at h; exact wpAny_eqBool_str h
 «strs» := fun k x t v h => by
  rcases k8 h with ⟨i, u, rfl, e⟩ | ⟨y, u, rfl, e⟩
  ·exact nomatch e
  ·injection e with e1 _
   subst e1
   cases v <;> rfl
end
section
inductive V where
 | non | bl (b : Bool) | int (i : Int) | str (x : Str) | byt (b : Array UInt8) | flt (b : UInt64) | ref (a : Addr) | ty (n : String)
 deriving DecidableEq
def RelV : V -> Value -> Prop
 | .non, u => u = Value.none
 | .bl b, u => u = Value.bool b
 | .int i, u => ∃ t, u = Value.int i t
 | .str x, u => ∃ t, u = Value.str x t
 | .byt b, u => ∃ t, u = Value.bytes b t
 | .flt b, u => ∃ t, u = Value.float b t
 | .ref a, u => u = Value.ref a
 | .ty n, u => u = Value.type n
abbrev Vals : List V -> List Value -> Prop := Paired RelV
theorem Vals.length {xs : List V} {us : List Value} (r : Vals xs us) : xs.length = us.length := Paired.length r
theorem Vals.get : ∀ {xs : List V} {us : List Value} {i : Nat} {x : V}, Vals xs us -> xs[i]? = some x -> ∃ u, us[i]? = some u /\ RelV x u
 | _, _, _, _, .nil, e => by simp at e
 | _, _, 0, _, .cons r _, e => by simp at e; subst e; exact ⟨_, rfl, r⟩
 | _, _, i + 1, x, .cons _ t, e => by
  obtain ⟨u, h1, h2⟩ := Vals.get (i := i) (x := x) t (by simpa using e)
  exact ⟨u, by simpa using h1, h2⟩
theorem Vals.set {x : V} {u : Value} (r : RelV x u) : ∀ {xs : List V} {us : List Value} (i : Nat), Vals xs us -> Vals (xs.set i x) (us.set i u)
 | _, _, _, .nil => .nil
 | _, _, 0, .cons _ t => .cons r t
 | _, _, i + 1, .cons q t => .cons q (Vals.set r i t)
theorem Vals.append : ∀ {xs ys : List V} {us ws : List Value}, Vals xs us -> Vals ys ws -> Vals (xs ++ ys) (us ++ ws)
 | _, _, _, _, .nil, s => s
 | _, _, _, _, .cons r t, s => .cons r (Vals.append t s)
theorem Vals.take : ∀ {xs : List V} {us : List Value} (n : Nat), Vals xs us -> Vals (xs.take n) (us.take n)
 | _, _, 0, _ => .nil
 | _, _, _ + 1, .nil => .nil
 | _, _, n + 1, .cons r t => .cons r (Vals.take n t)
theorem Vals.drop : ∀ {xs : List V} {us : List Value} (n : Nat), Vals xs us -> Vals (xs.drop n) (us.drop n)
 | _, _, 0, r => r
 | _, _, _ + 1, .nil => .nil
 | _, _, n + 1, .cons _ t => Vals.drop n t
def RelO : Option V -> Option Value -> Prop
 | some v, some u => RelV v u
 | none, none => True
 | _, _ => False
def KV {κ : Type} : List (κ × V) -> List (κ × Value) -> Prop := Paired fun (p : κ × V) (q : κ × Value) => p.1 = q.1 /\ RelV p.2 q.2
def kV : Key -> V
 | .inl i => .int i
 | .inr x => .str x
inductive HO where
 | lst (xs : List V)
 | tup (xs : List V)
 | dK (kvs : List (Key × V)) | dT (kvs : List (List Key × V))
 | set (S : Int -> Bool) (n : Nat)
 | ins (C dx : Addr) (fs : List (Str × V))
 | own (x : Addr)
 | xd (fs : List (Str × V))
 | met (f x : Addr)
 | rng (lo hi : Int)
 | frz (o : Obj) (u : HO)
 | tbl (ps : Array Value)
 | ext (φ : Heap -> Prop)
abbrev Hp := Addr -> Option HO
def upd (H : Hp) (a : Addr) (o : HO) : Hp := fun b => if b = a then some o else H b
theorem y8 {H : Hp} {a : Addr} {o : HO} : upd H a o a = some o := by unfold upd; rw [if_pos rfl]
theorem x6 {H : Hp} {a b : Addr} {o : HO} (h : b ≠ a) : upd H a o b = H b := by unfold upd; rw [if_neg h]
theorem l7 {H : Hp} {a b : Addr} {o : HO} (h : H a = some o) (h' : H b = none) : a ≠ b := by
 intro e; subst e; rw [h] at h'; cases h'
section
variable (P : Program) (w : World)
def ObjOk (H : Hp) (h : Heap) (a : Addr) : HO -> Prop
 | .lst xs => xs.length <= sizeLine /\ ∃ (its : List Value) (n : Nat), Vals xs its /\ h.get? a = some { cls := .type "list", data := .seq its.toArray n }
 | .tup xs => xs.length <= sizeLine /\ ∃ its : List Value, Vals xs its /\ IsTup h a its.toArray
 | .dK kvs => kvs.length <= sizeLine /\ (a == sysModules) = false /\ ∃ vs, KV kvs vs /\ h.DictOf (zy7 P w) a vs
 | .dT kvs => kvs.length <= sizeLine /\ (a == sysModules) = false /\ ∃ xs : List (List Key × Addr × Value),
   Paired (fun (p : List Key × V) (q : List Key × Addr × Value) => p.1 = q.1 /\ H q.2.1 = some (.tup (p.1.map kV)) /\ RelV p.2 q.2.2) kvs xs /\
   ∃ o es ep, h.get? a = some o /\ o.ExactDict /\ o.data = .dict es ep /\ es.toList = xs.map (entryOfKey (tupleKind (zy7 P w))) /\ (xs.map (·.1)).Nodup
 | .set S n => h.SetOf (intKind P w) a S n
 | .ins C dx fs => H dx = some (.own a) /\ fs.length <= 1000 /\ dx ≠ a /\ h.get? a = some (W.instObj C dx) /\
   ∃ mA, h.Ns1 dx mA /\ (∀ f, RelO (fs.lookup f) (mA f)) /\ PySem.Within mA (fs.map (·.1))
 | .own _ => ∃ o, h.get? a = some o
 | .xd fs => ∃ mA, h.Ns1 a mA /\ ∀ f, RelO (fs.lookup f) (mA f)
 | .rng lo hi => ∃ t u v, h.get? a = some { cls := .type "range", data := .fields #[.int lo t, .int hi u, .int 1 v] }
 | .frz o u => h.get? a = some o /\ ObjOk H h a u
 | .tbl ps => h.get? a = some { cls := .none, data := .fields ps }
 | .met f x => h.get? a = some (W.methodObj (.ref f) (.ref x))
 | .ext φ => φ h /\ (∃ o, h.get? a = some o) /\ ∀ h1 h2 : Heap, φ h1 -> (∀ o, h1.get? a = some o -> h2.get? a = some o) -> φ h2
def HOk (H : Hp) (h : Heap) : Prop := ∀ a o, H a = some o -> ObjOk P w H h a o
end
section
variable {P : Program} {w : World} {H H' : Hp} {h h' : Heap} {a : Addr} {o : HO}
theorem ObjOk.lt (x : ObjOk P w H h a o) : a < h.objs.size := by
 cases o with
 | lst xs => obtain ⟨_, _, _, _, e⟩ := x; exact Heap.lt_size e
 | tup xs => obtain ⟨_, _, _, p⟩ := x; exact p.lt
 | dK kvs => obtain ⟨_, _, _, _, o, _, _, e, _⟩ := x; exact Heap.lt_size e
 | dT kvs => obtain ⟨_, _, _, _, o, _, _, e, _⟩ := x; exact Heap.lt_size e
 | set S n => obtain ⟨o, _, _, _, e, _⟩ := x; exact Heap.lt_size e
 | ins C dx fs => obtain ⟨_, _, _, e, _⟩ := x; exact Heap.lt_size e
 | own y => obtain ⟨_, e⟩ := x; exact Heap.lt_size e
 | xd fs => obtain ⟨_, ⟨_, _, _, e, _⟩, _⟩ := x; exact Heap.lt_size e
 | rng lo hi => obtain ⟨_, _, _, e⟩ := x; exact Heap.lt_size e
 | frz ob u => obtain ⟨e, _⟩ := x; exact Heap.lt_size e
 | tbl ps => exact Heap.lt_size (show h.get? a = some _ from x)
 | met f y => exact Heap.lt_size (show h.get? a = some _ from x)
 | ext φ => obtain ⟨_, ⟨_, e⟩, _⟩ := x; exact Heap.lt_size e
theorem Paired.mapP {α β : Type} {F G : α -> β -> Prop} : ∀ {l₁ : List α} {l₂ : List β}, Paired F l₁ l₂ -> (∀ a b, F a b -> G a b) -> Paired G l₁ l₂
 | _, _, .nil, _ => .nil
 | _, _, .cons r t, f => .cons (f _ _ r) (Paired.mapP t f)
theorem ObjOk.stay (x : ObjOk P w H h a o) (k : ∀ b u, (b = a \/ H b = some (.own a)) -> h.get? b = some u -> h'.get? b = some u)
  (ho : ∀ b, H b = some (.own a) -> H' b = some (.own a)) (ht : ∀ b xs, H b = some (.tup xs) -> H' b = some (.tup xs)) : ObjOk P w H' h' a o := by
 induction o with
 | lst xs => obtain ⟨z, its, n, r, e⟩ := x; exact ⟨z, its, n, r, k _ _ (.inl rfl) e⟩
 | tup xs => obtain ⟨z, its, r, ob, e, c⟩ := x; exact ⟨z, its, r, ob, k _ _ (.inl rfl) e, c⟩
 | dK kvs => obtain ⟨z, y, vs, r, ob, es, ep, e, c⟩ := x; exact ⟨z, y, vs, r, ob, es, ep, k _ _ (.inl rfl) e, c⟩
 | dT kvs =>
  obtain ⟨z, y, xs, r, ob, es, ep, e, c⟩ := x
  exact ⟨z, y, xs, Paired.mapP r fun p q z => ⟨z.1, ht _ _ z.2.1, z.2.2⟩, ob, es, ep, k _ _ (.inl rfl) e, c⟩
 | set S n => obtain ⟨ob, es, ep, t, e, c⟩ := x; exact ⟨ob, es, ep, t, k _ _ (.inl rfl) e, c⟩
 | ins C dx fs =>
  obtain ⟨d, z, ne, e, mA, ⟨od, es, ep, e2, c⟩, r⟩ := x
  exact ⟨ho _ d, z, ne, k _ _ (.inl rfl) e, mA, ⟨od, es, ep, k _ _ (.inr d) e2, c⟩, r⟩
 | own y => obtain ⟨ob, e⟩ := x; exact ⟨ob, k _ _ (.inl rfl) e⟩
 | xd fs => obtain ⟨mA, ⟨od, es, ep, e, c⟩, r⟩ := x; exact ⟨mA, ⟨od, es, ep, k _ _ (.inl rfl) e, c⟩, r⟩
 | rng lo hi => obtain ⟨t, u, v, e⟩ := x; exact ⟨t, u, v, k _ _ (.inl rfl) e⟩
 | frz ob u ih => obtain ⟨e, q⟩ := x; exact ⟨k _ _ (.inl rfl) e, ih q⟩
 | tbl ps =>
  have e : h.get? a = some { cls := .none, data := .fields ps } := x
  show h'.get? a = some { cls := .none, data := .fields ps }
  exact k a _ (.inl rfl) e
 | met f y =>
  have e : h.get? a = some (W.methodObj (.ref f) (.ref y)) := x
  show h'.get? a = some (W.methodObj (.ref f) (.ref y))
  exact k a _ (.inl rfl) e
 | ext φ => obtain ⟨p, ⟨o, e⟩, st⟩ := x; exact ⟨st _ _ p fun o q => k _ _ (.inl rfl) q, ⟨o, k _ _ (.inl rfl) e⟩, st⟩
theorem HOk.lt (x : HOk P w H h) (e : H a = some o) : a < h.objs.size := (x a o e).lt
theorem HOk.fresh (x : HOk P w H h) (e : h.objs.size <= a) : H a = none := by
 cases q : H a with
 | none => rfl
 | some u => exact absurd (Nat.lt_of_lt_of_le (x.lt q) e) (Nat.lt_irrefl _)
theorem HOk.kept (x : HOk P w H h) (k : ∀ b u, h.get? b = some u -> h'.get? b = some u) : HOk P w H h' := fun a o e =>
 (x a o e).stay (fun b u _ q => k b u q) (fun _ q => q) fun _ _ q => q
theorem HOk.laid (x : HOk P w H h) (k : ∀ b u, h.get? b = some u -> h'.get? b = some u) (hp : h.objs.size <= a) (new : ObjOk P w (upd H a o) h' a o) : HOk P w (upd H a o) h' := fun b u e => by
 have hn := x.fresh hp
 by_cases hb : b = a
 ·subst hb; rw [y8] at e; cases e; exact new
 ·rw [x6 hb] at e
  exact (x b u e).stay (fun c v _ q => k c v q) (fun c q => by rw [x6 (l7 q hn)]; exact q) fun c xs q => by rw [x6 (l7 q hn)]; exact q
end
def Rd (H : Hp) (a : Addr) (u : HO) : Prop := H a = some u \/ ∃ o, H a = some (.frz o u)
theorem Rd.ok {P : Program} {w : World} {H : Hp} {h : Heap} {a : Addr} {u : HO} (r : Rd H a u) (x : HOk P w H h) : ObjOk P w H h a u := by
 rcases r with r | ⟨o, r⟩
 ·exact x a u r
 ·obtain ⟨_, q⟩ := x a _ r
  exact q
def Mut : Option HO -> Prop
 | some (.lst _) => True
 | some (.dK _) => True
 | some (.dT _) => True
 | some (.set _ _) => True
 | some (.ins _ _ _) => True
 | some (.ext _) => True
 | _ => False
section
variable {P : Program} {w : World} {H : Hp} {h h' : Heap} {x e : Addr} {o' : HO}
theorem HOk.write (ok : HOk P w H h) (mu : Mut (H x)) (he : e = x \/ H e = some (.own x)) (k : ∀ b u, b ≠ e -> h.get? b = some u -> h'.get? b = some u) (heo : ∃ u, h'.get? e = some u)
  (new : ObjOk P w (upd H x o') h' x o') : HOk P w (upd H x o') h' := fun b u q => by
 have nown : ∀ c y, H c = some (.own y) -> c ≠ x := fun c y r z => by subst z; rw [r] at mu; exact mu
 have ntup : ∀ c xs, H c = some (.tup xs) -> c ≠ x := fun c xs r z => by subst z; rw [r] at mu; exact mu
 by_cases hb : b = x
 ·subst hb; rw [y8] at q; cases q; exact new
 ·rw [x6 hb] at q
  by_cases hbe : b = e
  ·have q' : H b = some (.own x) := by
    rcases he with z | z
    ·exact absurd (hbe.trans z) hb
    ·rw [hbe]; exact z
   rw [q] at q'; cases q'
   obtain ⟨v, hv⟩ := heo
   exact ⟨v, by rw [hbe]; exact hv⟩
  ·refine (ok b u q).stay (fun c v hc r => k c v ?_ r) (fun c r => by rw [x6 (nown c b r)]; exact r) fun c xs r => by rw [x6 (ntup c xs r)]; exact r
   rcases hc with rfl | hc
   ·exact hbe
   ·rintro rfl
    rcases he with z | z
    ·exact nown c b hc z
    ·rw [hc] at z; cases z; exact hb rfl
end
structure Un (fs ex : List Addr) (H H' : Hp) (h h' : Heap) : Prop where
 keep : ∀ b o, h.get? b = some o -> H b = none -> b ∉ fs -> b ∉ ex -> h'.get? b = some o
 slot : ∀ b o, h.get? b = some o -> H b = none -> b ∈ fs -> b ∉ ex -> ∃ sl, h'.get? b = some { o with slots := sl }
 free : ∀ b o, h.get? b = some o -> H b = none -> b ∉ ex -> H' b = none
 there : ∀ b o, h.get? b = some o -> b ∉ ex -> ∃ o', h'.get? b = some o'
 tups : ∀ b xs, H b = some (.tup xs) -> H' b = some (.tup xs)
 frzs : ∀ b o u, H b = some (.frz o u) -> H' b = some (.frz o u)
 tbls : ∀ b ps, H b = some (.tbl ps) -> ∃ more, H' b = some (.tbl (ps ++ more))
section
variable {fs fs' ex ex' : List Addr} {H H1 H2 : Hp} {h h1 h2 h' : Heap} {a x e : Addr} {o : HO}
theorem Un.any (u : Un fs ex H H1 h h1) {b : Addr} {ob : Obj} (q : h.get? b = some ob) (n : H b = none) (hx : b ∉ ex) : ∃ sl, h1.get? b = some { ob with slots := sl } := by
 by_cases hb : b ∈ fs
 ·exact u.slot b ob q n hb hx
 ·exact ⟨ob.slots, u.keep b ob q n hb hx⟩
theorem Un.kept (k : ∀ b u, h.get? b = some u -> h'.get? b = some u) : Un fs ex H H h h' :=
 ⟨fun b ob q _ _ _ => k b ob q, fun b ob q _ _ _ => ⟨ob.slots, k b ob q⟩, fun _ _ _ n _ => n, fun b ob q _ => ⟨ob, k b ob q⟩, fun _ _ q => q, fun _ _ _ q => q, fun _ ps q => ⟨#[], by rw [q]; simp⟩⟩
theorem Un.refl : Un fs ex H H h h := Un.kept fun _ _ q => q
theorem Un.laid (k : ∀ b u, h.get? b = some u -> h'.get? b = some u) (hp : h.objs.size <= a) (hn : H a = none) : Un fs ex H (upd H a o) h h' where
 keep := fun b u q _ _ _ => k b u q
 slot := fun b u q _ _ _ => ⟨u.slots, k b u q⟩
 free := fun b u q n _ => by rw [x6 (Nat.ne_of_lt (Nat.lt_of_lt_of_le (Heap.lt_size q) hp))]; exact n
 there := fun b u q _ => ⟨u, k b u q⟩
 tups := fun b xs q => by rw [x6 (l7 q hn)]; exact q
 frzs := fun b u xs q => by rw [x6 (l7 q hn)]; exact q
 tbls := fun b ps q => ⟨#[], by rw [x6 (l7 q hn), q]; simp⟩
theorem Un.write (mu : Mut (H x)) (he : e = x \/ H e = some (.own x)) (k : ∀ b u, b ≠ e -> h.get? b = some u -> h'.get? b = some u) (heo : ∃ u, h'.get? e = some u) : Un fs ex H (upd H x o) h h' := by
 have hx : ∀ b, H b = none -> b ≠ x := fun b n z => by subst z; rw [n] at mu; exact mu
 have hb : ∀ b, H b = none -> b ≠ e := fun b n z => by
  subst z
  rcases he with r | r
  ·exact hx b n r
  ·rw [n] at r; cases r
 have hm : ∀ b u, H b = some u -> ¬ Mut (some u) -> b ≠ x := fun b u q nm z => by subst z; rw [q] at mu; exact nm mu
 refine ⟨fun b u q n _ _ => k b u (hb b n) q, fun b u q n _ _ => ⟨u.slots, k b u (hb b n) q⟩, fun b u q n _ => by rw [x6 (hx b n)]; exact n, fun b u q _ => ?_,
  fun b xs q => by rw [x6 (hm b _ q fun z => z)]; exact q, fun b u xs q => by rw [x6 (hm b _ q fun z => z)]; exact q, fun b ps q => ⟨#[], by rw [x6 (hm b _ q fun z => z), q]; simp⟩⟩
 by_cases hbe : b = e
 ·subst hbe; exact heo
 ·exact ⟨u, k b u hbe q⟩
end
def trk (h : Heap) (H : Hp) : List Addr := (List.range h.objs.size).filter fun a => (H a).isSome
def hidT (h : Heap) (H : Hp) : Heap := W.hideAll h (trk h H)
theorem yk1 (h : Heap) (H : Hp) : (hidT h H).objs.size = h.objs.size := W.hideAll_size _ _
theorem yc5 {h : Heap} {H : Hp} {b : Addr} {o : Obj} (e : h.get? b = some o) (n : H b = none) : (hidT h H).get? b = some o :=
 W.hideAll_get _ e fun hm => by
  have q : (H b).isSome = true := (List.mem_filter.mp hm).2
  rw [n] at q; simp at q
theorem xr1 {h : Heap} {H : Hp} {b : Addr} {o : Obj} (e : (hidT h H).get? b = some o) : h.get? b = some o /\ H b = none := by
 have e' : h.get? b = some o := W.of_hideAll (trk h H) e
 refine ⟨e', ?_⟩
 cases q : H b with
 | none => rfl
 | some x =>
  have hm : b ∈ trk h H := List.mem_filter.mpr ⟨List.mem_range.mpr (Heap.lt_size e'), by simp [q]⟩
  have z : (hidT h H).get? b = none := W.hideAll_none (trk h H) hm
  rw [z] at e; cases e
def xn4 (g h : Heap) (L : Addr) : List (Addr × Obj) := (List.range h.objs.size).filterMap fun a => if a = L \/ (g.get? a).isSome = true then none else (h.get? a).map fun o => (a, o)
def rest (g h : Heap) (L d : Addr) : List (Addr × Obj) := (xn4 g h L).filter fun p => decide (p.1 ≠ d)
end
section
structure Mod (K : W.Frag) (mg : Str -> Option Value) (base : Heap) : Prop where
 kin : K.In base
 glob : base.Ns mainGlobals mg
 blt : ∃ mb, base.Ns builtinsNs mb /\ ∀ x : Str, x ≠ "__name__" -> mb x = bootBuiltins x
 nolimit : base.NoLimit
structure Cx where
 prog : Program
 w : World
 K : W.Frag
 mg : Str -> Option Value
 base : Heap
 A : Around
 N : List Str
 s₀ : Shared
 H₀ : Hp
 env : Env
 outer : List Env
 stack : List Env
 ex : List Addr
 fn : Str -> Bool
 calm : Bool
 pn : List (Addr × Obj)
 xe : Value -> Shared -> Prop
def frs (l : List Env) : List Addr := l.filterMap (·.frame)
abbrev Cx.fs (X : Cx) : List Addr := frs X.outer
def Vis (sc : Scope) (x : Str) : Prop := sc.names.lookup x = some .local \/ sc.names.lookup x = some .cell \/ sc.names.lookup x = some .free
def Loc (sc : Scope) (x : Str) : Prop := sc.names.lookup x = some .local \/ sc.names.lookup x = some .cell
def Look (env : Env) (h : Heap) (m : Str -> Option Value) (x : Str) (u : Value) : Prop :=
 (env.kindOf x = some .local /\ m x = some u) \/ ((env.kindOf x = some .cell \/ env.kindOf x = some .free) /\ ∃ c, env.cells.lookup x = some c /\ h.IsCell c (some u))
structure Cx.Ok (X : Cx) : Prop where
 mod : Mod X.K X.mg X.base
 kind : X.env.scope.kind = .function
 glob : X.env.globals = mainGlobals
 blt : X.env.builtins = builtinsNs
 above : X.s₀.heap.objs.size <= X.env.locals
 inj : ∀ x y c, X.env.cells.lookup x = some c -> X.env.cells.lookup y = some c -> x = y
 has : ∀ x, (X.env.kindOf x = some .cell \/ X.env.kindOf x = some .free) -> ∃ c, X.env.cells.lookup x = some c
 cab : ∀ x c, X.fn x = true -> X.env.cells.lookup x = some c -> X.s₀.heap.objs.size <= c
 hd : X.calm = true -> X.A.handled = none
 frames : X.A.frames = some X.stack
 stk : X.stack = X.outer \/ (X.stack = X.env :: X.outer /\ X.env.frame = some X.env.locals)
 exf : ∀ b ∈ X.ex, b ≠ X.env.locals /\ ∀ x c, X.env.cells.lookup x = some c -> c ≠ b
 bs : ∀ b o, X.base.get? b = some o -> X.s₀.heap.get? b = some o /\ X.H₀ b = none
 bsz : X.base.objs.size <= X.s₀.heap.objs.size
 noex : ∀ b o, X.base.get? b = some o -> b ∉ X.ex
 exfs : ∀ b ∈ X.ex, b ∉ X.fs
 funs : X.s₀.heap.FunFrames X.base X.outer
 frf : ∀ b ∈ X.fs, X.H₀ b = none
structure Inv (X : Cx) (pins : List (Addr × Obj)) (σ : List (Option V)) (H : Hp) (s : Shared) : Prop where
 ok : X.Ok
 os : s.os = X.s₀.os
 bare : AllBare s.gens
 base : Un X.fs X.ex X.H₀ H X.s₀.heap s.heap
 loc : ∃ m, s.heap.Ns X.env.locals m /\ ∀ (i : Nat) (x : Str) (v : V), X.N[i]? = some x -> σ[i]? = some (some v) -> Vis X.env.scope x -> ∃ u, RelV v u /\ Look X.env s.heap m x u
 cell : ∀ x c, X.env.cells.lookup x = some c -> ∃ v, s.heap.IsCell c v
 free : H X.env.locals = none
 freeC : ∀ x c, X.env.cells.lookup x = some c -> H c = none
 pin : ∀ p ∈ X.pn ++ pins, s.heap.get? p.1 = some p.2 /\ H p.1 = none /\ p.1 ≠ X.env.locals /\ p.1 ∉ X.fs /\ ∀ v, p.2.data ≠ .cell v
 hok : HOk X.prog X.w H s.heap
 len : σ.length = X.N.length
section
variable {X : Cx} {pins : List (Addr × Obj)} {σ : List (Option V)} {H H' : Hp} {s : Shared} {h' : Heap}
theorem Cx.Ok.nofr (ok : X.Ok) {b : Addr} {o : Obj} (e : X.base.get? b = some o) : b ∉ X.fs := fun hb => by
 have := (ok.funs.mem hb).1
 rw [e] at this; cases this
theorem Inv.bs (I : Inv X pins σ H s) : ∀ b o, X.base.get? b = some o -> s.heap.get? b = some o /\ H b = none := fun b o e =>
 ⟨I.base.keep b o (I.ok.bs b o e).1 (I.ok.bs b o e).2 (I.ok.nofr e) (I.ok.noex b o e), I.base.free b o (I.ok.bs b o e).1 (I.ok.bs b o e).2 (I.ok.noex b o e)⟩
theorem Inv.bk (I : Inv X pins σ H s) : ∀ b o, X.base.get? b = some o -> s.heap.get? b = some o := fun b o e => (I.bs b o e).1
theorem Inv.mod (I : Inv X pins σ H s) : Mod X.K X.mg X.base := I.ok.mod
theorem Inv.kIn (I : Inv X pins σ H s) : X.K.In s.heap := I.ok.mod.kin.keeps I.bk
theorem Inv.lt (I : Inv X pins σ H s) : X.env.locals < s.heap.objs.size := let ⟨_, hn, _⟩ := I.loc; hn.lt
theorem Inv.sz (I : Inv X pins σ H s) : X.s₀.heap.objs.size <= s.heap.objs.size := Nat.le_trans I.ok.above (Nat.le_of_lt I.lt)
theorem Inv.nofs (I : Inv X pins σ H s) {a : Addr} (h : s.heap.objs.size <= a) : a ∉ X.fs := fun hb => by
 obtain ⟨_, o, ho, _⟩ := I.ok.funs.mem hb
 exact absurd (Nat.lt_of_lt_of_le (Heap.lt_size ho) (Nat.le_trans I.sz h)) (Nat.lt_irrefl _)
theorem Inv.cne (I : Inv X pins σ H s) : ∀ x c, X.env.cells.lookup x = some c -> c ≠ X.env.locals := fun x c e z => by
 obtain ⟨v, o, ho, hd⟩ := I.cell x c e
 obtain ⟨m, ⟨o', es, ep, ho', hd', _⟩, _⟩ := I.loc
 rw [z, ho'] at ho; cases ho; rw [hd'] at hd; cases hd
theorem Inv.funs (I : Inv X pins σ H s) : s.heap.FunFrames X.base X.outer := by
 have all : ∀ (l : List Env), (∀ b ∈ frs l, b ∈ X.fs) -> X.s₀.heap.FunFrames X.base l -> s.heap.FunFrames X.base l := by
  intro l
  induction l with
  | nil => intro _ _; trivial
  | cons env r ih =>
   intro hs hl
   obtain ⟨hk, ⟨L, o, hf, hn, ho, hd⟩, hr⟩ := hl
   have hL : L ∈ X.fs := hs L (by unfold frs; rw [filterMap_cons, hf]; exact mem_cons_self)
   obtain ⟨sl, e⟩ := I.base.slot L o ho (I.ok.frf L hL) hL fun z => I.ok.exfs L z hL
   exact ⟨hk, ⟨L, _, hf, hn, e, hd⟩, ih (fun b hb => hs b (by unfold frs; rw [filterMap_cons, hf]; exact mem_cons_of_mem _ hb)) hr⟩
 exact all X.outer (fun _ hb => hb) I.ok.funs
theorem Inv.stack (I : Inv X pins σ H s) : s.heap.FunFrames X.base X.stack := by
 rcases I.ok.stk with e | ⟨e, hf⟩
 ·rw [e]; exact I.funs
 ·rw [e]
  obtain ⟨m, hn, _⟩ := I.loc
  refine .cons (by rw [I.ok.kind]; decide) hf hn ?_ I.funs
  exact Heap.get?_none_of_le (Nat.le_trans I.ok.bsz I.ok.above)
theorem Inv.stkSub (I : Inv X pins σ H s) : ∀ b ∈ frs X.stack, b ∈ X.env.locals :: X.fs := fun b hb => by
 rcases I.ok.stk with e | ⟨e, hf⟩
 ·rw [e] at hb; exact mem_cons_of_mem _ hb
 ·rw [e] at hb
  unfold frs at hb
  rw [filterMap_cons, hf] at hb
  exact hb
theorem Inv.stkFree (I : Inv X pins σ H s) : ∀ b ∈ frs X.stack, H b = none := fun b hb => by
 rcases List.mem_cons.mp (I.stkSub b hb) with e | hb
 ·rw [e]; exact I.free
 ·obtain ⟨_, o, ho, _⟩ := I.ok.funs.mem hb
  exact I.base.free b o ho (I.ok.frf b hb) fun z => I.ok.exfs b z hb
theorem Inv.step {g' : Array GenState} {t' : Nat} {d' : Drawn} {ch : List Addr} (I : Inv X pins σ H s)
  (hch : ∀ b ∈ ch, (b ∈ X.ex \/ X.s₀.heap.objs.size <= b) /\ b ≠ X.env.locals /\ (∀ x c, X.env.cells.lookup x = some c -> c ≠ b) /\ ∀ p ∈ X.pn ++ pins, p.1 ≠ b)
  (keep : ∀ b o, b ≠ X.env.locals -> b ∉ X.fs -> b ∉ ch -> s.heap.get? b = some o -> H b = none -> h'.get? b = some o)
  (slot : ∀ b o, b ≠ X.env.locals -> b ∈ X.fs -> b ∉ ch -> s.heap.get? b = some o -> H b = none -> ∃ sl, h'.get? b = some { o with slots := sl }) (free : ∀ b o, b ∉ ch -> s.heap.get? b = some o -> H b = none -> H' b = none)
  (there : ∀ b o, b ∉ ch -> s.heap.get? b = some o -> ∃ o', h'.get? b = some o')
  (tups : ∀ b xs, H b = some (.tup xs) -> H' b = some (.tup xs)) (frzs : ∀ b o u, H b = some (.frz o u) -> H' b = some (.frz o u)) (tbls : ∀ b ps, H b = some (.tbl ps) -> ∃ more, H' b = some (.tbl (ps ++ more)))
  (ns : ∀ m, s.heap.Ns X.env.locals m -> h'.Ns X.env.locals m) (hok : HOk X.prog X.w H' h') (hg : AllBare g') :
  Inv X pins σ H' { s with heap := h', gens := g', drawn := d', toks := t' } := by
 have neL : ∀ b o, X.s₀.heap.get? b = some o -> b ≠ X.env.locals := fun b o e => Nat.ne_of_lt (Nat.lt_of_lt_of_le (Heap.lt_size e) I.ok.above)
 have neC : ∀ b o, X.s₀.heap.get? b = some o -> b ∉ X.ex -> b ∉ ch := fun b o e hx hb => by
  rcases (hch b hb).1 with z | z
  ·exact hx z
  ·exact absurd (Nat.lt_of_lt_of_le (Heap.lt_size e) z) (Nat.lt_irrefl _)
 have cellK : ∀ x c, X.env.cells.lookup x = some c -> ∀ v, s.heap.IsCell c v -> h'.IsCell c v := fun x c e v hpat => by
  obtain ⟨o, ho, hd⟩ := hpat
  have nch : c ∉ ch := fun z => (hch c z).2.2.1 x c e rfl
  by_cases hc : c ∈ X.fs
  ·obtain ⟨sl, q⟩ := slot c o (I.cne x c e) hc nch ho (I.freeC x c e)
   exact ⟨_, q, hd⟩
  ·exact ⟨o, keep c o (I.cne x c e) hc nch ho (I.freeC x c e), hd⟩
 refine ⟨I.ok, I.os, hg, ⟨fun b o e n hb hx => ?_, fun b o e n hb hx => ?_, fun b o e n hx => ?_, fun b o e hx => ?_, fun b xs e => tups b xs (I.base.tups b xs e), fun b o xs e => frzs b o xs (I.base.frzs b o xs e), fun b ps e => ?_⟩, ?_, fun x c e => ?_, ?_, fun x c e => ?_, fun p hp => ?_, hok, I.len⟩
 ·exact keep b o (neL b o e) hb (neC b o e hx) (I.base.keep b o e n hb hx) (I.base.free b o e n hx)
 ·obtain ⟨sl, e1⟩ := I.base.slot b o e n hb hx
  obtain ⟨sl', e2⟩ := slot b _ (neL b o e) hb (neC b o e hx) e1 (I.base.free b o e n hx)
  exact ⟨sl', e2⟩
 ·obtain ⟨o', e1⟩ := I.base.there b o e hx
  exact free b o' (neC b o e hx) e1 (I.base.free b o e n hx)
 ·obtain ⟨o', e1⟩ := I.base.there b o e hx
  exact there b o' (neC b o e hx) e1
 ·obtain ⟨m1, e1⟩ := I.base.tbls b ps e
  obtain ⟨m2, e2⟩ := tbls b _ e1
  exact ⟨m1 ++ m2, by rw [e2, Array.append_assoc]⟩
 ·obtain ⟨m, hn, hl⟩ := I.loc
  refine ⟨m, ns m hn, fun i x v e1 e2 e3 => ?_⟩
  obtain ⟨u, r, l⟩ := hl i x v e1 e2 e3
  refine ⟨u, r, ?_⟩
  rcases l with l | ⟨k, c, e, z⟩
  ·exact .inl l
  ·exact .inr ⟨k, c, e, cellK x c e _ z⟩
 ·obtain ⟨v, z⟩ := I.cell x c e
  exact ⟨v, cellK x c e v z⟩
 ·obtain ⟨m, ⟨o, _, _, ho, _⟩, _⟩ := I.loc
  exact free _ o (fun z => (hch _ z).2.1 rfl) ho I.free
 ·obtain ⟨v, o, ho, hd⟩ := I.cell x c e
  exact free c o (fun z => (hch c z).2.2.1 x c e rfl) ho (I.freeC x c e)
 ·obtain ⟨e, n, ne, nf, d⟩ := I.pin p hp
  have nch : p.1 ∉ ch := fun z => (hch p.1 z).2.2.2 p hp rfl
  exact ⟨keep p.1 p.2 ne nf nch e n, free p.1 p.2 nch e n, ne, nf, d⟩
theorem Inv.un {t' : Nat} (I : Inv X pins σ H s) (u : Un X.fs [] H H' s.heap h') (hok : HOk X.prog X.w H' h') : Inv X pins σ H' { s with heap := h', toks := t' } := by
 obtain ⟨m, ⟨o, es, ep, ho, r⟩, _⟩ := id I.loc
 obtain ⟨sl, hL⟩ := u.any ho I.free (by simp)
 exact I.step (g' := s.gens) (d' := s.drawn) (ch := []) (fun _ z => nomatch z) (fun b o _ hb _ e n => u.keep b o e n hb (by simp)) (fun b o _ hb _ e n => u.slot b o e n hb (by simp)) (fun b o _ e n => u.free b o e n (by simp)) (fun b o _ e => u.there b o e (by simp)) u.tups u.frzs u.tbls (fun m' hm => by
  obtain ⟨o', es', ep', ho', r'⟩ := hm
  rw [ho] at ho'; cases ho'
  exact ⟨_, es', ep', hL, r'⟩) hok I.bare
theorem Inv.call {g' : Array GenState} {t' : Nat} {d' : Drawn} {ch : List Addr} (I : Inv X pins σ H s) (u : Un (frs X.stack) ch H H' s.heap h') (hok : HOk X.prog X.w H' h') (hg : AllBare g')
  (hch : ∀ b ∈ ch, (b ∈ X.ex \/ X.s₀.heap.objs.size <= b) /\ b ≠ X.env.locals /\ (∀ x c, X.env.cells.lookup x = some c -> c ≠ b) /\ ∀ p ∈ X.pn ++ pins, p.1 ≠ b) :
  Inv X pins σ H' { s with heap := h', gens := g', drawn := d', toks := t' } := by
 obtain ⟨m, ⟨o, es, ep, ho, r⟩, _⟩ := id I.loc
 obtain ⟨sl, hL⟩ := u.any ho I.free fun z => (hch _ z).2.1 rfl
 exact I.step (ch := ch) hch (fun b o hL hb hc e n => u.keep b o e n (fun z => (List.mem_cons.mp (I.stkSub b z)).elim hL hb) hc) (fun b o _ _ hc e n => u.any e n hc) (fun b o hc e n => u.free b o e n hc) (fun b o hc e => u.there b o e hc) u.tups u.frzs u.tbls (fun m' hm => by
  obtain ⟨o', es', ep', ho', r'⟩ := hm
  rw [ho] at ho'; cases ho'
  exact ⟨_, es', ep', hL, r'⟩) hok hg
theorem Inv.turned {t' : Nat} {it : Addr} (I : Inv X pins σ H s) (k : ∀ b o, b ≠ it -> s.heap.get? b = some o -> h'.get? b = some o) (hn : H it = none) (hL : it ≠ X.env.locals)
  (h1 : it ∈ X.ex \/ X.s₀.heap.objs.size <= it) (h2 : ∀ x c, X.env.cells.lookup x = some c -> c ≠ it) (h3 : ∀ p ∈ X.pn ++ pins, p.1 ≠ it) : Inv X pins σ H { s with heap := h', toks := t' } := by
 have nit : ∀ b u, H b = some u -> b ≠ it := fun b u e z => by rw [z, hn] at e; cases e
 refine I.step (g' := s.gens) (d' := s.drawn) (ch := [it]) (fun b hb => ?_) (fun b o _ _ hc e _ => k b o (fun z => hc (by simp [z])) e) (fun b o _ _ hc e _ => ⟨o.slots, k b o (fun z => hc (by simp [z])) e⟩) (fun _ _ _ _ n => n)
  (fun b o hc e => ⟨o, k b o (fun z => hc (by simp [z])) e⟩) (fun _ _ e => e) (fun _ _ _ e => e) (fun b ps e => ⟨#[], by rw [e]; simp⟩) (fun m hm => ?_) (fun b u e => ?_) I.bare
 ·have e : b = it := by simpa using hb
  subst e
  exact ⟨h1, hL, h2, h3⟩
 ·obtain ⟨o, es, ep, ho, r⟩ := hm
  exact ⟨o, es, ep, k _ o (Ne.symm hL) ho, r⟩
 ·refine (I.hok b u e).stay (fun c v hc q => k c v ?_ q) (fun _ q => q) fun _ _ q => q
  rcases hc with z | z
  ·rw [z]; exact nit b u e
  ·exact nit c _ z
theorem Inv.tok (I : Inv X pins σ H s) (t : Nat) : Inv X pins σ H { s with toks := t } := I.un (h' := s.heap) (t' := t) Un.refl I.hok
theorem Inv.kept {t' : Nat} (I : Inv X pins σ H s) (k : ∀ b u, s.heap.get? b = some u -> h'.get? b = some u) : Inv X pins σ H { s with heap := h', toks := t' } := I.un (Un.kept k) (I.hok.kept k)
theorem Inv.laid {a : Addr} {o : HO} {t' : Nat} (I : Inv X pins σ H s) (k : ∀ b u, s.heap.get? b = some u -> h'.get? b = some u) (hp : s.heap.objs.size <= a) (new : ObjOk X.prog X.w (upd H a o) h' a o) :
  Inv X pins σ (upd H a o) { s with heap := h', toks := t' } := I.un (Un.laid k hp (I.hok.fresh hp)) (I.hok.laid k hp new)
theorem Inv.write {x e : Addr} {o : HO} {t' : Nat} (I : Inv X pins σ H s) (mu : Mut (H x)) (he : e = x \/ H e = some (.own x)) (k : ∀ b u, b ≠ e -> s.heap.get? b = some u -> h'.get? b = some u) (heo : ∃ u, h'.get? e = some u)
  (new : ObjOk X.prog X.w (upd H x o) h' x o) : Inv X pins σ (upd H x o) { s with heap := h', toks := t' } := I.un (Un.write mu he k heo) (I.hok.write mu he k heo new)
theorem Inv.pins_of {pins' : List (Addr × Obj)} (I : Inv X pins σ H s) (h : ∀ p ∈ pins', s.heap.get? p.1 = some p.2 /\ H p.1 = none /\ p.1 ≠ X.env.locals /\ p.1 ∉ X.fs /\ ∀ v, p.2.data ≠ .cell v) : Inv X pins' σ H s :=
 ⟨I.ok, I.os, I.bare, I.base, I.loc, I.cell, I.free, I.freeC, fun p hp => (List.mem_append.mp hp).elim (fun z => I.pin p (mem_append_left _ z)) (h p), I.hok, I.len⟩
theorem yz0 {N : List Str} (hN : N.Nodup) {i j : Nat} {x : Str} (a : N[i]? = some x) (b : N[j]? = some x) : i = j := by
 obtain ⟨h1, e1⟩ := List.getElem?_eq_some_iff.mp a
 obtain ⟨h2, e2⟩ := List.getElem?_eq_some_iff.mp b
 exact (getElem_inj hN).mp (e1.trans e2.symm)
theorem zo6 {M : Model} {A : Around} {E : Value -> Shared -> Prop} {i : Nat} {x : Str} {v : V} {u : Value} {Q : Unit -> Shared -> Prop} (I : Inv X pins σ H s) (hN : X.N.Nodup) (hi : X.N[i]? = some x) (hx : Loc X.env.scope x) (r : RelV v u)
  (h : ∀ s', Inv X pins (σ.set i (some v)) H s' -> (∃ a, Heap.SameBut a s.heap s'.heap /\ (a = X.env.locals \/ X.env.cells.lookup x = some a)) -> Q () s') (hf : X.fn x = true \/ X.env.scope.names.lookup x = some .local := by first | exact .inl rfl | exact .inr rfl | assumption) : wpAny M A (storeName X.env x u) Q E s := by
 obtain ⟨m, hn, hl⟩ := id I.loc
 have hcls : (X.env.scope.kind == .class || (X.env.scope.kind == .module && X.env.locals != X.env.globals)) = false := by rw [I.ok.kind]; rfl
 have hiσ : i < σ.length := by rw [I.len]; exact (List.getElem?_eq_some_iff.mp hi).1
 have cne := I.cne
 have tracked : ∀ {a : Addr} {h' : Heap}, (∃ o, s.heap.get? a = some o /\ H a = none) -> Heap.SameBut a s.heap h' -> HOk X.prog X.w H h' := fun {a h'} ha hs b ob e => by
  obtain ⟨_, _, hfree⟩ := ha
  refine (I.hok b ob e).stay (fun c w' hc q => (hs.2 c ?_).trans q) (fun _ q => q) fun _ _ q => q
  rintro rfl
  rcases hc with rfl | hc
  ·rw [hfree] at e; cases e
  ·rw [hfree] at hc; cases hc
 rcases hx with hk | hk
 ·refine wpAny_storeName_local hk hn (fun h' hn' hs => ?_) hcls
  obtain ⟨oL, _, _, hoL, _⟩ := id hn
  refine h _ ⟨I.ok, I.os, I.bare, ⟨fun b o e n hb hx => ?_, fun b o e n hb hx => ?_, I.base.free, fun b o e hx => ?_, I.base.tups, I.base.frzs, I.base.tbls⟩, ⟨_, hn', fun j y v' e1 e2 e3 => ?_⟩, fun y c e => ?_, I.free, I.freeC, fun p hp => ?_, tracked ⟨oL, hoL, I.free⟩ hs, by simpa using I.len⟩ ⟨_, hs, .inl rfl⟩
  ·exact (hs.2 b (Nat.ne_of_lt (Nat.lt_of_lt_of_le (Heap.lt_size e) I.ok.above))).trans (I.base.keep b o e n hb hx)
  ·obtain ⟨sl, e1⟩ := I.base.slot b o e n hb hx
   exact ⟨sl, (hs.2 b (Nat.ne_of_lt (Nat.lt_of_lt_of_le (Heap.lt_size e) I.ok.above))).trans e1⟩
  ·obtain ⟨o', e1⟩ := I.base.there b o e hx
   exact ⟨o', (hs.2 b (Nat.ne_of_lt (Nat.lt_of_lt_of_le (Heap.lt_size e) I.ok.above))).trans e1⟩
  ·by_cases hj : j = i
   ·subst hj
    rw [hi] at e1; cases e1
    rw [getElem?_set_self hiσ] at e2
    cases e2
    exact ⟨u, r, .inl ⟨hk, by simp⟩⟩
   ·rw [getElem?_set_ne (Ne.symm hj)] at e2
    obtain ⟨u', r', q⟩ := hl j y v' e1 e2 e3
    refine ⟨u', r', ?_⟩
    rcases q with ⟨k, e⟩ | ⟨k, c, e, z⟩
    ·refine .inl ⟨k, ?_⟩
     have : y ≠ x := fun e => hj (yz0 hN e1 (e ▸ hi))
     simp [this, e]
    ·exact .inr ⟨k, c, e, z.sameBut hs (cne y c e)⟩
  ·obtain ⟨w', z⟩ := I.cell y c e
   exact ⟨w', z.sameBut hs (cne y c e)⟩
  ·obtain ⟨e, n, ne, nf, d⟩ := I.pin p hp
   exact ⟨(hs.2 p.1 ne).trans e, n, ne, nf, d⟩
 ·have hfn : X.fn x = true := by
   rcases hf with z | z
   ·exact z
   ·rw [z] at hk; cases hk
  obtain ⟨c, hc⟩ := I.ok.has x (.inl hk)
  obtain ⟨w', z⟩ := I.cell x c hc
  refine wpAny_storeName_cell I.ok.kind hk hc z (fun h' hc' hs => ?_)
  obtain ⟨oc, hoc, hocd⟩ := id z
  refine h { s with heap := h' } ⟨I.ok, I.os, I.bare, ⟨fun b o e n hb hx => ?_, fun b o e n hb hx => ?_, I.base.free, fun b o e hx => ?_, I.base.tups, I.base.frzs, I.base.tbls⟩, ⟨m, hn.sameBut hs (Ne.symm (cne x c hc)), fun j y v' e1 e2 e3 => ?_⟩, fun y c' e => ?_, I.free, I.freeC, fun p hp => ?_, tracked ⟨oc, hoc, I.freeC x c hc⟩ hs, by simpa using I.len⟩ ⟨c, hs, .inr hc⟩
  ·exact (hs.2 b (Nat.ne_of_lt (Nat.lt_of_lt_of_le (Heap.lt_size e) (I.ok.cab x c hfn hc)))).trans (I.base.keep b o e n hb hx)
  ·obtain ⟨sl, e1⟩ := I.base.slot b o e n hb hx
   exact ⟨sl, (hs.2 b (Nat.ne_of_lt (Nat.lt_of_lt_of_le (Heap.lt_size e) (I.ok.cab x c hfn hc)))).trans e1⟩
  ·obtain ⟨o', e1⟩ := I.base.there b o e hx
   exact ⟨o', (hs.2 b (Nat.ne_of_lt (Nat.lt_of_lt_of_le (Heap.lt_size e) (I.ok.cab x c hfn hc)))).trans e1⟩
  ·by_cases hj : j = i
   ·subst hj
    rw [hi] at e1; cases e1
    rw [getElem?_set_self hiσ] at e2
    cases e2
    exact ⟨u, r, .inr ⟨.inl hk, c, hc, hc'⟩⟩
   ·rw [getElem?_set_ne (Ne.symm hj)] at e2
    obtain ⟨u', r', q⟩ := hl j y v' e1 e2 e3
    refine ⟨u', r', ?_⟩
    rcases q with q | ⟨k, c', e, z'⟩
    ·exact .inl q
    ·refine .inr ⟨k, c', e, z'.sameBut hs ?_⟩
     rintro rfl
     exact hj (yz0 hN e1 (I.ok.inj _ _ _ e hc ▸ hi))
  ·by_cases hcc : c' = c
   ·subst hcc; exact ⟨_, hc'⟩
   ·obtain ⟨w2, z2⟩ := I.cell y c' e
    exact ⟨w2, z2.sameBut hs hcc⟩
  ·obtain ⟨e, n, ne, nf, d⟩ := I.pin p hp
   refine ⟨(hs.2 p.1 ?_).trans e, n, ne, nf, d⟩
   intro q
   rw [q, hoc] at e
   have q' : oc = p.2 := Option.some.inj e
   exact d w' (by rw [<- q']; exact hocd)
theorem zb5 {M : Model} {A : Around} {E : Value -> Shared -> Prop} {i : Nat} {x : Str} {v : V} {u : Value} {Q : Unit -> Shared -> Prop} (I : Inv X pins σ H s) (hN : X.N.Nodup) (hi : X.N[i]? = some x) (hx : Loc X.env.scope x) (r : RelV v u)
  (h : ∀ s', Inv X pins (σ.set i (some v)) H s' -> Q () s') (hf : X.fn x = true \/ X.env.scope.names.lookup x = some .local := by first | exact .inl rfl | exact .inr rfl | assumption) : wpAny M A (storeName X.env x u) Q E s :=
 zo6 I hN hi hx r (fun s' I' _ => h s' I') hf
theorem Inv.call' {s' : Shared} {ch : List Addr} (I : Inv X pins σ H s) (ho : s'.os = s.os) (u : Un (frs X.stack) ch H H' s.heap s'.heap) (hok : HOk X.prog X.w H' s'.heap) (hg : AllBare s'.gens)
  (hch : ∀ b ∈ ch, (b ∈ X.ex \/ X.s₀.heap.objs.size <= b) /\ b ≠ X.env.locals /\ (∀ x c, X.env.cells.lookup x = some c -> c ≠ b) /\ ∀ p ∈ X.pn ++ pins, p.1 ≠ b) : Inv X pins σ H' s' := by
 obtain ⟨h', g', d', t', o'⟩ := s'
 have e : o' = s.os := ho
 subst e
 exact I.call (g' := g') (t' := t') (d' := d') u hok hg hch
end
abbrev XK := Value -> Option Addr -> Hp -> Prop
abbrev St := List (Option V)
abbrev VK := V -> Hp -> Prop
abbrev TE := St -> Hp -> VK -> Prop
abbrev TT := St -> Hp -> (Bool -> Hp -> Prop) -> Prop
abbrev TA := St -> Hp -> (List V -> Hp -> Prop) -> Prop
structure Ends where
 nx : St -> Hp -> Prop
 rt : VK
 bk : St -> Hp -> Prop := fun _ _ => False
 ct : St -> Hp -> Prop := fun _ _ => False
abbrev TS := Ends -> St -> Hp -> Prop
def EP (X : Cx) (pins : List (Addr × Obj)) (σ : St) (Q : VK) (u : Value) (s' : Shared) : Prop := ∃ v H', Inv X pins σ H' s' /\ RelV v u /\ Q v H'
def TP (X : Cx) (pins : List (Addr × Obj)) (σ : St) (Q : Bool -> Hp -> Prop) (b : Bool) (s' : Shared) : Prop := ∃ H', Inv X pins σ H' s' /\ Q b H'
def AP (X : Cx) (pins : List (Addr × Obj)) (σ : St) (Q : List V -> Hp -> Prop) (us : List Value) (s' : Shared) : Prop := ∃ vs H', Inv X pins σ H' s' /\ Vals vs us /\ Q vs H'
def SP (X : Cx) (pins : List (Addr × Obj)) (D : Ends) (f : Flow) (s' : Shared) : Prop :=
 match f with
 | .next => ∃ σ' H', Inv X pins σ' H' s' /\ D.nx σ' H'
 | .brk => ∃ σ' H', Inv X pins σ' H' s' /\ D.bk σ' H'
 | .cont => ∃ σ' H', Inv X pins σ' H' s' /\ D.ct σ' H'
 | .ret u => ∃ v σ' H', Inv X pins σ' H' s' /\ RelV v u /\ D.rt v H'
def PE (X : Cx) (e : Expr) (t : TE) : Prop :=
 ∀ (pins : List (Addr × Obj)) (s : Shared) (σ : St) (H : Hp) (Q : VK), Inv X pins σ H s -> t σ H Q -> wpAny (model X.prog X.w) X.A (eval e X.env) (EP X pins σ Q) X.xe s
def PT (X : Cx) (e : Expr) (t : TT) : Prop :=
 ∀ (pins : List (Addr × Obj)) (s : Shared) (σ : St) (H : Hp) (Q : Bool -> Hp -> Prop), Inv X pins σ H s -> t σ H Q -> wpAny (model X.prog X.w) X.A (isTrue e X.env (eval e X.env)) (TP X pins σ Q) X.xe s
def PW (X : Cx) (e : Expr) (t : TT) : Prop :=
 ∀ (whole : Sem Value) (pins : List (Addr × Obj)) (s : Shared) (σ : St) (H : Hp) (Q : Bool -> Hp -> Prop), Inv X pins σ H s -> t σ H Q -> wpAny (model X.prog X.w) X.A (isTrue e X.env whole) (TP X pins σ Q) X.xe s
theorem PW.pt {X : Cx} {e : Expr} {t : TT} (h : PW X e t) : PT X e t := h _
def PA (X : Cx) (es : List Expr) (t : TA) : Prop :=
 ∀ (pos : Pos) (pins : List (Addr × Obj)) (s : Shared) (σ : St) (H : Hp) (Q : List V -> Hp -> Prop), Inv X pins σ H s -> t σ H Q -> wpAny (model X.prog X.w) X.A (spliced (backTo pos (starEach es X.env))) (AP X pins σ Q) X.xe s
def PS (X : Cx) (st : Stmt) (t : TS) : Prop :=
 ∀ (pins : List (Addr × Obj)) (s : Shared) (σ : St) (H : Hp) (D : Ends), Inv X pins σ H s -> t D σ H -> wpAny (model X.prog X.w) X.A (exec st X.env) (SP X pins D) X.xe s
def PSs (X : Cx) (st : List Stmt) (t : TS) : Prop :=
 ∀ (pins : List (Addr × Obj)) (s : Shared) (σ : St) (H : Hp) (D : Ends), Inv X pins σ H s -> t D σ H -> wpAny (model X.prog X.w) X.A (execs st X.env) (SP X pins D) X.xe s
theorem thn {α : Type} {t : Sem α} {Q Q' : α -> Shared -> Prop} {M : Model} {A : Around} {E : Value -> Shared -> Prop} {s : Shared} (h : wpAny M A t Q E s) (hQ : ∀ a s, Q a s -> Q' a s) : wpAny M A t Q' E s := wpAny_mono h hQ fun _ _ x => x
end
section
section
variable {X : Cx}
def tVar (i : Nat) : TE := fun σ H Q => ∃ v, σ[i]? = some (some v) /\ Q v H
def tC (v : V) : TE := fun _ H Q => Q v H
theorem xi5 {i : Nat} {x : Str} {pos : Pos} (hN : X.N[i]? = some x) (hv : Vis X.env.scope x) (hd : (x == ("__debug__" : Str)) = false := by decide) (hcd : (x == ("__classdict__" : Str)) = false := by decide) : PE X (.Name x pos) (tVar i) := by
 intro pins s σ H Q I h
 obtain ⟨v, e, h⟩ := h
 obtain ⟨m, hn, hl⟩ := I.loc
 obtain ⟨u, r, l⟩ := hl i x v hN e hv
 have fin : EP X pins σ Q u s := ⟨v, H, I, r, h⟩
 rcases l with ⟨hk, hm⟩ | ⟨hk, c, hc, hcell⟩
 ·exact wpAny_Name (wpAny_loadName_local I.ok.kind hk hn hm fin) hd
 ·rcases hk with hk | hk
  ·exact wpAny_Name (wpAny_loadName_cell I.ok.kind hk hc hcell fin) hd
  ·exact wpAny_Name (wpAny_loadName_free I.ok.kind hk hc hcell fin hcd) hd
theorem pe_int {i j pos} : PE X (.Constant (.int i) j pos) (tC (.int i)) := fun _ _ _ H _ I h => wpAny_Constant_int ⟨.int i, H, I.tok _, ⟨_, rfl⟩, h⟩
theorem pe_bl {b j pos} : PE X (.Constant (.bool b) j pos) (tC (.bl b)) := fun _ _ _ H _ I h => Constant_bool ⟨.bl b, H, I, rfl, h⟩
theorem pe_str {x j pos} : PE X (.Constant (.str x) j pos) (tC (.str x)) := fun _ _ _ H _ I h => Calls.Constant_str ⟨.str x, H, I.tok _, ⟨_, rfl⟩, h⟩
def Gl (X : Cx) (x : Str) : Prop := X.env.kindOf x = some .globalImplicit
theorem ze6 {E : Value -> Shared -> Prop} {pins : List (Addr × Obj)} {s : Shared} {σ : St} {H : Hp} {x : Str} {u : Value} {pos : Pos} {Q : Value -> Shared -> Prop} (I : Inv X pins σ H s) (hg : Gl X x) (hm : X.mg x = some u) (h : Q u s)
  (hd : (x == ("__debug__" : Str)) = false := by decide) : wpAny (model X.prog X.w) X.A (eval (.Name x pos) X.env) Q E s :=
 Calls.Name_function_global I.ok.kind hg (Calls.loadGlobal_global (by rw [I.ok.glob]; exact I.mod.glob.keeps I.bk) hm h) hd
theorem G0 {E : Value -> Shared -> Prop} {pins : List (Addr × Obj)} {s : Shared} {σ : St} {H : Hp} {x : Str} {u : Value} {pos : Pos} {Q : Value -> Shared -> Prop} (I : Inv X pins σ H s) (hg : Gl X x) (hm : X.mg x = none) (hv : bootBuiltins x = some u) (h : Q u s)
  (hn : x ≠ "__name__" := by decide) (hd : (x == ("__debug__" : Str)) = false := by decide) : wpAny (model X.prog X.w) X.A (eval (.Name x pos) X.env) Q E s := by
 obtain ⟨mb, h1, h2⟩ := I.mod.blt
 exact Calls.Name_function_global I.ok.kind hg (Calls.loadGlobal_builtin (by rw [I.ok.glob]; exact I.mod.glob.keeps I.bk) hm (by rw [I.ok.blt]; exact h1.keeps I.bk) ((h2 x hn).trans hv) h) hd
theorem zg7 {x : Str} {v : V} {u : Value} {pos : Pos} (hg : Gl X x) (hm : X.mg x = some u) (r : RelV v u) (hd : (x == ("__debug__" : Str)) = false := by decide) : PE X (.Name x pos) (tC v) :=
 fun _ _ _ H _ I h => ze6 I hg hm ⟨v, H, I, r, h⟩ hd
variable {a b : Expr} {ta tb : TE} {pos : Pos}
def tB (t : TE) : TT := fun σ H Q => t σ H fun x H1 => ∃ c, x = .bl c /\ Q c H1
variable {tA tB' : TT} {rest : List Expr}
def tAnd (t u : TT) : TT := fun σ H Q => t σ H fun c H1 => if c = true then u σ H1 Q else Q false H1
def tOr (t u : TT) : TT := fun σ H Q => t σ H fun c H1 => if c = true then Q true H1 else u σ H1 Q
def tNot (t : TT) : TT := fun σ H Q => t σ H fun c H1 => Q (!c) H1
theorem yr8 (ha : PT X a tA) : PW X (.BoolOp .And [a] pos) tA := by
 intro wh pins s σ H Q I h
 refine isTrue_and (thn (ha pins s σ H Q I h) fun c s1 e => ?_)
 cases c with
 | true => exact isTrue_and_nil e
 | false => exact e
theorem xj9 (ha : PT X a tA) : PW X (.BoolOp .Or [a] pos) tA := by
 intro wh pins s σ H Q I h
 refine isTrue_or (thn (ha pins s σ H Q I h) fun c s1 e => ?_)
 cases c with
 | false => exact isTrue_or_nil e
 | true => exact e
theorem ya9 (ha : PT X a tA) (hb : PW X (.BoolOp .And (b :: rest) pos) tB') : PW X (.BoolOp .And (a :: b :: rest) pos) (tAnd tA tB') := by
 intro wh pins s σ H Q I h
 refine isTrue_and (thn (ha pins s σ H _ I h) fun c s1 hpat => ?_)
 obtain ⟨H1, I1, q1⟩ := hpat
 cases c with
 | true => exact hb wh pins s1 σ H1 Q I1 q1
 | false => exact ⟨H1, I1, q1⟩
theorem wz6 (ha : PT X a tA) (hb : PW X (.BoolOp .Or (b :: rest) pos) tB') : PW X (.BoolOp .Or (a :: b :: rest) pos) (tOr tA tB') := by
 intro wh pins s σ H Q I h
 refine isTrue_or (thn (ha pins s σ H _ I h) fun c s1 hpat => ?_)
 obtain ⟨H1, I1, q1⟩ := hpat
 cases c with
 | true => exact ⟨H1, I1, q1⟩
 | false => exact hb wh pins s1 σ H1 Q I1 q1
theorem xz3 (ha : PT X a tA) : PT X (.UnaryOp .Not a pos) (tNot tA) := by
 intro pins s σ H Q I h
 exact isTrue_not (ha pins s σ H (fun c H1 => Q (!c) H1) I h)
def xa6 (ta tb : TE) : TE := fun σ H Q => ta σ H fun x H1 => ∃ c, x = .bl c /\ if c = true then tb σ H1 Q else Q (.bl false) H1
theorem xi7 {op} {t : TE} (h : PE X a t) : PE X (.BoolOp op [a] pos) t := fun pins s σ H Q I hw => BoolOp_one (h pins s σ H Q I hw)
theorem xi8 (ha : PE X a ta) (hb : PE X (.BoolOp .And (b :: rest) pos) tb) : PE X (.BoolOp .And (a :: b :: rest) pos) (xa6 ta tb) := by
 intro pins s σ H Q I h
 refine BoolOp_and (thn (ha pins s σ H _ I h) fun v s1 hpat => ?_)
 obtain ⟨x, H1, I1, r1, q1⟩ := hpat
 obtain ⟨c, rfl, q1⟩ := q1
 cases r1
 refine wpAny_truthy_bool ?_
 cases c with
 | true => exact hb pins s1 σ H1 Q I1 q1
 | false => exact ⟨.bl false, H1, I1, rfl, q1⟩
def tIf (t : TT) (ta tb : TE) : TE := fun σ H Q => t σ H fun c H1 => if c = true then ta σ H1 Q else tb σ H1 Q
theorem yf7 {c : Expr} (hc : PT X c tA) (ha : PE X a ta) (hb : PE X b tb) : PE X (.IfExp c a b pos) (tIf tA ta tb) := by
 intro pins s σ H Q I h
 refine wpAny_IfExp (thn (hc pins s σ H _ I h) fun d s1 hpat => ?_)
 obtain ⟨H1, I1, q1⟩ := hpat
 cases d with
 | true => exact ha pins s1 σ H1 Q I1 q1
 | false => exact hb pins s1 σ H1 Q I1 q1
end
end
section
def SqL (K : W.Frag) (H : Hp) (a : Addr) (xs : List V) : Prop :=
 Rd H a (.lst xs) \/
  ∃ (o : Obj) (its : Array Value) (n : Nat), K.lookup a = some o /\ o.cls = .type "list" /\ o.dict = none /\ o.data = .seq its n /\ its.size <= sizeLine /\ Vals xs its.toList
def SqT (K : W.Frag) (H : Hp) (a : Addr) (xs : List V) : Prop :=
 Rd H a (.tup xs) \/
  ∃ (o : Obj) (its : Array Value) (n : Nat), K.lookup a = some o /\ o.cls = .type "tuple" /\ o.data = .seq its n /\ its.size <= sizeLine /\ Vals xs its.toList
def absV : Value -> Option V
 | .none => some .non
 | .bool b => some (.bl b)
 | .int i _ => some (.int i)
 | .str x _ => some (.str x)
 | .bytes b _ => some (.byt b)
 | .float b _ => some (.flt b)
 | .ref a => some (.ref a)
 | .type n => some (.ty n)
 | _ => none
theorem RelV.abs {x : V} {u : Value} (r : RelV x u) : absV u = some x := by
 cases x with
 | non => cases r; rfl
 | bl _ => cases r; rfl
 | int _ => obtain ⟨t, rfl⟩ := r; rfl
 | str _ => obtain ⟨t, rfl⟩ := r; rfl
 | byt _ => obtain ⟨t, rfl⟩ := r; rfl
 | flt _ => obtain ⟨t, rfl⟩ := r; rfl
 | ref _ => cases r; rfl
 | ty _ => cases r; rfl
theorem RelV.inj {x y : V} {u : Value} (r : RelV x u) (q : RelV y u) : x = y := Option.some.inj (r.abs.symm.trans q.abs)
theorem Vals.inj : ∀ {xs ys : List V} {us : List Value}, Vals xs us -> Vals ys us -> xs = ys
 | _, _, _, .nil, .nil => rfl
 | _, _, _, .cons r t, .cons r' t' => by rw [r.inj r', Vals.inj t t']
section
variable {X : Cx} {pins : List (Addr × Obj)} {σ : St} {H : Hp} {s : Shared} {a : Addr} {xs ys : List V}
theorem SqL.of {K : W.Frag} (h : H a = some (.lst xs)) : SqL K H a xs := .inl (.inl h)
theorem SqT.of {K : W.Frag} (h : H a = some (.tup xs)) : SqT K H a xs := .inl (.inl h)
theorem Inv.list (I : Inv X pins σ H s) (h : SqL X.K H a xs) : ∃ its : List Value, Vals xs its /\ PlainL s.heap a its.toArray /\ xs.length <= sizeLine := by
 rcases h with h | ⟨o, its, n, hk, hc, hd, hs, hz, r⟩
 ·obtain ⟨z, its, n, r, e⟩ := h.ok I.hok
  exact ⟨its, r, ⟨_, n, e, rfl, rfl, rfl⟩, z⟩
 ·refine ⟨its.toList, r, ⟨o, n, I.kIn a o hk, hc, hd, by simpa using hs⟩, ?_⟩
  have e := r.length
  simp only [Array.length_toList] at e
  omega
theorem Inv.tuple (I : Inv X pins σ H s) (h : SqT X.K H a xs) : ∃ its : List Value, Vals xs its /\ IsTup s.heap a its.toArray /\ xs.length <= sizeLine := by
 rcases h with h | ⟨o, its, n, hk, hc, hs, hz, r⟩
 ·obtain ⟨z, its, r, p⟩ := h.ok I.hok
  exact ⟨its, r, p, z⟩
 ·refine ⟨its.toList, r, ⟨o, I.kIn a o hk, hc, n, by simpa using hs⟩, ?_⟩
  have e := r.length
  simp only [Array.length_toList] at e
  omega
theorem Inv.list_inj (I : Inv X pins σ H s) (h : SqL X.K H a xs) (h' : SqL X.K H a ys) : xs = ys := by
 obtain ⟨its, r, ⟨o, n, e, _, _, d⟩, _⟩ := I.list h
 obtain ⟨its', r', ⟨o', n', e', _, _, d'⟩, _⟩ := I.list h'
 rw [e] at e'; cases e'
 rw [d] at d'
 injection d' with d1 _
 have : its = its' := by simpa using congrArg Array.toList d1
 subst this
 exact r.inj r'
theorem Inv.tuple_inj (I : Inv X pins σ H s) (h : SqT X.K H a xs) (h' : SqT X.K H a ys) : xs = ys := by
 obtain ⟨its, r, ⟨o, e, _, n, d⟩, _⟩ := I.tuple h
 obtain ⟨its', r', ⟨o', e', _, n', d'⟩, _⟩ := I.tuple h'
 rw [e] at e'; cases e'
 rw [d] at d'
 injection d' with d1 _
 have : its = its' := by simpa using congrArg Array.toList d1
 subst this
 exact r.inj r'
end
abbrev Cx.wish (X : Cx) (E : Value -> Shared -> Prop) : Cx := { X with xe := E }
abbrev Cx.nox (X : Cx) : Cx := X.wish fun _ _ => False
theorem Cx.Ok.wish {X : Cx} (ok : X.Ok) (E : Value -> Shared -> Prop) : (X.wish E).Ok :=
 ⟨ok.mod, ok.kind, ok.glob, ok.blt, ok.above, ok.inj, ok.has, ok.cab, ok.hd, ok.frames, ok.stk, ok.exf, ok.bs, ok.bsz, ok.noex, ok.exfs, ok.funs, ok.frf⟩
theorem Cx.Ok.unwish {X : Cx} {E : Value -> Shared -> Prop} (ok : (X.wish E).Ok) : X.Ok :=
 ⟨ok.mod, ok.kind, ok.glob, ok.blt, ok.above, ok.inj, ok.has, ok.cab, ok.hd, ok.frames, ok.stk, ok.exf, ok.bs, ok.bsz, ok.noex, ok.exfs, ok.funs, ok.frf⟩
section
variable {X : Cx} {pins : List (Addr × Obj)} {σ : St} {H : Hp} {s : Shared} {E : Value -> Shared -> Prop}
theorem Inv.wish (I : Inv X pins σ H s) (E : Value -> Shared -> Prop) : Inv (X.wish E) pins σ H s := ⟨I.ok.wish E, I.os, I.bare, I.base, I.loc, I.cell, I.free, I.freeC, I.pin, I.hok, I.len⟩
theorem Inv.unwish (I : Inv (X.wish E) pins σ H s) : Inv X pins σ H s := ⟨I.ok.unwish, I.os, I.bare, I.base, I.loc, I.cell, I.free, I.freeC, I.pin, I.hok, I.len⟩
theorem SP.unwish {D : Ends} {f : Flow} {s' : Shared} (h : SP (X.wish E) pins D f s') : SP X pins D f s' := by
 cases f with
 | next => obtain ⟨σ', H', I, q⟩ := h; exact ⟨σ', H', I.unwish, q⟩
 | brk => obtain ⟨σ', H', I, q⟩ := h; exact ⟨σ', H', I.unwish, q⟩
 | cont => obtain ⟨σ', H', I, q⟩ := h; exact ⟨σ', H', I.unwish, q⟩
 | ret u => obtain ⟨v, σ', H', I, r, q⟩ := h; exact ⟨v, σ', H', I.unwish, r, q⟩
theorem PSs.nox {st : List Stmt} {t : TS} (h : PSs X.nox st t) : PSs X st t := fun pins s σ H D I hw =>
 wpAny_mono (h pins s σ H D (I.wish _) hw) (fun _ _ q => q.unwish) fun _ _ z => False.elim z
end
section
variable {X : Cx} {st : Stmt} {rest : List Stmt} {t u : TS} {e : Expr} {te : TE} {pos : Pos}
def xa5 : TS := fun D σ H => D.nx σ H
def tSeq (t u : TS) : TS := fun D σ H => t { D with nx := u D } σ H
theorem pss_nil : PSs X [] xa5 := fun _ _ σ H _ I h => wpAny_execs_nil ⟨σ, H, I, h⟩
theorem B9 (h1 : PS X st t) (h2 : PSs X rest u) : PSs X (st :: rest) (tSeq t u) := by
 intro pins s σ H D I h
 refine wpAny_execs_cons (thn (h1 pins s σ H { D with nx := u D } I h) fun f s1 q => ?_)
 cases f with
 | next =>
  obtain ⟨σ', H', I', q⟩ := q
  exact h2 pins s1 σ' H' D I' q
 | ret v => exact q
 | brk => exact q
 | cont => exact q
theorem zr4 (h1 : PS X st t) : PSs X [st] t := by
 intro pins s σ H D I h
 refine wpAny_execs_cons (thn (h1 pins s σ H D I h) fun f s1 q => ?_)
 cases f with
 | next => exact wpAny_execs_nil q
 | ret v => exact q
 | brk => exact q
 | cont => exact q
theorem Inv.quiet {pins : List (Addr × Obj)} {σ : St} {H : Hp} {s : Shared} (I : Inv X pins σ H s) : interactive X.env = false := by simp [interactive, I.ok.kind]
def xk7 (te : TE) : TS := fun D σ H => te σ H fun _ H1 => D.nx σ H1
theorem Q5 (he : PE X e te) (hs : swapsWith e none pos.line X.env = pure false := by rfl) : PS X (.Expr e pos) (xk7 te) := by
 intro pins s σ H D I h
 exact wpAny_Expr_any (thn (he pins s σ H _ I h) fun v s1 ⟨x, H1, I1, r1, q1⟩ => ⟨σ, H1, I1, q1⟩) I.quiet hs
def tRet (te : TE) : TS := fun D σ H => te σ H D.rt
theorem Q4 (he : PE X e te) : PS X (.Return (some e) pos) (tRet te) := by
 intro pins s σ H D I h
 exact wpAny_Return_some (thn (he pins s σ H _ I h) fun v s1 ⟨x, H1, I1, r1, q1⟩ => ⟨x, σ, H1, I1, r1, q1⟩)
def tIfS (c : TT) (t u : TS) : TS := fun D σ H => c σ H fun b H1 => if b = true then t D σ H1 else u D σ H1
theorem yf2 {c : Expr} {a b : List Stmt} {tc : TT} (hc : PT X c tc) (ha : PSs X a t) (hb : PSs X b u) : PS X (.If c a b pos) (tIfS tc t u) := by
 intro pins s σ H D I h
 refine wpAny_If (thn (hc pins s σ H _ I h) fun d s1 hpat => ?_)
 obtain ⟨H1, I1, q1⟩ := hpat
 cases d with
 | true => exact ha pins s1 σ H1 D I1 q1
 | false => exact hb pins s1 σ H1 D I1 q1
def xk3 : TS := fun _ _ _ => False
theorem ps_never : PS X st xk3 := fun _ _ _ _ _ _ h => h.elim
end
abbrev TG := V -> St -> Hp -> (St -> Hp -> Prop) -> Prop
abbrev TGs := List V -> St -> Hp -> (St -> Hp -> Prop) -> Prop
def PG (X : Cx) (target : Expr) (t : TG) : Prop :=
 ∀ (pins : List (Addr × Obj)) (s : Shared) (σ : St) (H : Hp) (v : V) (u : Value) (Q : St -> Hp -> Prop), Inv X pins σ H s -> RelV v u -> t v σ H Q ->
  wpAny (model X.prog X.w) X.A (assign target X.env u) (fun _ s' => ∃ σ' H', Inv X pins σ' H' s' /\ Q σ' H') X.xe s
def PGs (X : Cx) (ts : List Expr) (t : TGs) : Prop :=
 ∀ (pins : List (Addr × Obj)) (s : Shared) (σ : St) (H : Hp) (vs : List V) (us : List Value) (Q : St -> Hp -> Prop), Inv X pins σ H s -> Vals vs us -> t vs σ H Q ->
  wpAny (model X.prog X.w) X.A (assignInOrder ((assignEach ts X.env).map (·.2)) us) (fun _ s' => ∃ σ' H', Inv X pins σ' H' s' /\ Q σ' H') X.xe s
abbrev TSet := V -> V -> V -> Hp -> (Hp -> Prop) -> Prop
def PSet (X : Cx) (t : TSet) : Prop :=
 ∀ (pins : List (Addr × Obj)) (s : Shared) (σ : St) (H : Hp) (o i v : V) (ov iv u : Value) (Q : Hp -> Prop), Inv X pins σ H s -> RelV o ov -> RelV i iv -> RelV v u -> t o i v H Q ->
  wpAny (model X.prog X.w) X.A (setItem ov iv u) (fun _ s' => ∃ H', Inv X pins σ H' s' /\ Q H') X.xe s
section
variable {X : Cx} {pos : Pos}
def V2 (i : Nat) : TG := fun v σ H Q => Q (σ.set i (some v)) H
theorem x9 {i : Nat} {x : Str} (hN : X.N.Nodup) (hi : X.N[i]? = some x) (hx : Loc X.env.scope x) (hf : X.fn x = true \/ X.env.scope.names.lookup x = some .local := by first | exact .inl rfl | exact .inr rfl | assumption) : PG X (.Name x pos) (V2 i) := by
 intro pins s σ H v u Q I r h
 exact wpAny_assign_Name (zb5 I hN hi hx r (fun s' I' => ⟨_, H, I', h⟩) hf)
def gNil : TGs := fun vs σ H Q => vs = [] /\ Q σ H
def yc7 (t : TG) (u : TGs) : TGs := fun vs σ H Q => ∃ v r, vs = v :: r /\ t v σ H fun σ' H' => u r σ' H' Q
theorem f6 : PGs X [] gNil := by
 intro pins s σ H vs us Q I r h
 obtain ⟨e, h⟩ := h
 subst e
 cases r
 exact assignInOrder_nil ⟨σ, H, I, h⟩
theorem w9 {e : Expr} {es : List Expr} {t : TG} {u : TGs} (h1 : PG X e t) (h2 : PGs X es u)
  (hs : (assignEach (e :: es) X.env).map (·.2) = assign e X.env :: (assignEach es X.env).map (·.2) := by rfl) : PGs X (e :: es) (yc7 t u) := by
 intro pins s σ H vs us Q I r h
 obtain ⟨v, vr, e1, h⟩ := h
 subst e1
 cases r with
 | cons r rr =>
  rw [hs]
  refine assignInOrder_cons (thn (h1 pins s σ H _ _ _ I r h) fun _ s1 hpat => ?_)
  obtain ⟨σ1, H1, I1, q1⟩ := hpat
  exact h2 pins s1 σ1 H1 _ _ Q I1 rr q1
def gTup (K : W.Frag) (n : Nat) (t : TGs) : TG := fun v σ H Q => ∃ a xs, v = .ref a /\ SqT K H a xs /\ xs.length = n /\ t xs σ H Q
theorem X4 {es : List Expr} {k : Nat} {t : TGs} {n : Nat} (hc : X.calm = true) (h : PGs X es t)
  (hn : (assignEach es X.env).length = n := by rfl) (hst : (assignEach es X.env).findIdx? (·.1) = none := by rfl) : PG X (.Tuple es k pos) (gTup X.K n t) := by
 intro pins s σ H v u Q I r hw
 obtain ⟨a, xs, e1, hq, hl, hw⟩ := hw
 subst e1
 cases r
 obtain ⟨its, rv, ht, hz⟩ := I.tuple hq
 refine assign_Tuple_tuple (I.ok.hd hc) ht (by simp [hn, <- hl, rv.length]) hst fun h' hx => ?_
 have I1 : Inv X pins σ H { s with heap := h' } := I.kept (t' := s.toks) fun b o e => hx b o (Nat.ne_of_lt (Heap.lt_size e)) e
 exact h pins _ σ H xs _ Q I1 (by simpa using rv) hw
def gSub (to ti : TE) (t : TSet) : TG := fun v σ H Q => to σ H fun o H1 => ti σ H1 fun i H2 => t o i v H2 fun H3 => Q σ H3
theorem J0 {o i : Expr} {to ti : TE} {t : TSet} (ho : PE X o to) (hi : PE X i ti) (hs : PSet X t)
  (ha : ∀ v, assign (.Subscript o i pos) X.env v = (do
   let ov ← holding [v] (eval o X.env)
   let iv ← holding [v, ov] (eval i X.env)
   standAt pos
   holding [v, ov, iv] (setItem ov iv v)
   release [v, ov, iv] []) := by intro _; rfl) : PG X (.Subscript o i pos) (gSub to ti t) := by
 intro pins s σ H v u Q I r h
 rw [ha]
 refine wpAny_bind (wpAny_holding (thn (ho pins s σ H _ I h) fun ov s1 hpat => ?_))
 obtain ⟨x, H1, I1, r1, q1⟩ := hpat
 refine wpAny_bind (wpAny_holding (thn (hi pins s1 σ H1 _ I1 q1) fun iv s2 hpat => ?_))
 obtain ⟨y, H2, I2, r2, q2⟩ := hpat
 refine wpAny_bind (wpAny_standAt (wpAny_bind (wpAny_holding (thn (hs pins s2 σ H2 x y v ov iv u _ I2 r1 r2 r q2) fun _ s3 hpat => ?_))))
 obtain ⟨H3, I3, q3⟩ := hpat
 exact wpAny_release ⟨σ, H3, I3, q3⟩
def tAsg (te : TE) (g : TG) : TS := fun D σ H => te σ H fun x H1 => g x σ H1 D.nx
theorem Z6 {tg e : Expr} {te : TE} {g : TG} (he : PE X e te) (hg : PG X tg g) (hs : swapsWithSole [tg] e pos.line X.env = pure false := by rfl) (hw : swappedStores [tg] e X.env = pure none := by rfl)
  (h1 : (assignEach [tg] X.env).map (·.2) = [assign tg X.env] := by rfl) : PS X (.Assign [tg] e pos) (tAsg te g) := by
 intro pins s σ H D I h
 refine wpAny_Assign_stores (thn (he pins s σ H _ I h) fun v s1 hpat => ?_) hs hw
 obtain ⟨x, H1, I1, r1, q1⟩ := hpat
 rw [h1]
 exact thn (hg pins s1 σ H1 x v _ I1 r1 q1) fun _ s2 q => q
theorem zt2 {i : Nat} {x : Str} {e : Expr} {te : TE} {pos' : Pos} (hN : X.N.Nodup) (hi : X.N[i]? = some x) (hx : Loc X.env.scope x) (he : PE X e te) (hs : swapsWith e (some (.Name x pos')) pos.line X.env = pure false := by rfl) (hf : X.fn x = true \/ X.env.scope.names.lookup x = some .local := by first | exact .inl rfl | exact .inr rfl | assumption) :
  PS X (.Assign [.Name x pos'] e pos) (tAsg te (V2 i)) := by
 intro pins s σ H D I h
 refine wpAny_Assign_Name (thn (he pins s σ H _ I h) fun v s1 hpat => ?_) hs
 obtain ⟨y, H1, I1, r1, q1⟩ := hpat
 exact zb5 I1 hN hi hx r1 (fun s2 I2 => ⟨_, H1, I2, q1⟩) hf
end
section
variable {X : Cx} {pos : Pos}
def xk2 (c : TT) (tb : TS) : TS := fun D σ H => ∃ W : Nat -> St -> Hp -> Prop, (∃ m, W m σ H) /\ ∀ m σ H, W m σ H ->
 c σ H fun b H1 => if b = true then ∃ N : St -> Hp -> Prop, (∀ σ' H', N σ' H' -> ∃ m', m' < m /\ W m' σ' H') /\ tb { D with nx := N, ct := N, bk := D.nx } σ H1 else D.nx σ H1
theorem yf1 {c : Expr} {body : List Stmt} {tc : TT} {tb : TS} (hp : PassesOwn (model X.prog X.w) X.A X.env X.xe) (hc : PT X c tc) (hb : PSs X body tb) : PS X (.While c body [] pos) (xk2 tc tb) := by
 intro pins s σ H D I h
 obtain ⟨W, ⟨m0, w0⟩, turn⟩ := h
 refine wpAny_While (codeAny_whileLoop (fun n s' => ∃ σ' H', Inv X pins σ' H' s' /\ W n σ' H') ?_ m0 ⟨σ, H, I, w0⟩)
 rintro n s1 ⟨σ1, H1, I1, w1⟩
 refine wpAny_passesOwn hp (thn (hc pins s1 σ1 H1 _ I1 (turn n σ1 H1 w1)) fun b s2 hpat => ?_)
 obtain ⟨H2, I2, q2⟩ := hpat
 cases b with
 | true =>
  obtain ⟨N, hN, q2⟩ := q2
  rw [if_pos rfl]
  refine wpAny_passesOwn hp (thn (hb pins s2 σ1 H2 _ I2 q2) fun f s3 q3 => ?_)
  cases f with
  | next =>
   obtain ⟨σ3, H3, I3, n3⟩ := q3
   obtain ⟨m', hm, w3⟩ := hN σ3 H3 n3
   exact ⟨m', hm, σ3, H3, I3, w3⟩
  | cont =>
   obtain ⟨σ3, H3, I3, n3⟩ := q3
   obtain ⟨m', hm, w3⟩ := hN σ3 H3 n3
   exact ⟨m', hm, σ3, H3, I3, w3⟩
  | brk => exact q3
  | ret v => exact q3
 | false =>
  rw [if_neg Bool.false_ne_true]
  exact wpAny_execs_nil ⟨σ1, H2, I2, q2⟩
end
structure It where
 go : Nat -> Hp -> Prop
 yld : Nat -> Hp -> V -> Hp -> Prop
 stop : Nat -> Hp -> Prop
def FpOk (X : Cx) (pins : List (Addr × Obj)) (H : Hp) (b : Addr) : Prop :=
 H b = none /\ b ≠ X.env.locals /\ b ∉ X.fs /\ (b ∈ X.ex \/ X.s₀.heap.objs.size <= b) /\ (∀ x c, X.env.cells.lookup x = some c -> c ≠ b) /\ ∀ p ∈ X.pn ++ pins, p.1 ≠ b
theorem Inv.fpOk {X : Cx} {pins : List (Addr × Obj)} {σ : St} {H H' : Hp} {s : Shared} {b : Addr} (I : Inv X pins σ H s) (hb : s.heap.objs.size <= b) (hn : H' b = none) : FpOk X pins H' b := by
 refine ⟨hn, Nat.ne_of_gt (Nat.lt_of_lt_of_le I.lt hb), I.nofs hb, .inr (Nat.le_trans I.sz hb), fun x c e z => ?_, fun p hp z => ?_⟩
 ·obtain ⟨v, q⟩ := I.cell x c e
  exact absurd (Nat.lt_of_lt_of_le q.lt (by rw [z]; exact hb)) (Nat.lt_irrefl _)
 ·exact absurd (Nat.lt_of_lt_of_le (Heap.lt_size (I.pin p hp).1) (by rw [z]; exact hb)) (Nat.lt_irrefl _)
structure Turn (P : Program) (w : World) (K : W.Frag) (tg : Expr) (J : It) (fp : List Addr) (it : Addr) (tn : Nat -> Heap -> Prop) : Prop where
 mem : it ∈ fp
 obj : ∀ i h, tn i h -> ∀ b ∈ fp, ∃ o, h.get? b = some o /\ ∀ v, o.data ≠ .cell v
 keep : ∀ i h h', tn i h -> (∀ b ∈ fp, ∀ o, h.get? b = some o -> h'.get? b = some o) -> tn i h'
 item : ∀ (X : Cx), X.prog = P -> X.w = w -> X.K = K -> X.calm = true -> ∀ (i : Nat) (pins : List (Addr × Obj)) (s : Shared) (σ : St) (H : Hp) (E : Value -> Shared -> Prop), Inv X pins σ H s -> (∀ b ∈ fp, FpOk X pins H b) -> tn i s.heap -> J.go i H ->
  wpAny (model P w) X.A (pyNext (.ref it)) (fun r s1 => ∃ u, r = some u /\
   wpAny (model P w) X.A (letOwnedTupleGo tg (.ref it) u) (fun _ s2 => ∃ x H', Inv X pins σ H' s2 /\ RelV x u /\ J.yld i H x H' /\ tn (i + 1) s2.heap /\ ∀ b ∈ fp, H' b = none) E s1) E s
 done : ∀ (X : Cx), X.prog = P -> X.w = w -> X.K = K -> X.calm = true -> ∀ (i : Nat) (pins : List (Addr × Obj)) (s : Shared) (σ : St) (H : Hp) (E : Value -> Shared -> Prop), Inv X pins σ H s -> (∀ b ∈ fp, FpOk X pins H b) -> tn i s.heap -> J.stop i H ->
  wpAny (model P w) X.A (pyNext (.ref it)) (fun r s1 => r = none /\ Inv X pins σ H s1) E s
 self : ∀ (A : Around) (i : Nat) (s : Shared) (Q : Value -> Shared -> Prop) (E : Value -> Shared -> Prop), tn i s.heap -> Q (.ref it) s -> wpAny (model P w) A (pyIter (.ref it)) Q E s
abbrev TI := St -> Hp -> (It -> Hp -> Prop) -> Prop
def PIE (X : Cx) (pins : List (Addr × Obj)) (σ : St) (tg : Expr) (R : It -> Hp -> Prop) (itv : Value) (s2 : Shared) : Prop :=
 ∃ (it : Addr) (fp : List Addr) (tn : Nat -> Heap -> Prop) (J : It) (H' : Hp), itv = .ref it /\ Inv X pins σ H' s2 /\ Turn X.prog X.w X.K tg J fp it tn /\ tn 0 s2.heap /\ (∀ b ∈ fp, FpOk X pins H' b) /\ R J H'
def PI (X : Cx) (tg iter : Expr) (wi : TI) : Prop :=
 ∀ (pins : List (Addr × Obj)) (s : Shared) (σ : St) (H : Hp) (R : It -> Hp -> Prop), Inv X pins σ H s -> wi σ H R ->
  wpAny (model X.prog X.w) X.A (eval iter X.env) (fun v s1 => wpAny (model X.prog X.w) X.A (pyIter v) (PIE X pins σ tg R) X.xe s1) X.xe s
theorem xq7 {M : Model} {A : Around} {E : Value -> Shared -> Prop} {s : Shared} {tg : Expr} {it : Addr} {u : Value} {o : Obj} {n : String} {vs : Array Value} {Q : Unit -> Shared -> Prop} (ho : s.heap.get? it = some o) (hc : o.cls = .type n) (hd : o.data = .fields vs)
  (hn : ["enumerate", "zip", "dict_itemiterator", "dict_reverseitemiterator", "odict_iterator", "itertools.zip_longest", "itertools.pairwise"].contains n = false) (hQ : Q () s) : wpAny M A (letOwnedTupleGo tg (.ref it) u) Q E s := by
 unfold letOwnedTupleGo
 cases tg <;> first
  | exact wpAny_pure hQ
  | (cases u <;> first
    | exact wpAny_pure hQ
    | (refine wpAny_bind (wpAny_load ho ?_)
       rw [hc, hd]
       show wpAny M A (if (["enumerate", "zip", "dict_itemiterator", "dict_reverseitemiterator", "odict_iterator", "itertools.zip_longest", "itertools.pairwise"].contains n && vs[0]? == some (rawInt _)) = true then _ else _) Q E s
       rw [if_neg (by intro h; rw [hn, Bool.false_and] at h; cases h)]
       exact wpAny_pure hQ))
def Itl (K : W.Frag) (a : Addr) : It :=
 ⟨fun i H => ∃ xs x, SqL K H a xs /\ xs[i]? = some x, fun i H x H' => H' = H /\ ∀ xs, SqL K H a xs -> xs[i]? = some x, fun i H => ∃ xs, SqL K H a xs /\ xs.length <= i⟩
def Itr (lo : Int) (n : Nat) : It := ⟨fun i _ => i < n, fun i H x H' => H' = H /\ x = .int (lo + i), fun i _ => n <= i⟩
theorem ys2 {P : Program} {w : World} {K : W.Frag} {tg : Expr} (a it : Addr) : Turn P w K tg (Itl K a) [it] it (fun i h => h.IsListIter it a i) where
 mem := by simp
 obj := fun i h st b hb => by
  have e : b = it := by simpa using hb
  subst e
  obtain ⟨o, e, c, d⟩ := st
  exact ⟨o, e, fun v z => by rw [d] at z; cases z⟩
 keep := fun i h h' st k => st.at fun o e => k it (by simp) o e
 item := by
  intro X hP hw hK hc i pins s σ H E I hf st hg
  subst hP hw hK
  obtain ⟨xs, x, hq, hx⟩ := hg
  obtain ⟨its, rv, p, hz⟩ := I.list hq
  obtain ⟨u, hu, ru⟩ := rv.get hx
  obtain ⟨f0, f1, f2, f3, f4, f5⟩ := hf it (by simp)
  refine wpAny_pyNext_list_item st p.isList (x := u) (by simpa using hu) fun h' st' sb => ?_
  have I1 : Inv X pins σ H { s with heap := h' } := I.turned (t' := s.toks) (fun b o hb e => (sb.2 b hb).trans e) f0 f1 f3 f4 f5
  obtain ⟨o, e, c, d⟩ := id st'
  exact ⟨u, rfl, xq7 (s := { s with heap := h' }) e c d (by decide) ⟨x, H, I1, ru, ⟨rfl, fun ys hy => by rw [I.list_inj hy hq]; exact hx⟩, st', fun b hb => (hf b hb).1⟩⟩
 done := by
  intro X hP hw hK hc i pins s σ H E I hf st hg
  subst hP hw hK
  obtain ⟨xs, hq, hx⟩ := hg
  obtain ⟨its, rv, p, hz⟩ := I.list hq
  obtain ⟨f0, f1, f2, f3, f4, f5⟩ := hf it (by simp)
  have hl := rv.length
  exact wpAny_pyNext_list_end (I.ok.hd hc) st p.isList (by simp; omega) fun h' eb => ⟨rfl, I.turned (t' := s.toks) (fun b o hb e => eb b o hb e) f0 f1 f3 f4 f5⟩
 self := fun _ _ _ _ _ st h => wpAny_pyIter_listiter st h
theorem yw0 {P : Program} {w : World} {K : PySem.W.Frag} {tg : Expr} (it : Addr) (lo : Int) (n : Nat) : Turn P w K tg (Itr lo n) [it] it (fun i h => IsRangeIter h it (lo + (i : Nat) * 1) ((n : Int) - (i : Nat)) 1) where
 mem := by simp
 obj := fun i h st b hb => by
  have e : b = it := by simpa using hb
  subst e
  exact ⟨_, st, fun v z => by
   have z' : Data.fields _ = Data.cell v := z
   cases z'⟩
 keep := fun i h h' st k => k it (by simp) _ st
 item := by
  intro X hP hw hK hc i pins s σ H E I hf st hg
  subst hP hw hK
  obtain ⟨f0, f1, f2, f3, f4, f5⟩ := hf it (by simp)
  have W := Walks.range (prog := X.prog) (w := X.w) (I.ok.hd hc) it lo 1 n
  refine W.item i s _ _ hg st fun v h' tk hv st' kk => ?_
  obtain ⟨t, rfl⟩ := hv
  have I1 : Inv X pins σ H { s with heap := h', toks := tk } := I.turned (fun b o hb e => kk b o (by simpa using hb) e) f0 f1 f3 f4 f5
  refine ⟨_, rfl, xq7 (s := { s with heap := h', toks := tk }) (n := "range_iterator") st' rfl rfl (by decide) ⟨.int (lo + i), H, I1, ⟨t, ?_⟩, ⟨rfl, rfl⟩, st', fun b hb => (hf b hb).1⟩⟩
  rw [Int.mul_one]
 done := by
  intro X hP hw hK hc i pins s σ H E I hf st hg
  subst hP hw hK
  obtain ⟨f0, f1, f2, f3, f4, f5⟩ := hf it (by simp)
  exact wpAny_pyNext_range_end (I.ok.hd hc) st (by have : n <= i := hg; omega) fun h' eb => ⟨rfl, I.turned (t' := s.toks) (fun b o hb e => eb b o hb e) f0 f1 f3 f4 f5⟩
 self := fun _ _ _ _ _ st h => wpAny_pyIter_rangeiter st h
end
section
section
variable {X : Cx} {tg : Expr}
def wx8 (K : W.Frag) (tl : TE) : TI := fun σ H R => tl σ H fun x H1 => ∃ a, x = .ref a /\ (∃ xs, SqL K H1 a xs) /\ R (Itl K a) H1
theorem xt1 {l : Expr} {tl : TE} (hl : PE X l tl) : PI X tg l (wx8 X.K tl) := by
 intro pins s σ H R I h
 refine thn (hl pins s σ H _ I h) fun v s1 hpat => ?_
 obtain ⟨x, H1, I1, r1, q1⟩ := hpat
 obtain ⟨a, e, ⟨xs, hq⟩, q⟩ := q1
 subst e
 cases r1
 obtain ⟨its, rv, p, hz⟩ := I1.list hq
 refine wpAny_pyIter_list p.isList ?_
 refine ⟨s1.heap.objs.size, [s1.heap.objs.size], _, _, H1, rfl, I1.kept (t' := s1.toks) fun b o e => Heap.get?_push_of_some _ e, ys2 a _, ⟨_, Heap.get?_push_size _ rfl, rfl, rfl⟩, fun b hb => ?_, q⟩
 have e : b = s1.heap.objs.size := by simpa using hb
 subst e
 exact I1.fpOk (Nat.le_refl _) (I1.hok.fresh (Nat.le_refl _))
theorem zb8 {pins : List (Addr × Obj)} {σ : St} {H : Hp} {s : Shared} {R : It -> Hp -> Prop} {E : Value -> Shared -> Prop} {lo hi : Int} {t u v : Tok} {tk : Nat} (I : Inv X pins σ H s) (h1 : -(2 ^ 62) <= lo) (h2 : lo < 2 ^ 62) (h3 : -(2 ^ 62) <= hi) (h4 : hi < 2 ^ 62)
  (q : R (Itr lo (hi - lo).toNat) H) : wpAny (model X.prog X.w) X.A (pyIter (.ref s.heap.objs.size)) (PIE X pins σ tg R) E { s with heap := s.heap.push { cls := .type "range", data := .fields #[.int lo t, .int hi u, .int 1 v] }, toks := tk } := by
 refine wpAny_pyIter_range (IsRange.new ..) (small_one h1 h2 h3 h4) ?_
 have I1 : Inv X pins σ H { s with heap := s.heap.push { cls := .type "range", data := .fields #[.int lo t, .int hi u, .int 1 v] }, toks := tk } := I.kept fun b o e => Heap.get?_push_of_some _ e
 refine ⟨(s.heap.push { cls := .type "range", data := .fields #[.int lo t, .int hi u, .int 1 v] }).objs.size, [(s.heap.push { cls := .type "range", data := .fields #[.int lo t, .int hi u, .int 1 v] }).objs.size], _, _, H, rfl,
  I1.kept (t' := tk) fun b o e => Heap.get?_push_of_some _ e, yw0 _ lo (hi - lo).toNat, ?_, fun b hb => ?_, q⟩
 ·have e1 : lo + ((0 : Nat) : Int) * 1 = lo := by simp
  have e2 : (((hi - lo).toNat : Nat) : Int) - ((0 : Nat) : Int) = Builtin.Range.rangeSize lo hi 1 := by rw [rangeSize_one]; split <;> omega
  show IsRangeIter _ _ (lo + ((0 : Nat) : Int) * 1) ((((hi - lo).toNat : Nat) : Int) - ((0 : Nat) : Int)) 1
  rw [e1, e2]
  exact Heap.get?_push_size _ rfl
 ·have e : b = (s.heap.push { cls := .type "range", data := .fields #[.int lo t, .int hi u, .int 1 v] }).objs.size := by simpa using hb
  subst e
  exact I1.fpOk (Nat.le_refl _) (I1.hok.fresh (Nat.le_refl _))
def wx7 (ta : TA) : TI := fun σ H R => ta σ H fun vs H1 => ∃ j : Int, vs = [.int j] /\ -(2 ^ 62) <= j /\ j < 2 ^ 62 /\ R (Itr 0 j.toNat) H1
def wx6 (ta : TA) : TI := fun σ H R => ta σ H fun vs H1 => ∃ i j : Int, vs = [.int i, .int j] /\ (-(2 ^ 62) <= i /\ i < 2 ^ 62 /\ -(2 ^ 62) <= j /\ j < 2 ^ 62) /\ R (Itr i (j - i).toNat) H1
theorem zm2 {a : Expr} {ta : TA} {p pos : Pos} (hg : Gl X "range") (hm : X.mg "range" = none) (ha : PA X [a] ta) (hs : starEach [a] X.env = [(false, eval a X.env)] := by rfl) : PI X tg (.Call (.Name "range" p) [a] [] pos) (wx7 ta) := by
 intro pins s σ H R I h
 refine Call_ (G0 I hg hm boot_range (PyProof.Rows.callWith_type1 (thn (ha pos pins s σ H _ I h) fun us s1 hpat => ?_) hs rfl))
 obtain ⟨vs, H1, I1, r1, q1⟩ := hpat
 obtain ⟨j, e, q1, q2, q⟩ := q1
 subst e
 cases r1 with
 | cons r rr =>
  cases rr
  obtain ⟨t, rfl⟩ := r
  exact call_range_1 (zb8 I1 (by omega) (by omega) q1 q2 (by simpa using q))
theorem yq9 {a b : Expr} {ta : TA} {p pos : Pos} (hg : Gl X "range") (hm : X.mg "range" = none) (ha : PA X [a, b] ta) (hs : starEach [a, b] X.env = [(false, eval a X.env), (false, eval b X.env)] := by rfl) (hs2 : starEach [b] X.env = [(false, eval b X.env)] := by rfl) :
  PI X tg (.Call (.Name "range" p) [a, b] [] pos) (wx6 ta) := by
 intro pins s σ H R I h
 refine Call_ (G0 I hg hm boot_range (PyProof.Rows.callWith_type1 (thn (ha pos pins s σ H _ I h) fun us s1 hpat => ?_) (by rw [hs, hs2]) (by rw [hs2]; rfl)))
 obtain ⟨vs, H1, I1, r1, q1⟩ := hpat
 obtain ⟨i, j, e, ⟨q1, q2, q3, q4⟩, q⟩ := q1
 subst e
 cases r1 with
 | cons r rr =>
  cases rr with
  | cons r' rr =>
   cases rr
   obtain ⟨t, rfl⟩ := r
   obtain ⟨t', rfl⟩ := r'
   exact call_range_2 (zb8 I1 q1 q2 q3 q4 q)
def tFor (wi : TI) (g : TG) (tb : TS) : TS := fun D σ H => wi σ H fun J H1 => ∃ W : Nat -> Nat -> St -> Hp -> Prop, (∃ m, W 0 m σ H1) /\ ∀ i m σ H, W i m σ H ->
 (J.stop i H /\ D.nx σ H) \/ (J.go i H /\ ∃ N : St -> Hp -> Prop, (∀ σ' H', N σ' H' -> ∃ m', m' < m /\ W (i + 1) m' σ' H') /\ ∀ x H', J.yld i H x H' -> g x σ H' fun σ2 H2 => tb { D with nx := N, ct := N, bk := D.nx } σ2 H2)
def zn9 (fp : List Addr) (h : Heap) : List (Addr × Obj) := fp.filterMap fun b => (h.get? b).map fun o => (b, o)
theorem O8 {fp : List Addr} {h : Heap} {b : Addr} {o : Obj} (hb : b ∈ fp) (e : h.get? b = some o) : (b, o) ∈ zn9 fp h := List.mem_filterMap.mpr ⟨b, hb, by rw [e]; rfl⟩
theorem yo1 {fp : List Addr} {h : Heap} {p : Addr × Obj} (hp : p ∈ zn9 fp h) : p.1 ∈ fp /\ h.get? p.1 = some p.2 := by
 obtain ⟨b, hb, e⟩ := List.mem_filterMap.mp hp
 cases q : h.get? b with
 | none => rw [q] at e; cases e
 | some o =>
  rw [q] at e
  have e' : (b, o) = p := Option.some.inj e
  subst e'
  exact ⟨hb, q⟩
theorem Inv.pinned {pins : List (Addr × Obj)} {σ : St} {H : Hp} {s : Shared} {fp : List Addr} (I : Inv X pins σ H s) (hf : ∀ b ∈ fp, FpOk X pins H b) (ho : ∀ b ∈ fp, ∃ o, s.heap.get? b = some o /\ ∀ v, o.data ≠ .cell v) : Inv X (pins ++ zn9 fp s.heap) σ H s :=
 I.pins_of fun p hp => (List.mem_append.mp hp).elim (fun z => I.pin p (mem_append_right _ z)) fun z => by
  obtain ⟨hb, e⟩ := yo1 z
  obtain ⟨f0, f1, f2, _⟩ := hf p.1 hb
  obtain ⟨o, e', d⟩ := ho p.1 hb
  rw [e] at e'; cases e'
  exact ⟨e, f0, f1, f2, d⟩
theorem Inv.unpinned {pins pl : List (Addr × Obj)} {σ : St} {H : Hp} {s : Shared} (I : Inv X (pins ++ pl) σ H s) : Inv X pins σ H s := I.pins_of fun p hp => I.pin p (mem_append_right _ (mem_append_left _ hp))
theorem yq6 {iter : Expr} {body : List Stmt} {wi : TI} {g : TG} {tb : TS} {pos : Pos} (hp : PassesOwn (model X.prog X.w) X.A X.env X.xe) (hc : X.calm = true) (hi : PI X tg iter wi) (hg : PG X tg g) (hb : PSs X body tb)
  (hs : ∀ x, foldedSetIterable iter X.env x = pure x := by intro _; rfl) : PS X (.For tg iter body [] pos) (tFor wi g tb) := by
 intro pins s σ H D I h
 refine wpAny_For (thn (hi pins s σ H _ I h) fun v s1 h1 => thn h1 fun itv s2 h2 => ?_) hs
 obtain ⟨it, fp, tn, J, H2, e, I2, T, st2, f2, W, ⟨m0, w0⟩, turn⟩ := h2
 subst e
 have stat : ∀ {H' : Hp}, (∀ b ∈ fp, H' b = none) -> ∀ b ∈ fp, FpOk X pins H' b := fun hn b hb => ⟨hn b hb, (f2 b hb).2⟩
 refine codeAny_forLoop_any (fun n s' => ∃ i σ' H', Inv X pins σ' H' s' /\ tn i s'.heap /\ (∀ b ∈ fp, H' b = none) /\ W i n σ' H') ?_ m0 ⟨0, σ, H2, I2, st2, fun b hb => (f2 b hb).1, w0⟩
 rintro n s3 ⟨i, σ3, H3, I3, st3, fr3, w3⟩
 rcases turn i n σ3 H3 w3 with ⟨stop, qn⟩ | ⟨go, N, hN, step⟩
 ·refine wpAny_passesOwn hp (thn (T.done X rfl rfl rfl hc i pins s3 σ3 H3 X.xe I3 (stat fr3) st3 stop) fun r s4 ⟨hr, I4⟩ => ?_)
  subst hr
  exact wpAny_execs_nil ⟨σ3, H3, I4, qn⟩
 ·refine wpAny_passesOwn hp (thn (T.item X rfl rfl rfl hc i pins s3 σ3 H3 X.xe I3 (stat fr3) st3 go) fun r s4 ⟨u, hr, h4⟩ => ?_)
  subst hr
  refine wpAny_passesOwn hp (thn h4 fun _ s5 hpat => ?_)
  obtain ⟨x, H5, I5, r5, y5, st5, fr5⟩ := hpat
  have I5' := I5.pinned (stat fr5) (T.obj _ _ st5)
  refine wpAny_passesOwn hp (thn (hg _ s5 σ3 H5 x u _ I5' r5 (step x H5 y5)) fun _ s6 hpat => ?_)
  obtain ⟨σ6, H6, I6, q6⟩ := hpat
  refine wpAny_passesOwn hp (thn (hb _ s6 σ6 H6 _ I6 q6) fun f s7 q7 => ?_)
  have again : ∀ {σ7 : St} {H7 : Hp}, Inv X (pins ++ zn9 fp s5.heap) σ7 H7 s7 -> N σ7 H7 -> ∃ m, m < n /\ ∃ i σ' H', Inv X pins σ' H' s7 /\ tn i s7.heap /\ (∀ b ∈ fp, H' b = none) /\ W i m σ' H' := fun {σ7 H7} I7 n7 => by
   obtain ⟨m', hm, w7⟩ := hN σ7 H7 n7
   refine ⟨m', hm, i + 1, σ7, H7, I7.unpinned, T.keep _ _ _ st5 fun b hb o e => (I7.pin (b, o) (mem_append_right _ (mem_append_right _ (O8 hb e)))).1, fun b hb => ?_, w7⟩
   obtain ⟨o, e, d⟩ := T.obj _ _ st5 b hb
   exact (I7.pin (b, o) (mem_append_right _ (mem_append_right _ (O8 hb e)))).2.1
  cases f with
  | next => obtain ⟨σ7, H7, I7, n7⟩ := q7; exact again I7 n7
  | cont => obtain ⟨σ7, H7, I7, n7⟩ := q7; exact again I7 n7
  | brk => obtain ⟨σ7, H7, I7, q7⟩ := q7; exact ⟨σ7, H7, I7.unpinned, q7⟩
  | ret v => obtain ⟨x7, σ7, H7, I7, r7, q7⟩ := q7; exact ⟨x7, σ7, H7, I7.unpinned, r7, q7⟩
end
end
section
abbrev R2 := V -> V -> Hp -> VK -> Prop
def OpR (X : Cx) (f : Value -> Value -> Sem Value) (r : R2) : Prop :=
 ∀ (pins : List (Addr × Obj)) (s : Shared) (σ : St) (H : Hp) (x y : V) (v u : Value) (Q : VK), Inv X pins σ H s -> RelV x v -> RelV y u -> r x y H Q ->
  wpAny (model X.prog X.w) X.A (f v u) (EP X pins σ Q) X.xe s
def UnR (X : Cx) (f : Value -> Sem Value) (r : V -> Hp -> VK -> Prop) : Prop :=
 ∀ (pins : List (Addr × Obj)) (s : Shared) (σ : St) (H : Hp) (x : V) (v : Value) (Q : VK), Inv X pins σ H s -> RelV x v -> r x H Q ->
  wpAny (model X.prog X.w) X.A (f v) (EP X pins σ Q) X.xe s
def zu4 (X : Cx) (f : Value) (r : List V -> Hp -> VK -> Prop) : Prop :=
 ∀ (pins : List (Addr × Obj)) (s : Shared) (σ : St) (H : Hp) (xs : List V) (us : List Value) (Q : VK), Inv X pins σ H s -> Vals xs us -> r xs H Q ->
  wpAny (model X.prog X.w) X.A (call f us) (EP X pins σ Q) X.xe s
def TruR (X : Cx) (r : V -> Hp -> (Bool -> Hp -> Prop) -> Prop) : Prop :=
 ∀ (pins : List (Addr × Obj)) (s : Shared) (σ : St) (H : Hp) (x : V) (v : Value) (Q : Bool -> Hp -> Prop), Inv X pins σ H s -> RelV x v -> r x H Q ->
  wpAny (model X.prog X.w) X.A (truthy v) (TP X pins σ Q) X.xe s
def tOp (r : R2) (ta tb : TE) : TE := fun σ H Q => ta σ H fun x H1 => tb σ H1 fun y H2 => r x y H2 Q
def tUn (r : V -> Hp -> VK -> Prop) (ta : TE) : TE := fun σ H Q => ta σ H fun x H1 => r x H1 Q
def rI (C : Int -> Int -> Prop) (g : Int -> Int -> V) : R2 := fun x y H Q => ∃ i j, x = .int i /\ y = .int j /\ C i j /\ Q (g i j) H
def rI0 (g : Int -> Int -> V) : R2 := fun x y H Q => ∃ i j, x = .int i /\ y = .int j /\ Q (g i j) H
def rU (g : Int -> V) : V -> Hp -> VK -> Prop := fun x H Q => ∃ i, x = .int i /\ Q (g i) H
section
variable {X : Cx} {a b c : Expr} {ta tb tc : TE} {pos : Pos}
theorem binT (ha : PE X a ta) (hb : PE X b tb) {pins : List (Addr × Obj)} {s : Shared} {σ : St} {H : Hp} {R : V -> V -> Hp -> Prop} (I : Inv X pins σ H s)
  (h : ta σ H fun x H1 => tb σ H1 fun y H2 => R x y H2) {Q : Value -> Shared -> Prop} {f : Value -> Value -> Sem Value}
  (hf : ∀ v u s2 x y H2, Inv X pins σ H2 s2 -> RelV x v -> RelV y u -> R x y H2 -> wpAny (model X.prog X.w) X.A (f v u) Q X.xe s2) :
  wpAny (model X.prog X.w) X.A (eval a X.env) (fun v s₁ => wpAny (model X.prog X.w) X.A (eval b X.env) (fun u s₂ => wpAny (model X.prog X.w) X.A (f v u) Q X.xe s₂) X.xe s₁) X.xe s := by
 refine thn (ha pins s σ H _ I h) fun v s1 hpat => ?_
 obtain ⟨x, H1, I1, r1, q1⟩ := hpat
 refine thn (hb pins s1 σ H1 _ I1 q1) fun u s2 hpat => ?_
 obtain ⟨y, H2, I2, r2, q2⟩ := hpat
 exact hf v u s2 x y H2 I2 r1 r2 q2
theorem yf4 {op : Operator} {r : R2} (ho : OpR X (binaryOp op) r) (ha : PE X a ta) (hb : PE X b tb) : PE X (.BinOp a op b pos) (tOp r ta tb) := by
 intro pins s σ H Q I h
 exact wpAny_BinOp (binT ha hb I h fun v u s2 x y H2 I2 rx ry q => ho pins s2 σ H2 x y v u Q I2 rx ry q)
theorem wz8 {op : UnaryOp} {r : V -> Hp -> VK -> Prop} (ho : UnR X (unaryOp op) r) (ha : PE X a ta) : PE X (.UnaryOp op a pos) (tUn r ta) := by
 intro pins s σ H Q I h
 exact UnaryOp_ (thn (ha pins s σ H _ I h) fun v s1 ⟨x, H1, I1, r1, q1⟩ => ho pins s1 σ H1 x v Q I1 r1 q1)
theorem opI {f : Value -> Value -> Sem Value} {C : Int -> Int -> Prop} {g : Int -> Int -> Int}
  (rule : ∀ (i j : Int) (t u : Tok) (s : Shared) (Q : Value -> Shared -> Prop) (E : Value -> Shared -> Prop), C i j -> Q (.int (g i j) s.toks) { s with toks := s.toks + 1 } -> wpAny (model X.prog X.w) X.A (f (.int i t) (.int j u)) Q E s) :
  OpR X f (rI C fun i j => .int (g i j)) := by
 intro pins s σ H x y v u Q I rx ry h
 obtain ⟨i, j, rfl, rfl, hc, q⟩ := h
 obtain ⟨t, rfl⟩ := rx
 obtain ⟨t', rfl⟩ := ry
 exact rule i j t t' s _ _ hc ⟨.int (g i j), H, I.tok _, ⟨_, rfl⟩, q⟩
theorem opI0 {f : Value -> Value -> Sem Value} {g : Int -> Int -> Int}
  (rule : ∀ (i j : Int) (t u : Tok) (s : Shared) (Q : Value -> Shared -> Prop) (E : Value -> Shared -> Prop), Q (.int (g i j) s.toks) { s with toks := s.toks + 1 } -> wpAny (model X.prog X.w) X.A (f (.int i t) (.int j u)) Q E s) :
  OpR X f (rI0 fun i j => .int (g i j)) := by
 intro pins s σ H x y v u Q I rx ry h
 obtain ⟨i, j, rfl, rfl, q⟩ := h
 obtain ⟨t, rfl⟩ := rx
 obtain ⟨t', rfl⟩ := ry
 exact rule i j t t' s _ _ ⟨.int (g i j), H, I.tok _, ⟨_, rfl⟩, q⟩
theorem opB0 {f : Value -> Value -> Sem Value} {g : Int -> Int -> Bool}
  (rule : ∀ (i j : Int) (t u : Tok) (s : Shared) (Q : Value -> Shared -> Prop) (E : Value -> Shared -> Prop), Q (.bool (g i j)) s -> wpAny (model X.prog X.w) X.A (f (.int i t) (.int j u)) Q E s) :
  OpR X f (rI0 fun i j => .bl (g i j)) := by
 intro pins s σ H x y v u Q I rx ry h
 obtain ⟨i, j, rfl, rfl, q⟩ := h
 obtain ⟨t, rfl⟩ := rx
 obtain ⟨t', rfl⟩ := ry
 exact rule i j t t' s _ _ ⟨.bl (g i j), H, I, rfl, q⟩
def CDiv (i j : Int) : Prop := 0 < j /\ j < 1073741824
def CPow (i j : Int) : Prop := 0 <= j /\ j <= 1000000 /\ i.natAbs < 2 ^ 64
def CMul (i j : Int) : Prop := (-(2 ^ 64) < i /\ i < 2 ^ 64) \/ (-(2 ^ 64) < j /\ j < 2 ^ 64)
theorem CMul.ok {i j : Int} (h : CMul i j) : IntMulOk i j := by
 rcases h with ⟨h1, h2⟩ | ⟨h1, h2⟩
 ·exact .of_left (intBits_le_64 h1 h2)
 ·exact .of_right (intBits_le_64 h1 h2)
theorem zy6 : OpR X (binaryOp .Add) (rI0 fun i j => .int (i + j)) := opI0 fun _ _ _ _ _ _ _ q => add_int q
theorem za9 : OpR X (binaryOp .Sub) (rI0 fun i j => .int (i - j)) := opI0 fun _ _ _ _ _ _ _ q => sub_int q
theorem xz9 : OpR X (binaryOp .Mult) (rI CMul fun i j => .int (i * j)) := opI fun _ _ _ _ _ _ _ hc q => mul_int q hc.ok
theorem xr0 : OpR X (binaryOp .FloorDiv) (rI CDiv fun i j => .int (i / j)) := opI fun i j _ _ _ _ _ hc q => by
 have h1 : (0 : Int) < j := hc.1
 have h2 : j < 1073741824 := hc.2
 exact floordiv_int (by omega) (by rw [Int.fdiv_eq_ediv_of_nonneg i (by omega)]; exact q) (.inl (PyProof.noPylong_small (by omega)))
theorem xh8 : OpR X (binaryOp .Mod) (rI (fun _ j => 0 < j) fun i j => .int (i % j)) := opI fun i j _ _ _ _ _ hc q => by
 have h1 : (0 : Int) < j := hc
 exact mod_int' (by omega) (by rw [Int.fmod_eq_emod_of_nonneg i (by omega)]; exact q)
theorem xh7 : OpR X (binaryOp .Pow) (rI CPow fun i j => .int (i ^ j.toNat)) := opI fun _ _ _ _ _ _ _ hc q => pow_int_small hc.1 hc.2.1 hc.2.2 q
theorem unI {f : Value -> Sem Value} {g : Int -> Int}
  (rule : ∀ (i : Int) (t : Tok) (s : Shared) (Q : Value -> Shared -> Prop) (E : Value -> Shared -> Prop), Q (.int (g i) s.toks) { s with toks := s.toks + 1 } -> wpAny (model X.prog X.w) X.A (f (.int i t)) Q E s) :
  UnR X f (rU fun i => .int (g i)) := by
 intro pins s σ H x v Q I rx h
 obtain ⟨i, rfl, q⟩ := h
 obtain ⟨t, rfl⟩ := rx
 exact rule i t s _ _ ⟨.int (g i), H, I.tok _, ⟨_, rfl⟩, q⟩
theorem xm6 : UnR X (unaryOp .USub) (rU fun i => .int (-i)) := unI fun _ _ _ _ _ q => neg_int q
end
def scal : V -> V -> Bool
 | .non, .non => true | .non, .int _ => true | .int _, .non => true | .non, .bl _ => true | .bl _, .non => true | .non, .str _ => true | .str _, .non => true
 | .int _, .int _ => true | .bl _, .bl _ => true | .str _, .str _ => true | .byt _, .byt _ => true
 | .int _, .str _ => true | .str _, .int _ => true | .bl _, .str _ => true | .str _, .bl _ => true
 | _, _ => false
def rEq : R2 := fun x y H Q => scal x y = true /\ Q (.bl (decide (x = y))) H
def rNe : R2 := fun x y H Q => scal x y = true /\ Q (.bl (!decide (x = y))) H
theorem zd7 {i j : Int} : decide (V.int i = V.int j) = (i == j) := by
 rw [Bool.eq_iff_iff]
 simp
theorem yj2 {i j : Bool} : decide (V.bl i = V.bl j) = (i == j) := by
 rw [Bool.eq_iff_iff]
 simp
theorem zd6 {i j : Str} : decide (V.str i = V.str j) = (i == j) := by
 rw [Bool.eq_iff_iff]
 simp
theorem yj1 {i j : Array UInt8} : decide (V.byt i = V.byt j) = (i.toList == j.toList) := by
 rw [Bool.eq_iff_iff]
 cases i
 cases j
 simp
section
variable {X : Cx} {a b c : Expr} {ta tb tc : TE} {pos : Pos}
theorem n6 {pins : List (Addr × Obj)} {σ : St} {H : Hp} {s : Shared} {Q : VK} {k k' : Bool} (I : Inv X pins σ H s) (q : Q (.bl k) H) (e : k = k') : EP X pins σ Q (.bool k') s := by
 subst e
 exact ⟨.bl k, H, I, rfl, q⟩
theorem E5 : OpR X (compareOp .Eq) rEq := by
 intro pins s σ H x y v u Q I rx ry h
 obtain ⟨hs, q⟩ := h
 cases x with
 | non =>
  cases rx
  cases y with
  | non => cases ry; exact PySem.EqNone.eq_none_none (n6 I q (by simp))
  | bl j => cases ry; exact PySem.EqNone.eq_none_bool (n6 I q (by simp))
  | int j => obtain ⟨t', rfl⟩ := ry; exact PySem.EqNone.eq_none_int (n6 I q (by simp))
  | str j => obtain ⟨t', rfl⟩ := ry; exact PySem.EqNone.eq_none_str (n6 I q (by simp))
  | _ => exact absurd (show false = true from hs) Bool.false_ne_true
 | bl i =>
  cases rx
  cases y with
  | non => cases ry; exact PySem.EqNone.eq_bool_none (n6 I q (by simp))
  | bl j => cases ry; exact eq_bool (n6 I q yj2)
  | str j => obtain ⟨t', rfl⟩ := ry; exact PySem.EqMixed.eq_bool_str (n6 I q (by simp))
  | _ => exact absurd (show false = true from hs) Bool.false_ne_true
 | int i =>
  obtain ⟨t, rfl⟩ := rx
  cases y with
  | non => cases ry; exact PySem.EqNone.eq_int_none (n6 I q (by simp))
  | int j => obtain ⟨t', rfl⟩ := ry; exact eq_int (n6 I q zd7)
  | str j => obtain ⟨t', rfl⟩ := ry; exact PySem.EqMixed.eq_int_str (n6 I q (by simp))
  | _ => exact absurd (show false = true from hs) Bool.false_ne_true
 | str i =>
  obtain ⟨t, rfl⟩ := rx
  cases y with
  | non => cases ry; exact PySem.EqNone.eq_str_none (n6 I q (by simp))
  | bl j => cases ry; exact PySem.EqMixed.eq_str_bool (n6 I q (by simp))
  | int j => obtain ⟨t', rfl⟩ := ry; exact PySem.EqMixed.eq_str_int (n6 I q (by simp))
  | str j => obtain ⟨t', rfl⟩ := ry; exact eq_str (n6 I q zd6)
  | _ => exact absurd (show false = true from hs) Bool.false_ne_true
 | byt i =>
  obtain ⟨t, rfl⟩ := rx
  cases y with
  | byt j => obtain ⟨t', rfl⟩ := ry; exact W.eq_bytes (n6 I q yj1)
  | _ => exact absurd (show false = true from hs) Bool.false_ne_true
 | _ => cases y <;> exact absurd (show false = true from hs) Bool.false_ne_true
theorem wy1 : OpR X (compareOp .NotEq) rNe := by
 intro pins s σ H x y v u Q I rx ry h
 obtain ⟨hs, q⟩ := h
 cases x with
 | non =>
  cases rx
  cases y with
  | non => cases ry; exact PySem.EqNone.ne_none_none (n6 I q (by simp))
  | bl j => cases ry; exact PySem.EqNone.ne_none_bool (n6 I q (by simp))
  | int j => obtain ⟨t', rfl⟩ := ry; exact PySem.EqNone.ne_none_int (n6 I q (by simp))
  | str j => obtain ⟨t', rfl⟩ := ry; exact PySem.EqNone.ne_none_str (n6 I q (by simp))
  | _ => exact absurd (show false = true from hs) Bool.false_ne_true
 | bl i =>
  cases rx
  cases y with
  | non => cases ry; exact PySem.EqNone.ne_bool_none (n6 I q (by simp))
  | bl j => cases ry; exact ne_bool (n6 I q (congrArg not yj2))
  | str j => obtain ⟨t', rfl⟩ := ry; exact PySem.EqMixed.ne_bool_str (n6 I q (by simp))
  | _ => exact absurd (show false = true from hs) Bool.false_ne_true
 | int i =>
  obtain ⟨t, rfl⟩ := rx
  cases y with
  | non => cases ry; exact PySem.EqNone.ne_int_none (n6 I q (by simp))
  | int j => obtain ⟨t', rfl⟩ := ry; exact ne_int (n6 I q (congrArg not zd7))
  | str j => obtain ⟨t', rfl⟩ := ry; exact PySem.EqMixed.ne_int_str (n6 I q (by simp))
  | _ => exact absurd (show false = true from hs) Bool.false_ne_true
 | str i =>
  obtain ⟨t, rfl⟩ := rx
  cases y with
  | non => cases ry; exact PySem.EqNone.ne_str_none (n6 I q (by simp))
  | bl j => cases ry; exact PySem.EqMixed.ne_str_bool (n6 I q (by simp))
  | int j => obtain ⟨t', rfl⟩ := ry; exact PySem.EqMixed.ne_str_int (n6 I q (by simp))
  | str j => obtain ⟨t', rfl⟩ := ry; exact ne_str (n6 I q (congrArg not zd6))
  | _ => exact absurd (show false = true from hs) Bool.false_ne_true
 | byt i =>
  obtain ⟨t, rfl⟩ := rx
  cases y with
  | byt j => obtain ⟨t', rfl⟩ := ry; exact W.ne_bytes (n6 I q (congrArg not yj1))
  | _ => exact absurd (show false = true from hs) Bool.false_ne_true
 | _ => cases y <;> exact absurd (show false = true from hs) Bool.false_ne_true
theorem zf3 : OpR X (compareOp .Lt) (rI0 fun i j => .bl (decide (i < j))) := opB0 fun _ _ _ _ _ _ _ q => lt_int q
theorem wy2 : OpR X (compareOp .LtE) (rI0 fun i j => .bl (decide (i <= j))) := opB0 fun _ _ _ _ _ _ _ q => le_int q
theorem xh9 : OpR X (compareOp .Gt) (rI0 fun i j => .bl (decide (j < i))) := opB0 fun _ _ _ _ _ _ _ q => gt_int q
theorem zq0 : OpR X (compareOp .GtE) (rI0 fun i j => .bl (decide (j <= i))) := opB0 fun _ _ _ _ _ _ _ q => ge_int q
theorem OpR.or {f : Value -> Value -> Sem Value} {r r' : R2} (h : OpR X f r) (h' : OpR X f r') : OpR X f (fun x y H Q => r x y H Q \/ r' x y H Q) := by
 intro pins s σ H x y v u Q I rx ry q
 rcases q with q | q
 ·exact h pins s σ H x y v u Q I rx ry q
 ·exact h' pins s σ H x y v u Q I rx ry q
theorem u8 (b : Expr) {op : CmpOp} (h : op ≠ .In := by decide) (h2 : op ≠ .NotIn := by decide) : behindInMarks op b = false := by
 have e1 : (op == CmpOp.In) = false := by cases op <;> first | rfl | exact absurd rfl h
 have e2 : (op == CmpOp.NotIn) = false := by cases op <;> first | rfl | exact absurd rfl h2
 cases b <;> simp [behindInMarks, e1, e2]
theorem yp4 {op : CmpOp} {r : R2} (ho : OpR X (compareOp op) r) (ha : PE X a ta) (hb : PE X b tb) (hm : behindInMarks op b = false) : PE X (.Compare a [op] [b] pos) (tOp r ta tb) := by
 intro pins s σ H Q I h
 exact wpAny_Compare1 (binT ha hb I h fun v u s2 x y H2 I2 rx ry q => ho pins s2 σ H2 x y v u Q I2 rx ry q) hm
def xa3 (t : TE) : TT := fun σ H Q => t σ H fun x H' => ∃ k, x = .bl k /\ Q k H'
theorem zg4 {op : CmpOp} {r : R2} (ho : OpR X (compareOp op) r) (ha : PE X a ta) (hb : PE X b tb) (hm : behindInMarks op b = false) : PT X (.Compare a [op] [b] pos) (xa3 (tOp r ta tb)) := by
 intro pins s σ H Q I h
 refine wpAny_isTrue_Compare1 (thn (ha pins s σ H _ I h) fun v s1 ⟨x, H1, I1, r1, q1⟩ => thn (hb pins s1 σ H1 _ I1 q1) fun u s2 ⟨y, H2, I2, r2, q2⟩ =>
  thn (ho pins s2 σ H2 x y v u _ I2 r1 r2 q2) fun c s3 ⟨z, H3, I3, r3, k, e, q3⟩ => ?_) hm
 subst e
 cases r3
 exact wpAny_truthy_bool ⟨H3, I3, q3⟩
def TruV (K : W.Frag) (x : V) (H : Hp) (k : Bool) : Prop :=
 match x with
 | .non => k = false
 | .bl b => k = b
 | .int i => k = (i != 0)
 | .str y => y.length <= sizeLine /\ k = ((y.length : Int) != 0)
 | .byt y => y.size <= sizeLine /\ k = ((y.size : Int) != 0)
 | .ref p => (∃ xs, SqL K H p xs /\ k = !xs.isEmpty) \/ (∃ xs, SqT K H p xs /\ k = !xs.isEmpty) \/ ∃ kvs, H p = some (.dK kvs) /\ k = !kvs.isEmpty
 | _ => False
theorem yu5 {κ : Type} {kvs : List (κ × V)} {vs : List (κ × Value)} (r : KV kvs vs) : (!vs.isEmpty) = !kvs.isEmpty := by
 cases r <;> rfl
theorem zs0 {xs : List V} {its : List Value} (r : Vals xs its) : (!its.toArray.isEmpty) = !xs.isEmpty := by
 cases r <;> simp
theorem zj2 : (sizeLine : Nat) < 2 ^ 63 := by rw [sizeLine_eq]; decide
theorem xm9 : TruR X (fun x H Q => ∃ k, TruV X.K x H k /\ Q k H) := by
 intro pins s σ H x v Q I rx h
 obtain ⟨k, e, q⟩ := h
 have hl := zj2
 have hs : sizeLine = 16777216 := sizeLine_eq
 cases x with
 | non =>
  cases rx
  have e' : k = false := e
  subst e'
  exact truthy_none ⟨H, I, q⟩
 | bl b =>
  cases rx
  have e' : k = b := e
  subst e'
  exact wpAny_truthy_bool ⟨H, I, q⟩
 | int i =>
  obtain ⟨t, rfl⟩ := rx
  have e' : k = (i != 0) := e
  subst e'
  exact PySem.P.truthy_int ⟨H, I, q⟩
 | str y =>
  obtain ⟨t, rfl⟩ := rx
  obtain ⟨hy, e'⟩ : y.length <= sizeLine /\ k = ((y.length : Int) != 0) := e
  subst e'
  exact PySem.P.truthy_str (by omega) ⟨H, I.tok _, q⟩
 | byt y =>
  obtain ⟨t, rfl⟩ := rx
  obtain ⟨hy, e'⟩ : y.size <= sizeLine /\ k = ((y.size : Int) != 0) := e
  subst e'
  exact W.truthy_bytes (by omega) ⟨H, I.tok _, q⟩
 | ref p =>
  cases rx
  have e' : (∃ xs, SqL X.K H p xs /\ k = !xs.isEmpty) \/ (∃ xs, SqT X.K H p xs /\ k = !xs.isEmpty) \/ ∃ kvs, H p = some (.dK kvs) /\ k = !kvs.isEmpty := e
  rcases e' with ⟨xs, hx, e'⟩ | ⟨xs, hx, e'⟩ | ⟨kvs, hx, e'⟩
  ·subst e'
   obtain ⟨its, r, pl, hz⟩ := I.list hx
   have hlen := r.length
   exact wpAny_truthy_list pl.isList (by simp only [size_toArray]; omega) ⟨H, I.tok _, by rw [zs0 r]; exact q⟩
  ·subst e'
   obtain ⟨its, r, pl, hz⟩ := I.tuple hx
   have hlen := r.length
   exact truthy_tuple pl (by simp only [size_toArray]; omega) ⟨H, I.tok _, by rw [zs0 r]; exact q⟩
  ·subst e'
   obtain ⟨hz, hS, vs, r, m⟩ : kvs.length <= sizeLine /\ (p == sysModules) = false /\ ∃ vs, KV kvs vs /\ s.heap.DictOf (zy7 X.prog X.w) p vs := I.hok p _ hx
   have hlen : kvs.length = vs.length := Paired.length r
   exact wpAny_truthy_dict hS m (by omega) ⟨H, I.tok _, by rw [yu5 r]; exact q⟩
 | _ => exact (show False from e).elim
theorem zb9 (ha : PE X a ta) (he : ∀ whole, isTrue a X.env whole = (do let v ← whole; standAt a.pos; holding [v] (truthy v))) :
  PT X a (fun σ H Q => ta σ H fun x H' => ∃ k, TruV X.K x H' k /\ Q k H') := by
 intro pins s σ H Q I h
 exact isTrue_plain (thn (ha pins s σ H _ I h) fun v s1 ⟨x, H1, I1, r1, q1⟩ => xm9 pins s1 σ H1 x v Q I1 r1 q1) (he _)
theorem C3 {x : V} {us : List Value} (r : Vals [x] us) : ∃ u, us = [u] /\ RelV x u := by
 cases r with
 | cons r1 r2 => cases r2; exact ⟨_, rfl, r1⟩
theorem xx3 {x y : V} {us : List Value} (r : Vals [x, y] us) : ∃ u w', us = [u, w'] /\ RelV x u /\ RelV y w' := by
 cases r with
 | cons r1 r2 =>
  cases r2 with
  | cons r3 r4 => cases r4; exact ⟨_, _, rfl, r1, r3⟩
theorem yi0 (hc : X.calm = true) : zu4 X (.builtin "max") (fun xs H Q => ∃ i j, xs = [.int i, .int j] /\ Q (.int (if j > i then j else i)) H) := by
 intro pins s σ H xs us Q I r h
 obtain ⟨i, j, rfl, q⟩ := h
 obtain ⟨u, w', rfl, ⟨t, rfl⟩, ⟨t', rfl⟩⟩ := xx3 r
 refine max_two_ints (I.ok.hd hc) fun h' tk k => ⟨_, H, I.kept k, ?_, q⟩
 by_cases hj : j > i
 ·rw [if_pos hj, if_pos hj]; exact ⟨_, rfl⟩
 ·rw [if_neg hj, if_neg hj]; exact ⟨_, rfl⟩
theorem yj8 (hc : X.calm = true) : zu4 X (.builtin "min") (fun xs H Q => ∃ i j, xs = [.int i, .int j] /\ Q (.int (if j < i then j else i)) H) := by
 intro pins s σ H xs us Q I r h
 obtain ⟨i, j, rfl, q⟩ := h
 obtain ⟨u, w', rfl, ⟨t, rfl⟩, ⟨t', rfl⟩⟩ := xx3 r
 refine min_two_ints (I.ok.hd hc) fun h' tk k => ⟨_, H, I.kept k, ?_, q⟩
 by_cases hj : j < i
 ·rw [if_pos hj, if_pos hj]; exact ⟨_, rfl⟩
 ·rw [if_neg hj, if_neg hj]; exact ⟨_, rfl⟩
end
end
section
structure ObjM (h : Heap) (x dx C : Addr) (mA : Str -> Option Value) : Prop where
 obj : h.get? x = some (W.instObj C dx)
 ns : h.Ns1 dx mA
 ne : dx ≠ x
theorem ym4 {h : Heap} {dx : Addr} {mA : Str -> Option Value} (n : h.Ns1 dx mA) : ∃ od, h.get? dx = some od /\ ∀ name, W.lookIn name od = some (mA name) := by
 obtain ⟨o, es, ep, ho, hd, hk, _, hm⟩ := n
 refine ⟨o, ho, fun name => ?_⟩
 have e := hm name
 unfold nsFind findBy at e
 rw [<- Array.find?_toList] at e
 unfold W.lookIn
 rw [hd]
 dsimp only
 split
 ·rename_i y q
  rw [q] at e
  exact congrArg some e
 ·rename_i q
  rw [q] at e
  have a : es.toList.any (·.refKey) = false := by
   rw [any_eq_false]
   intro y hy
   obtain ⟨z, t, hkey⟩ := hk y (Array.mem_toList_iff.mp hy)
   simp [DictEntry.refKey, hkey]
  have a' : ¬ es.toList.any (·.refKey) = true := by rw [a]; exact Bool.false_ne_true
  rw [if_neg a']
  exact congrArg some e
theorem ObjM.look {h : Heap} {x dx C : Addr} {mA : Str -> Option Value} (I : ObjM h x dx C mA) : ∃ od, W.InstAt h x (W.instObj C dx) C (some od) /\ ∀ name, W.lookIn name od = some (mA name) :=
 let ⟨od, ho, hl⟩ := ym4 I.ns
 ⟨od, ⟨I.obj, rfl, rfl, ho⟩, hl⟩
section
variable {prog : Program} {w : World} {A : Around} {E : Value -> Shared -> Prop} {s : Shared} {K : W.Frag} {x dx C f : Addr} {mA : Str -> Option Value} {name : Str} {v : Value}
theorem xq9 {expr : Bool} {Q : Value -> Shared -> Prop} (X : K.In s.heap) (I : ObjM s.heap x dx C mA) (hg : W.plainGet K C name = true) (hh : W.hasDictIn K C = true)
  (ha : W.findIn K (.ref C) name = some none) (hv : mA name = some v) (hv' : W.handedIn v = true) (h : Q v { s with toks := s.toks + 1 }) :
  wpAny (model prog w) A (getAttr (.ref x) name expr) Q E s := by
 obtain ⟨od, J, hl⟩ := I.look
 exact W.get_value X J (W.plainGet_of hg).1 (W.findObj_own hh ha rfl (by rw [hl, hv])) hv' h
theorem yc6 {pl : Sem Bool} {Q : Value × List Value -> Shared -> Prop} (X : K.In s.heap) (I : ObjM s.heap x dx C mA) (hg : W.plainGet K C name = true)
  (hf : W.findIn K (.ref C) name = some (some (.ref f))) (ht : W.isFn K (.ref f) = true) (hv : mA name = none) (h : Q (.ref f, [.ref x]) s) :
  wpAny (model prog w) A (getMethod (.ref x) name pl) Q E s := by
 obtain ⟨od, J, hl⟩ := I.look
 exact W.method_fn X J (W.plainGet_of hg).1 (W.plainGet_of hg).2 hf (beq_iff_eq.mp ht) (by show (W.lookIn name od).map (·.isSome) = some false; rw [hl, hv]; rfl) h
theorem xw1 {ns : List Str} {Q : Unit -> Shared -> Prop} (X : K.In s.heap) (I : ObjM s.heap x dx C mA)
  (hs : W.findIn K (.ref C) "__setattr__" = some (some (.builtin "object.__setattr__"))) (hp : W.plainOver K C = true) (ht : W.takerIn K C name = some none) (hh : W.hasDictIn K C = true)
  (hw : PySem.Within mA ns) (hsz : ns.length <= sizeLine)
  (h : ∀ h', ObjM h' x dx C (fun y => if y = name then some v else mA y) -> Heap.SameBut dx s.heap h' -> Q () { s with heap := h', toks := s.toks + 2 }) :
  wpAny (model prog w) A (setAttr (.ref x) name v) Q E s := by
 obtain ⟨od, J, hl⟩ := I.look
 refine W.set_plain X J hs (W.osa_open (s := { s with toks := s.toks + 1 }) (r := none) X J hp ht fun b => ?_)
 obtain ⟨cd, hc, hd'⟩ := W.any_some hh
 have hx : s.heap.get? x = some ⟨.ref C, some dx, .plain, #[]⟩ := I.obj
 refine wpAny_bind (wpAny_pure (wpAny_bind (wpAny_bind (wpAny_loadPart hx (wpAny_bind (W.Looks.here (s := { s with toks := s.toks + 1 }) (W.looks_clsIn X hc) ?_))))))
 rw [hd']
 refine wpAny_pure (a := some dx) (wpAny_bind (wpAny_pure (wpAny_bind ?_)))
 refine wpAny_nsSet1 (s := { s with toks := s.toks + 1 }) I.ns fun h' hn2 hs2 => ?_
 obtain ⟨oD, esD, epD, hoD, hdD, hcD⟩ := hn2.count (PySem.Within.cons name v hw)
 refine wpAny_bind (wpAny_lookBehind hoD (by rw [hdD]; exact pastItsLine_dict (Nat.le_trans hcD (by rw [length_cons]; omega))) ?_)
 exact wpAny_pure (h _ ⟨(hs2.2 _ (Ne.symm I.ne)).trans I.obj, hn2, I.ne⟩ hs2)
theorem yd6 {R : Result -> Shared -> Prop} {vs : List Value} {kw : List (Str × Value)} (X : K.In s.heap) (hm : W.makesIn K C = true)
  (hi : W.findIn K (.ref C) "__init__" = some (some (.ref f))) (hf : W.typeIn K (.ref f) = some (.type "function"))
  (h : codeAny (model prog w) (A.under (.builtin "type.__call__" ⟨.ref C :: vs, kw⟩)) (.call (.ref f) ⟨.ref (s.heap.objs.size + 1) :: vs, kw⟩) (W.InitBack (s.heap.objs.size + 1) R)
   { s with heap := (s.heap.push W.emptyDict).push (W.instObj C s.heap.objs.size) }) :
  codeAny (model prog w) A (.call (.ref C) ⟨vs, kw⟩) R s := by
 obtain ⟨hh, g, d, t, os⟩ := s
 exact W.make_core (W.makes_of X hm) (W.looks_findIn X hi) (fun self => W.bind_fn X self hf) (.inl rfl) h
end
def putF (f : Str) (v : V) : List (Str × V) -> List (Str × V)
 | [] => [(f, v)]
 | (g, x) :: r => if g = f then (g, v) :: r else (g, x) :: putF f v r
theorem zx0 (f g : Str) (v : V) : ∀ fs : List (Str × V), (putF f v fs).lookup g = if g = f then some v else fs.lookup g
 | [] => by
  show List.lookup g [(f, v)] = _
  by_cases h : g = f
  ·have hb : (g == f) = true := beq_iff_eq.mpr h
   simp only [List.lookup, hb, if_pos h]
  ·have hb : (g == f) = false := beq_eq_false_iff_ne.mpr h
   simp only [List.lookup, hb, if_neg h]
 | (k, x) :: r => by
  have ih := zx0 f g v r
  rw [show putF f v ((k, x) :: r) = (if k = f then (k, v) :: r else (k, x) :: putF f v r) from rfl]
  by_cases hk : k = f
  ·rw [if_pos hk]
   by_cases h : g = k
   ·have hb : (g == k) = true := beq_iff_eq.mpr h
    simp only [List.lookup, hb, if_pos (h.trans hk)]
   ·have hb : (g == k) = false := beq_eq_false_iff_ne.mpr h
    simp only [List.lookup, hb, if_neg (fun e : g = f => h (e.trans hk.symm))]
  ·rw [if_neg hk]
   by_cases h : g = k
   ·have hb : (g == k) = true := beq_iff_eq.mpr h
    simp only [List.lookup, hb, if_neg (fun e : g = f => hk (h.symm.trans e))]
   ·have hb : (g == k) = false := beq_eq_false_iff_ne.mpr h
    simp only [List.lookup, hb]
    exact ih
theorem zx2 (f : Str) (v : V) : ∀ fs : List (Str × V), f ∈ (putF f v fs).map (·.1) /\ ∀ g, g ∈ fs.map (·.1) -> g ∈ (putF f v fs).map (·.1)
 | [] => ⟨by simp [putF], fun g h => by simp at h⟩
 | (k, x) :: r => by
  obtain ⟨i1, i2⟩ := zx2 f v r
  rw [show putF f v ((k, x) :: r) = (if k = f then (k, v) :: r else (k, x) :: putF f v r) from rfl]
  by_cases hk : k = f
  ·rw [if_pos hk]
   subst hk
   exact ⟨by simp, fun g h => by simpa using h⟩
  ·rw [if_neg hk]
   refine ⟨?_, fun g h => ?_⟩
   ·rw [map_cons]
    exact mem_cons_of_mem _ i1
   ·rw [map_cons] at h ⊢
    rcases List.mem_cons.mp h with e | e
    ·exact List.mem_cons.mpr (.inl e)
    ·exact mem_cons_of_mem _ (i2 g e)
theorem zx1 (f : Str) (v : V) : ∀ fs : List (Str × V), (putF f v fs).length <= fs.length + 1
 | [] => by simp [putF]
 | (k, x) :: r => by
  have ih := zx1 f v r
  rw [show putF f v ((k, x) :: r) = (if k = f then (k, v) :: r else (k, x) :: putF f v r) from rfl]
  by_cases hk : k = f
  ·rw [if_pos hk, length_cons, length_cons]; omega
  ·rw [if_neg hk, length_cons, length_cons]; omega
theorem RelO.some_of {v : V} {o : Option Value} (r : RelO (some v) o) : ∃ u, o = some u /\ RelV v u := by
 cases o with
 | none => exact (show False from r).elim
 | some u => exact ⟨u, rfl, r⟩
theorem RelO.none_of {o : Option Value} (r : RelO none o) : o = none := by
 cases o with
 | none => rfl
 | some u => exact (show False from r).elim
theorem yk2 {v : V} {u : Value} (r : RelV v u) : W.handedIn u = true := by
 cases v with
 | non => cases (show u = Value.none from r); rfl
 | bl b => cases (show u = Value.bool b from r); rfl
 | int i => obtain ⟨t, e⟩ := (show ∃ t, u = Value.int i t from r); cases e; rfl
 | str x => obtain ⟨t, e⟩ := (show ∃ t, u = Value.str x t from r); cases e; rfl
 | byt b => obtain ⟨t, e⟩ := (show ∃ t, u = Value.bytes b t from r); cases e; rfl
 | flt b => obtain ⟨t, e⟩ := (show ∃ t, u = Value.float b t from r); cases e; rfl
 | ref a => cases (show u = Value.ref a from r); rfl
 | ty n => cases (show u = Value.type n from r); rfl
section
variable {P : Program} {w : World} {H H' : Hp} {h h' : Heap} {a C dx : Addr} {fs fs' : List (Str × V)}
theorem ze8 (hok : HOk P w H h) (e : H a = some (.ins C dx fs)) : ∃ mA, ObjM h a dx C mA /\ (∀ f, RelO (fs.lookup f) (mA f)) /\ PySem.Within mA (fs.map (·.1)) /\ fs.length <= 1000 /\ H dx = some (.own a) := by
 obtain ⟨d, z, ne, ob, mA, n, r, q⟩ := (show ObjOk P w H h a (.ins C dx fs) from hok a _ e)
 exact ⟨mA, ⟨ob, n, ne⟩, r, q, z, d⟩
end
structure Cls (K : W.Frag) (C : Addr) : Prop where
 pg : W.plainGet K C Str.empty = true
 hd : W.hasDictIn K C = true
 po : W.plainOver K C = true
 sa : W.findIn K (.ref C) "__setattr__" = some (some (.builtin "object.__setattr__"))
theorem Cls.get {K : W.Frag} {C : Addr} (c : Cls K C) (f : Str) : W.plainGet K C f = true := c.pg
def NoAttr (K : W.Frag) (C : Addr) (f : Str) : Prop := W.findIn K (.ref C) f = some none
theorem NoAttr.taker {K : W.Frag} {C : Addr} {f : Str} (n : NoAttr K C f) : W.takerIn K C f = some none := by
 unfold W.takerIn
 rw [show W.findIn K (.ref C) f = some none from n]
 rfl
structure Con (K : W.Frag) (C : Addr) (f : Str) (v : V) (u : Value) : Prop where
 at_ : W.findIn K (.ref C) f = some (some u)
 rel : RelV v u
 get : W.specialIn K u "__get__" = some none
 cp : W.copiedNames.contains f = false
structure Meth (K : W.Frag) (C : Addr) (m : Str) (f : Addr) : Prop where
 at_ : W.findIn K (.ref C) m = some (some (.ref f))
 fn : W.isFn K (.ref f) = true
 kp : W.keepIn K (.ref f) = true
section
variable {X : Cx} {pins : List (Addr × Obj)} {σ : St} {H : Hp} {s : Shared} {a C dx : Addr} {fs : List (Str × V)} {f : Str} {v : V} {A : Around} {E : Value -> Shared -> Prop}
theorem yu8 {b : Bool} {Q : Value -> Shared -> Prop} (I : Inv X pins σ H s) (e : H a = some (.ins C dx fs)) (c : Cls X.K C) (n : NoAttr X.K C f) (l : fs.lookup f = some v)
  (h : ∀ u s', Inv X pins σ H s' -> RelV v u -> Q u s') : wpAny (model X.prog X.w) A (getAttr (.ref a) f b) Q E s := by
 obtain ⟨mA, O, r, _, _, _⟩ := ze8 I.hok e
 obtain ⟨u, hu, ru⟩ := RelO.some_of (v := v) (o := mA f) (by rw [<- l]; exact r f)
 exact xq9 I.kIn O (c.get f) c.hd n hu (yk2 ru) (h u _ (I.tok _) ru)
theorem zs1 {m : Str} {g : Addr} {pl : Sem Bool} {Q : Value × List Value -> Shared -> Prop} (I : Inv X pins σ H s) (e : H a = some (.ins C dx fs)) (c : Cls X.K C) (k : Meth X.K C m g) (l : fs.lookup m = none)
  (h : Q (.ref g, [.ref a]) s) : wpAny (model X.prog X.w) A (getMethod (.ref a) m pl) Q E s := by
 obtain ⟨mA, O, r, _, _, _⟩ := ze8 I.hok e
 have hn : mA m = none := RelO.none_of (by rw [<- l]; exact r m)
 exact yc6 I.kIn O (c.get m) k.at_ k.fn hn h
theorem yw4 {y : V} {u : Value} {Q : Unit -> Shared -> Prop} (I : Inv X pins σ H s) (e : H a = some (.ins C dx fs)) (c : Cls X.K C) (n : NoAttr X.K C f) (hl : fs.length < 1000) (ry : RelV y u)
  (h : ∀ s', Inv X pins σ (upd H a (.ins C dx (putF f y fs))) s' -> Q () s') : wpAny (model X.prog X.w) A (setAttr (.ref a) f u) Q E s := by
 obtain ⟨mA, O, r, wi, _, ho⟩ := ze8 I.hok e
 have hz : (fs.map (·.1)).length <= sizeLine := by rw [length_map, sizeLine_eq]; omega
 refine xw1 I.kIn O c.sa c.po n.taker c.hd wi hz fun h' O' sb => h _ ?_
 have hd : ∃ o, h'.get? dx = some o := let ⟨o, _, _, e', _⟩ := O'.ns; ⟨o, e'⟩
 refine I.write (x := a) (e := dx) (by rw [e]; exact True.intro) (.inr ho) (fun b q hb z => (sb.2 b hb).trans z) hd ?_
 refine ⟨by rw [x6 O.ne]; exact ho, ?_, O.ne, O'.obj, _, O'.ns, fun g => ?_, fun g hg => ?_⟩
 ·have := zx1 f y fs; omega
 ·show RelO ((putF f y fs).lookup g) (if g = f then some u else mA g)
  rw [zx0]
  by_cases q : g = f
  ·rw [if_pos q, if_pos q]; exact ry
  ·rw [if_neg q, if_neg q]; exact r g
 ·by_cases q : g = f
  ·rw [q]; exact (zx2 f y fs).1
  ·refine (zx2 f y fs).2 g (wi g fun z => hg ?_)
   show (if g = f then some u else mA g) = none
   rw [if_neg q]; exact z
theorem Inv.made (I : Inv X pins σ H s) : Inv X pins σ (upd (upd H s.heap.objs.size (.own (s.heap.objs.size + 1))) (s.heap.objs.size + 1) (.ins C s.heap.objs.size []))
  { s with heap := (s.heap.push W.emptyDict).push (W.instObj C s.heap.objs.size) } := by
 have e1 : (s.heap.push W.emptyDict).get? s.heap.objs.size = some W.emptyDict := Heap.get?_push_size s.heap rfl
 have e2 : ((s.heap.push W.emptyDict).push (W.instObj C s.heap.objs.size)).get? (s.heap.objs.size + 1) = some (W.instObj C s.heap.objs.size) := by
  have := Heap.get?_push_size (s.heap.push W.emptyDict) (o := W.instObj C s.heap.objs.size) rfl
  rwa [Heap.size_push] at this
 have e3 : (s.heap.push W.emptyDict).Ns s.heap.objs.size (fun _ => none) := ⟨W.emptyDict, #[], _, e1, rfl, (fun e he => absurd he (by simp)), fun _ => rfl⟩
 have I1 := I.laid (a := s.heap.objs.size) (o := .own (s.heap.objs.size + 1)) (h' := s.heap.push W.emptyDict) (t' := s.toks) (fun b u q => Heap.get?_push_of_some _ q) (Nat.le_refl _) ⟨_, e1⟩
 refine I1.laid (a := s.heap.objs.size + 1) (o := .ins C s.heap.objs.size []) (t' := s.toks) (fun b u q => Heap.get?_push_of_some _ q) (Nat.le_of_eq (Heap.size_push _ _)) ?_
 have ne : s.heap.objs.size ≠ s.heap.objs.size + 1 := Nat.ne_of_lt (Nat.lt_succ_self _)
 refine ⟨by rw [x6 ne, y8], Nat.zero_le _, ne, e2, fun _ => none, (Heap.Ns1.of_empty e3).at fun o q => Heap.get?_push_of_some _ q, fun _ => True.intro, fun y hy => absurd rfl hy⟩
theorem xn1 {prog : Program} {w : World} {env : Env} {e : Expr} {f : Str} {pos : Pos} {s : Shared} {Q : Value -> Shared -> Prop} (hb : attributeBase e f env (eval e env) = eval e env)
  (h : wpAny (model prog w) A (eval e env) (fun o s₁ => wpAny (model prog w) A (getAttr o f true) Q E s₁) E s) : wpAny (model prog w) A (eval (.Attribute e f pos) env) Q E s :=
 Attribute_any_ h (by rw [arm_eval_Attribute, hb])
end
def tFld (K : W.Frag) (ta : TE) (f : Str) : TE := fun σ H Q => ta σ H fun x H1 => ∃ a C dx fs v, x = .ref a /\ H1 a = some (.ins C dx fs) /\ Cls K C /\ NoAttr K C f /\ fs.lookup f = some v /\ Q v H1
def sFld (K : W.Frag) (ta tv : TE) (f : Str) : TS := fun D σ H => tv σ H fun y H1 => ta σ H1 fun x H2 => ∃ a C dx fs, x = .ref a /\ H2 a = some (.ins C dx fs) /\ Cls K C /\ NoAttr K C f /\ fs.length < 1000 /\
 D.nx σ (upd H2 a (.ins C dx (putF f y fs)))
section
variable {X : Cx} {o e value : Expr} {f : Str} {pos pos' tpos : Pos} {ta tv : TE}
theorem xz5 (he : PE X e ta) (hb : attributeBase e f X.env (eval e X.env) = eval e X.env) : PE X (.Attribute e f pos) (tFld X.K ta f) := by
 intro pins s σ H Q I h
 refine xn1 hb (thn (he pins s σ H _ I h) fun u s1 hpat => ?_)
 obtain ⟨x, H1, I1, rx, a, C, dx, fs, v, ex, ea, c, n, l, q⟩ := hpat
 subst ex
 obtain rfl : u = Value.ref a := rx
 exact yu8 I1 ea c n l fun u' s2 I2 ru => ⟨v, H1, I2, ru, q⟩
theorem xz4 (ha : PE X o ta) (hv : PE X value tv) (hs : swapsWith value (some (.Attribute o f pos')) pos.line X.env = pure false) : PS X (.Assign [.Attribute o f pos'] value pos) (sFld X.K ta tv f) := by
 intro pins s σ H D I h
 refine plainObj_wpAny_Assign_Attribute (thn (hv pins s σ H _ I h) fun u s1 ⟨y, H1, I1, ry, q⟩ => thn (ha pins s1 σ H1 _ I1 q) fun ov s2 hpat => ?_) hs
 obtain ⟨x, H2, I2, rx, a, C, dx, fs, ex, ea, c, n, l, q2⟩ := hpat
 subst ex
 obtain rfl : ov = Value.ref a := rx
 exact yw4 I2 ea c n l ry fun s3 I3 => ⟨σ, _, I3, q2⟩
end
section
variable {X : Cx} {pins : List (Addr × Obj)} {σ : St} {H : Hp} {s : Shared} {A : Around} {E : Value -> Shared -> Prop} {Q : Value -> Shared -> Prop} {c : Value} {b : Bool}
inductive TyOf (K : W.Frag) (H : Hp) : V -> Value -> Prop where
 | non : TyOf K H .non (.type "NoneType")
 | bl (x : Bool) : TyOf K H (.bl x) (.type "bool")
 | int (i : Int) : TyOf K H (.int i) (.type "int")
 | str (x : Str) : TyOf K H (.str x) (.type "str")
 | flt (x : UInt64) : TyOf K H (.flt x) (.type "float")
 | lst {a : Addr} {xs : List V} (e : H a = some (.lst xs)) : TyOf K H (.ref a) (.type "list")
 | frz {a : Addr} {o : Obj} {xs : List V} (e : H a = some (.frz o (.lst xs))) : TyOf K H (.ref a) (.type "list")
 | tup {a : Addr} {xs : List V} (e : H a = some (.tup xs)) : TyOf K H (.ref a) (.type "tuple")
 | dK {a : Addr} {kvs : List (Key × V)} (e : H a = some (.dK kvs)) : TyOf K H (.ref a) (.type "dict")
 | dT {a : Addr} {kvs : List (List Key × V)} (e : H a = some (.dT kvs)) : TyOf K H (.ref a) (.type "dict")
 | ins {a C dx : Addr} {fs : List (Str × V)} (e : H a = some (.ins C dx fs)) (cl : Cls K C) (ha : W.findIn K (.ref C) "__class__" = some (some (.builtin "object.__class__")))
   (hn : W.specialIn K (.builtin "object.__class__") "__get__" = some (some (.builtin "getset_descriptor.__get__"))) (htk : W.takesIn K (.builtin "object.__class__") = some true)
   (hm : W.mroIn K C (.type "object") = some true) : TyOf K H (.ref a) (.ref C)
end
end
section
structure Room (k : Nat) (A : Around) : Prop where
 hd : A.handled = none
 dp : A.depth + 3 * k + 5 < recursionLimit
 un : A.units + 16 * k + 200 < cLine
theorem Room.mono {j k : Nat} {A : Around} (r : Room k A) (h : j <= k) : Room j A := ⟨r.hd, by have := r.dp; omega, by have := r.un; omega⟩
theorem Room.deeper {k : Nat} {A : Around} (r : Room (k + 1) A) (env : Env) : Room k (A.deeper env) :=
 ⟨r.hd, by have := r.dp; show A.depth + 1 + 3 * k + 5 < _; omega, by have := r.un; show A.units + 3 + 16 * k + 200 < _; omega⟩
theorem Room.in1 {k : Nat} {A : Around} (r : Room (k + 1) A) : Room k A.in1 :=
 ⟨r.hd, by have := r.dp; show A.depth + 3 * k + 5 < _; omega, by have := r.un; show A.units + 1 + 16 * k + 200 < _; omega⟩
theorem yu0 {A : Around} {C : Addr} {us : List Value} {kw : List (Str × Value)} : (A.under (.builtin "type.__call__" ⟨.ref C :: us, kw⟩)).depth = A.depth + 1 := by
 first | rfl | simp [Around.under, Code.weight, Code.isCreation, Code.isGuard, Code.isCaller, Code.frames, Code.isFrame, guardIds]
theorem yv9 {A : Around} {C : Addr} {us : List Value} {kw : List (Str × Value)} : (A.under (.builtin "type.__call__" ⟨.ref C :: us, kw⟩)).units = A.units + 1 := by
 first | rfl | simp [Around.under, Code.cUnits, Code.frames, Code.isFrame]
theorem Room.make {k : Nat} {A : Around} (r : Room (k + 1) A) (C : Addr) (us : List Value) (kw : List (Str × Value)) : Room k (A.under (.builtin "type.__call__" ⟨.ref C :: us, kw⟩)) :=
 ⟨r.hd, by have := r.dp; rw [yu0]; omega, by have := r.un; rw [yv9]; omega⟩
theorem Room.depth {k : Nat} {A : Around} (r : Room k A) : A.depth < recursionLimit := by have := r.dp; omega
theorem Room.units {k : Nat} {A : Around} (r : Room k A) : A.units + 64 < cLine := by have := r.un; omega
def tNil : TA := fun _ H Q => Q [] H
def xk8 (ta : TE) (tr : TA) : TA := fun σ H Q => ta σ H fun x H1 => tr σ H1 fun xs H2 => Q (x :: xs) H2
section
variable {X : Cx} {e : Expr} {es : List Expr} {te : TE} {t : TA} {pos : Pos}
theorem pa_nil : PA X [] tNil := fun _ _ _ _ H Q I h => Calls.spliced_nil ⟨[], H, I, .nil, h⟩
theorem f7 (ha : PE X e te) (hr : PA X es t) (hs : starEach (e :: es) X.env = (false, eval e X.env) :: starEach es X.env := by rfl) : PA X (e :: es) (xk8 te t) := by
 intro pos pins s σ H Q I h
 rw [hs]
 show wpAny _ _ (spliced ((false, eval e X.env) :: backTo pos (starEach es X.env))) _ _ s
 refine Calls.spliced_cons (thn (ha pins s σ H _ I h) fun u s1 hpat => ?_)
 obtain ⟨x, H1, I1, r1, q1⟩ := hpat
 exact thn (hr pos pins s1 σ H1 _ I1 q1) fun us s2 ⟨xs, H2, I2, r2, q2⟩ => ⟨x :: xs, H2, I2, .cons r1 r2, q2⟩
def tTup (t : TA) : TE := fun σ H Q => t σ H fun xs H1 => xs.length <= sizeLine /\ ∀ p, H1 p = none -> Q (.ref p) (upd H1 p (.tup xs))
def tLst (t : TA) : TE := fun σ H Q => t σ H fun xs H1 => xs.length <= sizeLine /\ ∀ p, H1 p = none -> Q (.ref p) (upd H1 p (.lst xs))
theorem xi6 {x1} (h : PA X es t) : PE X (.Tuple es x1 pos) (tTup t) := by
 intro pins s σ H Q I hq
 refine wpAny_Tuple_spliced (thn (h pos pins s σ H _ I hq) fun us s1 ⟨xs, H1, I1, r, z, q⟩ => ⟨by rw [<- r.length]; exact z, ?_⟩)
 have hf : H1 s1.heap.objs.size = none := I1.hok.fresh (Nat.le_refl _)
 refine ⟨.ref s1.heap.objs.size, upd H1 s1.heap.objs.size (.tup xs), I1.laid (t' := s1.toks) (fun b u e => Heap.get?_push_of_some _ e) (Nat.le_refl _) ?_, rfl, q _ hf⟩
 exact ⟨z, us, r, ⟨_, Heap.get?_push_size _ rfl, rfl, _, rfl⟩⟩
theorem yp3 (h : PA X es t) : PE X (.List es pos) (tLst t) := by
 intro pins s σ H Q I hq
 refine wpAny_List_spliced (thn (h pos pins s σ H _ I hq) fun us s1 ⟨xs, H1, I1, r, z, q⟩ => ⟨by rw [<- r.length]; exact z, ?_⟩)
 have hf : H1 s1.heap.objs.size = none := I1.hok.fresh (Nat.le_refl _)
 refine ⟨.ref s1.heap.objs.size, upd H1 s1.heap.objs.size (.lst xs), I1.laid (t' := s1.toks) (fun b u e => Heap.get?_push_of_some _ e) (Nat.le_refl _) ?_, rfl, q _ hf⟩
 exact ⟨z, us, 0, r, Heap.get?_push_size _ rfl⟩
end
abbrev Sp := List V -> Hp -> VK -> XK -> Prop
abbrev CXT := List Env -> Hp -> Shared -> XK -> Value -> Shared -> Prop
structure Env0 (P : Program) (w : World) (K : W.Frag) (mg : Str -> Option Value) (base : Heap) (A : Around) (outer : List Env) (s : Shared) (H : Hp) : Prop where
 frames : A.frames = some outer
 mod : Mod K mg base
 bs : ∀ b o, base.get? b = some o -> s.heap.get? b = some o /\ H b = none
 bsz : base.objs.size <= s.heap.objs.size
 funs : s.heap.FunFrames base outer
 frf : ∀ b ∈ frs outer, H b = none
 hok : HOk P w H s.heap
 bare : AllBare s.gens
def CE (outer : List Env) (P : Program) (w : World) (H : Hp) (s : Shared) (Q : VK) (u : Value) (s' : Shared) : Prop :=
 ∃ v H', s'.os = s.os /\ AllBare s'.gens /\ Un (frs outer) [] H H' s.heap s'.heap /\ HOk P w H' s'.heap /\ RelV v u /\ Q v H'
def CR (CX : CXT) (outer : List Env) (P : Program) (w : World) (H : Hp) (s : Shared) (Q : VK) (E : XK) (r : Result) (s' : Shared) : Prop :=
 match r with
 | .ok (.ret u) => CE outer P w H s Q u s'
 | .ok _ => False
 | .error e => CX outer H s E e s'
structure FnOk (P : Program) (w : World) (K : W.Frag) (mg : Str -> Option Value) (base : Heap) (CX : CXT) (k : Nat) (f : Addr) (fd : FuncData) (ps : List Str) (sp : Sp) : Prop where
 len : ∀ vs H Q E, sp vs H Q E -> vs.length = ps.length
 run : ∀ (A : Around) (outer : List Env) (s : Shared) (H : Hp) (args : Args) (us : List Value) (vs : List V) (Q : VK) (E : XK), Room k A -> Env0 P w K mg base A outer s H -> BindsTo s fd args (ps.zip us) -> Vals vs us -> sp vs H Q E ->
  codeAny (model P w) A (.call (.ref f) args) (CR CX outer P w H s Q E) s
theorem FnOk.mono {P : Program} {w : World} {K : W.Frag} {mg : Str -> Option Value} {base : Heap} {CX : CXT} {j k : Nat} {f : Addr} {fd : FuncData} {ps : List Str} {sp : Sp} (F : FnOk P w K mg base CX j f fd ps sp) (h : j <= k) :
  FnOk P w K mg base CX k f fd ps sp := ⟨F.len, fun A outer s H args us vs Q E hr => F.run A outer s H args us vs Q E (hr.mono h)⟩
theorem Env0.make {P : Program} {w : World} {K : W.Frag} {mg : Str -> Option Value} {base : Heap} {A : Around} {outer : List Env} {s : Shared} {H : Hp} (e : Env0 P w K mg base A outer s H) (C : Addr) (us : List Value) (kw : List (Str × Value)) :
  Env0 P w K mg base (A.under (.builtin "type.__call__" ⟨.ref C :: us, kw⟩)) outer s H := ⟨by first | exact e.frames | (simpa [Around.under, Code.envs, Code.isFrame, pushEnvs] using e.frames), e.mod, e.bs, e.bsz, e.funs, e.frf, e.hok, e.bare⟩
section
variable {X : Cx} {pins : List (Addr × Obj)} {σ : St} {H : Hp} {s s' : Shared}
theorem Inv.env0 (I : Inv X pins σ H s) : Env0 X.prog X.w X.K X.mg X.base X.A X.stack s H :=
 ⟨I.ok.frames, I.ok.mod, I.bs, Nat.le_trans I.ok.bsz I.sz, I.stack, I.stkFree, I.hok, I.bare⟩
theorem Inv.after {Q : VK} {u : Value} (I : Inv X pins σ H s) (h : CE X.stack X.prog X.w H s Q u s') : EP X pins σ Q u s' := by
 obtain ⟨v, H', os, bare, un, hok, r, q⟩ := h
 obtain ⟨hh, g, d, t, os'⟩ := s'
 obtain rfl : os' = s.os := os
 exact ⟨v, H', I.call (h' := hh) (g' := g) (d' := d) (t' := t) (ch := []) un hok bare (fun b z => absurd z (by simp)), r, q⟩
end
def yw3 (sp : Sp) (dvs : List V) (E : XK) (t : TA) : TE := fun σ H Q => t σ H fun vs H1 => sp (vs ++ dvs) H1 Q E
def zv5 (C : Addr) (m : Str) (sp : Sp) (dvs : List V) (E : XK) (ta : TE) (t : TA) : TE := fun σ H Q => ta σ H fun x H1 => ∃ a dx fs, x = .ref a /\ H1 a = some (.ins C dx fs) /\ fs.lookup m = none /\
 t σ H1 fun vs H2 => sp (x :: (vs ++ dvs)) H2 Q E
def xx8 (C : Addr) (sp : Sp) (dvs : List V) (E : XK) (t : TA) : TE := fun σ H Q => t σ H fun vs H1 => ∀ x dx, H1 x = none -> H1 dx = none -> dx ≠ x ->
 sp (.ref x :: (vs ++ dvs)) (upd (upd H1 dx (.own x)) x (.ins C dx [])) (fun v H2 => v = .non /\ Q (.ref x) H2) E
def Binds (K : W.Frag) (fd : FuncData) (ps : List Str) (ds : List Value) : Prop :=
 ∀ (s : Shared) (us : List Value), K.In s.heap -> (us ++ ds).length = ps.length -> BindsTo s fd ⟨us, []⟩ (ps.zip (us ++ ds))
theorem Binds.all {K : W.Frag} {fd : FuncData} {ps : List Str} (h : ∀ us : List Value, us.length = ps.length -> bindArgs fd ⟨us, []⟩ = pure (ps.zip us)) : Binds K fd ps [] := fun s us _ hl => by
 rw [append_nil] at hl ⊢
 exact .of_eq (h us hl)
def zv3 (CX : CXT) (X : Cx) (E : XK) : Prop := ∀ (pins : List (Addr × Obj)) (σ : St) (H : Hp) (s : Shared) (e : Value) (s' : Shared), Inv X pins σ H s -> CX X.stack H s E e s' -> X.xe e s'
section
variable {X : Cx} {CX : CXT} {k : Nat} {f C : Addr} {fd : FuncData} {ps : List Str} {sp : Sp} {dvs : List V} {ds : List Value} {E : XK} {x m : Str} {p pos apos : Pos} {e o : Expr} {es : List Expr} {ta : TE} {t : TA}
theorem yr4 {pins : List (Addr × Obj)} {σ : St} {H : Hp} {s : Shared} {Q : VK} {us : List Value} {vs : List V} (F : FnOk X.prog X.w X.K X.mg X.base CX k f fd ps sp) (hr : Room k X.A) (hb : Binds X.K fd ps ds) (hd : Vals dvs ds) (hx : zv3 CX X E)
  (I : Inv X pins σ H s) (r : Vals vs us) (h : sp (vs ++ dvs) H Q E) : wpAny (model X.prog X.w) X.A (call (.ref f) us) (EP X pins σ Q) X.xe s := by
 have r2 : Vals (vs ++ dvs) (us ++ ds) := r.append hd
 have hl : (us ++ ds).length = ps.length := by rw [<- r2.length]; exact F.len _ _ _ _ h
 refine wpAny_call (codeAny_mono (F.run X.A X.stack s H ⟨us, []⟩ (us ++ ds) (vs ++ dvs) Q E hr I.env0 (hb s us I.kIn hl) r2 h) fun r s' hq => ?_)
 cases r with
 | error e => exact hx pins σ H s e s' I hq
 | ok fl =>
  cases fl with
  | ret u => exact I.after hq
  | next => exact False.elim hq
  | brk => exact False.elim hq
  | cont => exact False.elim hq
theorem xt4 (F : FnOk X.prog X.w X.K X.mg X.base CX k f fd ps sp) (hr : Room k X.A) (hg : Gl X x) (hm : X.mg x = some (.ref f)) (hk : W.keepIn X.K (.ref f) = true) (hb : Binds X.K fd ps ds) (hd : Vals dvs ds) (hx : zv3 CX X E)
  (ha : PA X (e :: es) t) (hdb : (x == ("__debug__" : Str)) = false := by decide) (he : starEach (e :: es) X.env = (false, eval e X.env) :: starEach es X.env := by rfl) (hpl : (backTo pos (starEach es X.env)).any (·.1) = false := by rfl) :
  PE X (.Call (.Name x p) (e :: es) [] pos) (yw3 sp dvs E t) := by
 intro pins s σ H Q I h
 refine wpAny_Call_Name_kw (ze6 I hg hm ?_ hdb)
 refine W.callWith_K (h₀ := X.base) I.ok.mod.kin hk (thn (ha pos pins s σ H _ I h) fun us s1 ⟨vs, H1, I1, r, q⟩ => ⟨I1.kIn, ?_⟩) he hpl
 exact yr4 F hr hb hd hx I1 r q
theorem xt2 {pl : Sem Bool} (he : PE X o ta) (c : Cls X.K C) (hm : Meth X.K C m f) (F : FnOk X.prog X.w X.K X.mg X.base CX k f fd ps sp) (hr : Room k X.A) (hb : Binds X.K fd ps ds) (hd : Vals dvs ds) (hx : zv3 CX X E) (ha : PA X (e :: es) t)
  (hst : starEach (e :: es) X.env = (false, eval e X.env) :: starEach es X.env := by rfl) (hpl : (backTo pos (starEach es X.env)).any (·.1) = false := by rfl)
  (ht : eval (.Call (.Attribute o m apos) (e :: es) [] pos) X.env = (do
   let ov ← eval o X.env
   standAt apos.atName
   let (f, first) ← holding [ov] (getMethod ov m pl)
   callWith pos f first (backTo pos (starEach (e :: es) X.env)) (backToKw pos (keywordEach [] X.env))) := by rfl) :
  PE X (.Call (.Attribute o m apos) (e :: es) [] pos) (zv5 C m sp dvs E ta t) := by
 intro pins s σ H Q I h
 refine W.methodCall_KW (pl := pl) (thn (he pins s σ H _ I h) fun u s1 hpat => ?_) ht
 obtain ⟨x, H1, I1, rx, a, dx, fs, ex, ea, l, q⟩ := hpat
 subst ex
 obtain rfl : u = Value.ref a := rx
 refine zs1 I1 ea c hm l ?_
 refine W.callWith_K (first := [.ref a]) (h₀ := X.base) I.ok.mod.kin hm.kp (thn (ha pos pins s1 σ H1 _ I1 q) fun us s2 ⟨vs, H2, I2, r, q2⟩ => ⟨I2.kIn, ?_⟩) hst hpl
 exact yr4 (us := .ref a :: us) (vs := .ref a :: vs) F hr hb hd hx I2 (.cons rfl r) q2
theorem yf5 {pl : Sem Bool} (he : PE X o ta) (c : Cls X.K C) (hm : Meth X.K C m f) (F : FnOk X.prog X.w X.K X.mg X.base CX k f fd ps sp) (hr : Room k X.A) (hb : Binds X.K fd ps ds) (hd : Vals dvs ds) (hx : zv3 CX X E)
  (ht : eval (.Call (.Attribute o m apos) [] [] pos) X.env = (do
   let ov ← eval o X.env
   standAt apos.atName
   let (f, first) ← holding [ov] (getMethod ov m pl)
   callWith pos f first (backTo pos (starEach [] X.env)) (backToKw pos (keywordEach [] X.env))) := by rfl) :
  PE X (.Call (.Attribute o m apos) [] [] pos) (zv5 C m sp dvs E ta tNil) := by
 intro pins s σ H Q I h
 refine W.methodCall_KW (pl := pl) (thn (he pins s σ H _ I h) fun u s1 hpat => ?_) ht
 obtain ⟨x, H1, I1, rx, a, dx, fs, ex, ea, l, q⟩ := hpat
 subst ex
 obtain rfl : u = Value.ref a := rx
 refine zs1 I1 ea c hm l ?_
 exact W.callWith_K0 (first := [.ref a]) I1.kIn hm.kp (yr4 (us := [.ref a]) (vs := [.ref a]) F hr hb hd hx I1 (.cons rfl .nil) q)
structure Mk (K : W.Frag) (C f : Addr) : Prop where
 makes : W.makesIn K C = true
 init : W.findIn K (.ref C) "__init__" = some (some (.ref f))
 fn : W.isFn K (.ref f) = true
 kp : W.keepIn K (.ref C) = true
theorem yg2 {pins : List (Addr × Obj)} {σ : St} {H : Hp} {s : Shared} {Q : VK} {us : List Value} {vs : List V} (M : Mk X.K C f) (F : FnOk X.prog X.w X.K X.mg X.base CX k f fd ps sp) (hr : Room (k + 1) X.A) (hb : Binds X.K fd ps ds) (hd : Vals dvs ds)
  (hx : zv3 CX X E) (I : Inv X pins σ H s) (r : Vals vs us)
  (h : ∀ x dx, H x = none -> H dx = none -> dx ≠ x -> sp (.ref x :: (vs ++ dvs)) (upd (upd H dx (.own x)) x (.ins C dx [])) (fun v H2 => v = .non /\ Q (.ref x) H2) E) :
  wpAny (model X.prog X.w) X.A (call (.ref C) us) (EP X pins σ Q) X.xe s := by
 have hq := h (s.heap.objs.size + 1) s.heap.objs.size (I.hok.fresh (Nat.le_succ _)) (I.hok.fresh (Nat.le_refl _)) (Nat.ne_of_lt (Nat.lt_succ_self _))
 have I2 := Inv.made (C := C) I
 have r2 : Vals (V.ref (s.heap.objs.size + 1) :: (vs ++ dvs)) (Value.ref (s.heap.objs.size + 1) :: (us ++ ds)) := .cons rfl (r.append hd)
 have hl : (Value.ref (s.heap.objs.size + 1) :: us ++ ds).length = ps.length := by
  have e := r2.length
  rw [F.len _ _ _ _ hq] at e
  exact e.symm
 refine wpAny_call (yd6 (f := f) I.kIn M.makes M.init (beq_iff_eq.mp M.fn) (codeAny_mono (F.run _ X.stack _ _ ⟨Value.ref (s.heap.objs.size + 1) :: us, []⟩ (Value.ref (s.heap.objs.size + 1) :: (us ++ ds)) _ _ E (hr.make C us [])
  (I2.env0.make C us []) (hb _ (Value.ref (s.heap.objs.size + 1) :: us) I2.kIn hl) r2 hq) fun r s' hq' => ?_))
 cases r with
 | error e => exact hx pins σ _ _ e s' I2 hq'
 | ok fl =>
  cases fl with
  | ret u =>
   obtain ⟨v, H', I3, rv, ev, q3⟩ := I2.after hq'
   subst ev
   exact ⟨rv, ⟨V.ref (s.heap.objs.size + 1), H', I3, rfl, q3⟩⟩
  | next => exact False.elim hq'
  | brk => exact False.elim hq'
  | cont => exact False.elim hq'
theorem xt3 (M : Mk X.K C f) (F : FnOk X.prog X.w X.K X.mg X.base CX k f fd ps sp) (hr : Room (k + 1) X.A) (hg : Gl X x) (hm : X.mg x = some (.ref C)) (hb : Binds X.K fd ps ds) (hd : Vals dvs ds) (hx : zv3 CX X E)
  (ha : PA X (e :: es) t) (hdb : (x == ("__debug__" : Str)) = false := by decide) (he : starEach (e :: es) X.env = (false, eval e X.env) :: starEach es X.env := by rfl) (hpl : (backTo pos (starEach es X.env)).any (·.1) = false := by rfl) :
  PE X (.Call (.Name x p) (e :: es) [] pos) (xx8 C sp dvs E t) := by
 intro pins s σ H Q I h
 refine wpAny_Call_Name_kw (ze6 I hg hm ?_ hdb)
 refine W.callWith_K (h₀ := X.base) I.ok.mod.kin M.kp (thn (ha pos pins s σ H _ I h) fun us s1 ⟨vs, H1, I1, r, q⟩ => ⟨I1.kIn, ?_⟩) he hpl
 exact yg2 M F hr hb hd hx I1 r q
end
def PK (X : Cx) (kws : List Keyword) (t : TA) : Prop :=
 ∀ (pos : Pos) (pins : List (Addr × Obj)) (s : Shared) (σ : St) (H : Hp) (Q : List V -> Hp -> Prop), Inv X pins σ H s -> t σ H Q -> wpAny (model X.prog X.w) X.A (evalAll ((backToKw pos (keywordEach kws X.env)).map (·.2))) (AP X pins σ Q) X.xe s
section
variable {X : Cx} {CX : CXT} {k : Nat} {f C : Addr} {fd : FuncData} {ps ks : List Str} {sp : Sp} {E : XK} {x m : Str} {p pos apos kpos : Pos} {e o : Expr} {es : List Expr} {kws : List Keyword} {te ta : TE} {t tk : TA} {nm : Option Str}
theorem yq8 : PK X [] tNil := fun _ _ _ _ H Q I h => wpAny_evalAll_nil ⟨[], H, I, .nil, h⟩
theorem zr6 (ha : PE X e te) (hr : PK X kws t) : PK X (⟨nm, e, kpos⟩ :: kws) (xk8 te t) := by
 intro pos pins s σ H Q I h
 show wpAny _ _ (evalAll ((do let v ← eval e X.env; standAt pos; pure v) :: (backToKw pos (keywordEach kws X.env)).map (·.2))) _ _ s
 refine wpAny_evalAll_cons (wpAny_bind (thn (ha pins s σ H _ I h) fun u s1 ⟨x, H1, I1, r1, q1⟩ => wpAny_bind (wpAny_standAt (wpAny_pure ?_))))
 exact thn (hr pos pins s1 σ H1 _ I1 q1) fun us s2 ⟨xs, H2, I2, r2, q2⟩ => ⟨x :: xs, H2, I2, .cons r1 r2, q2⟩
structure KBinds (K : W.Frag) (fd : FuncData) (ps ks : List Str) (g : List Value -> List Value -> List Value) (gV : List V -> List V -> List V) : Prop where
 to : ∀ (s : Shared) (us ws : List Value), K.In s.heap -> (g us ws).length = ps.length -> BindsTo s fd ⟨us, ks.zip ws⟩ (ps.zip (g us ws))
 rel : ∀ {vs : List V} {us : List Value} {zs : List V} {ws : List Value}, Vals vs us -> Vals zs ws -> Vals (gV vs zs) (g us ws)
variable {g : List Value -> List Value -> List Value} {gV : List V -> List V -> List V}
end
structure FnScope (N P : List Str) (sc : Scope) : Prop where
 kind : sc.kind = .function
 co : sc.isCoroutine = false
 gen : sc.isGenerator = false
 nd : N.Nodup
 pre : N.take P.length = P
 par : ∀ x ∈ P, sc.names.lookup x = some .local \/ sc.names.lookup x = some .cell
 nofree : ∀ y ∈ sc.names, y.2 ≠ .free
theorem zi9 {kindOf : Str -> Option NameKind} {x : Str} : ∀ {binds : List (Str × Value)} {m : Str -> Option Value}, (∀ v, (x, v) ∉ binds) -> bindL kindOf binds m x = m x
 | [], _, _ => rfl
 | (n, v) :: r, m, h => by
  unfold bindL
  rw [zi9 fun w hw => h w (mem_cons_of_mem _ hw)]
  split
  ·have : x ≠ n := by rintro rfl; exact h v mem_cons_self
   simp [this]
  ·rfl
theorem zh1 {kindOf : Str -> Option NameKind} {x : Str} : ∀ {binds : List (Str × Value)} {m : Str -> Option Value}, (∀ v, (x, v) ∉ binds) -> bindC kindOf binds m x = m x
 | [], _, _ => rfl
 | (n, v) :: r, m, h => by
  unfold bindC
  rw [zh1 fun w hw => h w (mem_cons_of_mem _ hw)]
  split
  ·rfl
  ·have : x ≠ n := by rintro rfl; exact h v mem_cons_self
   simp [this]
theorem zh0 {kindOf : Str -> Option NameKind} {x : Str} {v : Value} : ∀ {P : List Str} {vs : List Value} {i : Nat} {m : Str -> Option Value}, P.Nodup -> P[i]? = some x -> vs[i]? = some v -> kindOf x = some .local ->
  bindL kindOf (P.zip vs) m x = some v
 | [], _, _, _, _, h, _, _ => by simp at h
 | _ :: _, [], _, _, _, _, h, _ => by simp at h
 | p :: P, w :: vs, 0, m, nd, h1, h2, hk => by
  simp at h1 h2; subst h1; subst h2
  show bindL kindOf ((p, w) :: P.zip vs) m p = _
  unfold bindL
  rw [zi9 fun v hv => (List.nodup_cons.mp nd).1 (of_mem_zip hv).1, if_pos hk]
  simp
 | p :: P, w :: vs, i + 1, m, nd, h1, h2, hk => by
  show bindL kindOf ((p, w) :: P.zip vs) m x = _
  unfold bindL
  exact zh0 (i := i) (List.nodup_cons.mp nd).2 (by simpa using h1) (by simpa using h2) hk
theorem zh2 {kindOf : Str -> Option NameKind} {x : Str} {v : Value} : ∀ {P : List Str} {vs : List Value} {i : Nat} {m : Str -> Option Value}, P.Nodup -> P[i]? = some x -> vs[i]? = some v -> kindOf x ≠ some .local ->
  bindC kindOf (P.zip vs) m x = some v
 | [], _, _, _, _, h, _, _ => by simp at h
 | _ :: _, [], _, _, _, _, h, _ => by simp at h
 | p :: P, w :: vs, 0, m, nd, h1, h2, hk => by
  simp at h1 h2; subst h1; subst h2
  show bindC kindOf ((p, w) :: P.zip vs) m p = _
  unfold bindC
  rw [zh1 fun v hv => (List.nodup_cons.mp nd).1 (of_mem_zip hv).1, if_neg hk]
  simp
 | p :: P, w :: vs, i + 1, m, nd, h1, h2, hk => by
  show bindC kindOf ((p, w) :: P.zip vs) m x = _
  unfold bindC
  exact zh2 (i := i) (List.nodup_cons.mp nd).2 (by simpa using h1) (by simpa using h2) hk
def start (N : List Str) (vs : List V) : St := vs.map some ++ List.replicate (N.length - vs.length) none
def cxOf (CX : CXT) (P : Program) (w : World) (K : W.Frag) (mg : Str -> Option Value) (base : Heap) (N : List Str) (qual : Str) (scope : Scope) (f : Addr) (cd : Value) (A : Around) (outer : List Env) (s : Shared) (H : Hp) (E : XK) : Cx where
 prog := P
 w := w
 K := K
 mg := mg
 base := base
 A := A.deeper (envOfC qual scope s.heap.objs.size f cd)
 N := N
 s₀ := s
 H₀ := H
 env := envOfC qual scope s.heap.objs.size f cd
 outer := outer
 stack := envOfC qual scope s.heap.objs.size f cd :: outer
 ex := []
 calm := true
 fn := fun _ => true
 pn := []
 xe := fun e s' => wpAny (model P w) (A.deeper (envOfC qual scope s.heap.objs.size f cd)) (leaving (envOfC qual scope s.heap.objs.size f cd) e) (fun _ s'' => CX outer H s E e s'') (fun e' s'' => CX outer H s E e' s'') s'
theorem yx0 {sc : Scope} {n : Nat} {x : Str} (h : sc.names.lookup x = some .cell) : ∃ c, (cellsFrom n sc.names []).lookup x = some c := by
 have q := W.cellsFrom_some sc.names n [] (.inl h)
 exact Option.isSome_iff_exists.mp q
theorem ym9 {CX : CXT} {P : Program} {w : World} {K : W.Frag} {mg : Str -> Option Value} {base : Heap} {N ps : List Str} {qual : Str} {scope : Scope} {f : Addr} {cd : Value} {A : Around} {outer : List Env} {s s1 : Shared} {H : Hp} {E : XK} {us : List Value} {vs : List V}
  (S : FnScope N ps scope) (hd : A.handled = none) (e0 : Env0 P w K mg base A outer s H) (hl : vs.length = ps.length) (r : Vals vs us)
  (x : InCallC s s.heap.objs.size (bindL (envOfC qual scope s.heap.objs.size f cd).kindOf (ps.zip us) fun _ => none) (cellsFrom (s.heap.objs.size + 1) scope.names []) (bindC (envOfC qual scope s.heap.objs.size f cd).kindOf (ps.zip us) fun _ => none) s1) :
  Inv (cxOf CX P w K mg base N qual scope f cd A outer s H E) [] (start N vs) H s1 := by
 have hpl : ps.length <= N.length := by have := congrArg List.length S.pre; rw [length_take] at this; omega
 obtain ⟨h1, tk, rfl, hk⟩ := x.done
 have noA : ∀ b : Addr, b ∉ (cxOf CX P w K mg base N qual scope f cd A outer s H E).ex := fun b z => absurd (show b ∈ ([] : List Addr) from z) (by simp)
 refine ⟨⟨e0.mod, S.kind, rfl, rfl, Nat.le_refl _, fun y z c h1 h2 => ?_, fun y hy => ?_, fun y c _ h => ?_, fun _ => hd, Around.frames_deeper e0.frames, .inr ⟨rfl, rfl⟩, fun b z => absurd z (noA b), e0.bs, e0.bsz, fun b _ _ => noA b, fun b z => absurd z (noA b), e0.funs, e0.frf⟩,
  rfl, e0.bare, Un.kept hk, ⟨_, x.toInCall.ns, fun i y v h1 h2 h3 => ?_⟩, fun y c h => ⟨_, x.cell y c h⟩, e0.hok.fresh (Nat.le_refl _), fun y c h => ?_, fun p hp => absurd (show p ∈ ([] : List (Addr × Obj)) from hp) (by simp), e0.hok.kept hk, ?_⟩
 ·exact name_of_addr x.apart (PySem.mem_of_lookup h1) (PySem.mem_of_lookup h2)
 ·have hy : scope.names.lookup y = some .cell \/ scope.names.lookup y = some .free := hy
  rcases hy with hy | hy
  ·exact yx0 hy
  ·exact absurd rfl (S.nofree _ (PySem.mem_of_lookup hy))
 ·exact Nat.le_of_lt (x.above y c (PySem.mem_of_lookup h))
 ·have hi : i < vs.length := by
   unfold start at h2
   by_cases hi : i < vs.length
   ·exact hi
   ·rw [getElem?_append_right (by simpa using hi)] at h2
    rw [getElem?_replicate] at h2
    split at h2 <;> cases h2
  have ha : vs[i]? = some v := by
   unfold start at h2
   rw [getElem?_append_left (by simpa using hi), getElem?_map] at h2
   cases e : vs[i]? with
   | none => rw [e] at h2; cases h2
   | some a => rw [e] at h2; cases h2; rfl
  obtain ⟨u, hu, rv⟩ := r.get ha
  have hp : ps[i]? = some y := by
   rw [<- S.pre, getElem?_take_of_lt (by omega)]; exact h1
  have ndP : ps.Nodup := by rw [<- S.pre]; exact S.nd.sublist (take_sublist _ _)
  refine ⟨u, rv, ?_⟩
  rcases S.par y (mem_of_getElem? hp) with k | k
  ·exact .inl ⟨k, zh0 ndP hp hu k⟩
  ·obtain ⟨c, e⟩ := yx0 (n := s.heap.objs.size + 1) k
   refine .inr ⟨.inl k, c, e, ?_⟩
   have q := x.cell y c e
   rw [zh2 ndP hp hu (by show scope.names.lookup y ≠ _; rw [k]; decide)] at q
   exact q
 ·exact e0.hok.fresh (Nat.le_of_lt (x.above y c (PySem.mem_of_lookup h)))
 ·unfold start
  show _ = N.length
  rw [length_append, length_map, length_replicate]
  omega
theorem ww2 {CX : CXT} {P : Program} {w : World} {K : W.Frag} {mg : Str -> Option Value} {base : Heap} {k : Nat} {f : Addr} {name qual : Str} {params : Arguments} {body : List Stmt} {scope : Scope} {dV kV doc pm cdv ct oc : Value} {an od : Option Addr}
  {osl : Array (Option Value)} {N ps : List Str} {sp : Sp} (lk : K.lookup f = some ⟨oc, od, .func (W.fnOf name qual params body scope dV kV doc pm an cdv ct), osl⟩) (hcd : W.codeIn K cdv qual = true) (S : FnScope N ps scope)
  (len : ∀ vs H Q E, sp vs H Q E -> vs.length = ps.length)
  (hbody : ∀ (A : Around) (outer : List Env) (s : Shared) (H : Hp) (vs : List V) (Q : VK) (E : XK), Room k (A.deeper (envOfC qual scope s.heap.objs.size f cdv)) -> sp vs H Q E ->
   ∃ t, PSs (cxOf CX P w K mg base N qual scope f cdv A outer s H E) body t /\ t { nx := fun _ H' => Q .non H', rt := Q } (start N vs) H) :
  FnOk P w K mg base CX (k + 1) f (W.fnOf name qual params body scope dV kV doc pm an cdv ct) ps sp := by
 refine ⟨len, fun A outer s H args us vs Q E hr e0 hb r hsp => ?_⟩
 have hl := len _ _ _ _ hsp
 have KX : K.In s.heap := e0.mod.kin.keeps fun b o e => (e0.bs b o e).1
 have lim : s.heap.NoLimit := e0.mod.nolimit.keeps fun b o e => (e0.bs b o e).1
 have hkind : ∀ y ∈ ps.zip us, scope.names.lookup y.1 = some .local \/ (scope.names.lookup y.1 = some .cell /\ ((cellsFrom (s.heap.objs.size + 1) scope.names []).lookup y.1).isSome = true) := fun ⟨n, v⟩ hy => by
  rcases S.par n (of_mem_zip hy).1 with q | q
  ·exact .inl q
  ·exact .inr ⟨q, W.cellsFrom_some _ _ _ (.inl q)⟩
 refine codeAny_call_function hr.depth (KX _ _ lk) rfl S.co S.gen rfl (W.codeRec_of KX hcd) (hb _ _ _ _ ?_)
 refine wpAny_newFunctionEnv_cells S.kind hkind fun env he s1 x => ?_
 subst he
 refine ⟨lim.keeps x.toInCall.keep, codeAny_func ?_⟩
 obtain ⟨t, ht, hq⟩ := hbody A outer s H vs Q E (hr.deeper _) hsp
 have I : Inv (cxOf CX P w K mg base N qual scope f cdv A outer s H E) [] (start N vs) H s1 := ym9 S hr.hd e0 hl r x
 refine wpAny_mono (ht [] s1 (start N vs) H _ I hq) (fun fl s' hs => ?_) fun e s' hs => hs
 have fin : ∀ {σ' : St} {H' : Hp} {v : V} {u : Value}, Inv (cxOf CX P w K mg base N qual scope f cdv A outer s H E) [] σ' H' s' -> RelV v u -> Q v H' -> CE outer P w H s Q u s' :=
  fun {σ' H' v u} J rv q => ⟨v, H', J.os, J.bare, J.base, J.hok, rv, q⟩
 cases fl with
 | ret u =>
  obtain ⟨v, σ', H', J, rv, q⟩ := hs
  exact fin J rv q
 | next =>
  obtain ⟨σ', H', J, q⟩ := hs
  exact fin (v := V.non) (u := Value.none) J rfl q
 | brk =>
  obtain ⟨_, _, _, q⟩ := hs
  exact False.elim q
 | cont =>
  obtain ⟨_, _, _, q⟩ := hs
  exact False.elim q
end
section
section
variable {X : Cx} {x : Str} {p pos : Pos} {e : Expr} {es : List Expr} {t : TA} {id T : String} {r : List V -> Hp -> VK -> Prop}
def tCB (r : List V -> Hp -> VK -> Prop) (t : TA) : TE := fun σ H Q => t σ H fun vs H1 => r vs H1 Q
theorem O6 (hc : zu4 X (.builtin id) r) (hg : Gl X x) (hm : X.mg x = none) (hv : bootBuiltins x = some (.builtin id)) (ha : PA X (e :: es) t) (hn : x ≠ "__name__" := by decide) (hdb : (x == ("__debug__" : Str)) = false := by decide)
  (he : starEach (e :: es) X.env = (false, eval e X.env) :: starEach es X.env := by rfl) (hpl : (backTo pos (starEach es X.env)).any (·.1) = false := by rfl) : PE X (.Call (.Name x p) (e :: es) [] pos) (tCB r t) := by
 intro pins s σ H Q I h
 refine wpAny_Call_Name_kw (G0 I hg hm hv ?_ hn hdb)
 exact PyProof.Rows.callWith_builtin1 (thn (ha pos pins s σ H _ I h) fun us s1 ⟨vs, H1, I1, r1, q1⟩ => hc pins s1 σ H1 vs us Q I1 r1 q1) he hpl
theorem zm4 (hc : zu4 X (.type T) r) (hg : Gl X x) (hm : X.mg x = none) (hv : bootBuiltins x = some (.type T)) (ha : PA X (e :: es) t) (hn : x ≠ "__name__" := by decide) (hdb : (x == ("__debug__" : Str)) = false := by decide)
  (he : starEach (e :: es) X.env = (false, eval e X.env) :: starEach es X.env := by rfl) (hpl : (backTo pos (starEach es X.env)).any (·.1) = false := by rfl) : PE X (.Call (.Name x p) (e :: es) [] pos) (tCB r t) := by
 intro pins s σ H Q I h
 refine wpAny_Call_Name_kw (G0 I hg hm hv ?_ hn hdb)
 exact PyProof.Rows.callWith_type1 (thn (ha pos pins s σ H _ I h) fun us s1 ⟨vs, H1, I1, r1, q1⟩ => hc pins s1 σ H1 vs us Q I1 r1 q1) he hpl
end
end
end L2
namespace HT
open PySem PyProof.Rows
theorem rcLt_int (A : Around) (s : Shared) (a : Int) (t : Tok) (c : Int) (u : Tok) (prog : Program) (w : World) (E : Value -> Shared -> Prop) (Q : Value -> Shared -> Prop) (h : Q (.bool (decide (a < c))) s) :
  wpAny (model prog w) A (richCompare .Lt (.int a t) (.int c u)) Q E s :=
 (PyProof.Rows.lt_int h : wpAny (model prog w) A (compareOp .Lt (.int a t) (.int c u)) Q E s)
section
open PySem.SeqAt
open PySem.AutoSeq1 (wpAny_loadPart')
open PySem.MeetsSeq PySem.MeetsSeq2 PySem.MeetsSeq3
end
section
variable {prog : Program} {w : World} {A : Around} {E : Value -> Shared -> Prop} {s : Shared}
def sIx (n d : Nat) : Option Int -> Nat
 | none => d
 | some v => if v < 0 then (v + (n : Int)).toNat else min v.toNat n
theorem sIx_none (n d : Nat) : sIx n d none = d := rfl
theorem sIx_nat (n d k : Nat) : sIx n d (some (k : Int)) = min k n := by
 show (if (k : Int) < 0 then ((k : Int) + (n : Int)).toNat else min (k : Int).toNat n) = min k n
 rw [if_neg (by omega), Int.toNat_natCast]
end
end HT
namespace L2
open List
open PySem PySem.Spec PyProof.Rows
section
abbrev TO := St -> Hp -> (Option Int -> Hp -> Prop) -> Prop
def PO (X : Cx) (e : Option Expr) (t : TO) : Prop :=
 ∀ (pins : List (Addr × Obj)) (s : Shared) (σ : St) (H : Hp) (Q : Option Int -> Hp -> Prop), Inv X pins σ H s -> t σ H Q ->
  wpAny (model X.prog X.w) X.A (evalPart e X.env) (fun u s' => ∃ o H', Inv X pins σ H' s' /\ IsPart u o /\ Q o H') X.xe s
def xx7 : TO := fun _ H Q => Q none H
def xa4 (t : TE) : TO := fun σ H Q => t σ H fun x H1 => ∃ i, x = .int i /\ Q (some i) H1
section
variable {X : Cx} {e : Expr} {te : TE} {lo hi : Option Expr} {tl th : TO} {pos p2 : Pos}
theorem xt0 : PO X none xx7 := by
 intro pins s σ H Q I h
 rw [evalPart_none]
 exact wpAny_pure ⟨none, H, I, .none, h⟩
theorem xu9 (h : PE X e te) : PO X (some e) (xa4 te) := by
 intro pins s σ H Q I hw
 rw [evalPart_some]
 refine thn (h pins s σ H _ I hw) fun u s1 hpat => ?_
 obtain ⟨x, H1, I1, r1, q1⟩ := hpat
 obtain ⟨i, rfl, q⟩ := q1
 obtain ⟨t, rfl⟩ := r1
 exact ⟨some i, H1, I1, .int i t, q⟩
def SlR (X : Cx) (r : V -> Option Int -> Option Int -> Hp -> VK -> Prop) : Prop :=
 ∀ (pins : List (Addr × Obj)) (s : Shared) (σ : St) (H : Hp) (x : V) (v vl vu : Value) (lo hi : Option Int) (sl : Addr) (Q : VK), Inv X pins σ H s -> RelV x v -> s.heap.IsSliceOf sl vl vu .none -> IsPart vl lo -> IsPart vu hi -> r x lo hi H Q ->
  ∃ T id, typeLookup (.type T) "__getitem__" = pure (some (.builtin id)) /\ s.TypeIs v T /\ wpAny (model X.prog X.w) X.A (getItem v (.ref sl)) (EP X pins σ Q) X.xe s
def tSl (r : V -> Option Int -> Option Int -> Hp -> VK -> Prop) (te : TE) (tl th : TO) : TE := fun σ H Q => te σ H fun x H1 => tl σ H1 fun l H2 => th σ H2 fun u H3 => r x l u H3 Q
theorem yf3 {r : V -> Option Int -> Option Int -> Hp -> VK -> Prop} (hr : SlR X r) (he : PE X e te) (hl : PO X lo tl) (hu : PO X hi th) : PE X (.Subscript e (.Slice lo hi none p2) pos) (tSl r te tl th) := by
 intro pins s σ H Q I h
 refine Subscript_ (thn (he pins s σ H _ I h) fun v s1 hpat => ?_)
 obtain ⟨x, H1, I1, r1, q1⟩ := hpat
 refine wpAny_Slice (thn (hl pins s1 σ H1 _ I1 q1) fun vl s2 ⟨l, H2, I2, pl, q2⟩ => thn (hu pins s2 σ H2 _ I2 q2) fun vu s3 hpat => ?_)
 obtain ⟨u, H3, I3, pu, q3⟩ := hpat
 rw [evalPart_none]
 refine wpAny_pure ?_
 have I4 : Inv X pins σ H3 { s3 with heap := s3.heap.push { cls := .type "slice", data := .fields #[vl, vu, .none] } } := I3.kept (t' := s3.toks) fun b ob q => Heap.get?_push_of_some _ q
 obtain ⟨T, id, hT, ht, hg⟩ := hr pins { s3 with heap := s3.heap.push { cls := .type "slice", data := .fields #[vl, vu, .none] } } σ H3 x v vl vu l u s3.heap.objs.size Q I4 r1 (Heap.IsSliceOf.new ..) pl pu q3
 show wpAny (model X.prog X.w) X.A (subscriptTail e (.Slice lo hi none p2) v (.ref s3.heap.objs.size)) (EP X pins σ Q) X.xe { s3 with heap := s3.heap.push { cls := .type "slice", data := .fields #[vl, vu, .none] } }
 exact tail_any (ops := [.ref s3.heap.objs.size, v]) ht hT hg (by with_unfolding_all rfl)
def cutV (xs : List V) (lo hi : Option Int) : List V := (xs.drop (HT.sIx xs.length 0 lo)).take (HT.sIx xs.length xs.length hi - HT.sIx xs.length 0 lo)
theorem zd8 (xs : List V) (lo hi : Option Int) : (cutV xs lo hi).length <= xs.length := by
 unfold cutV
 rw [length_take, length_drop]
 omega
end
end
section
def ixN (n : Nat) (i : Int) : Option Nat := if 0 <= i then (if i < n then some i.toNat else none) else if -(n : Int) <= i then some (i + n).toNat else none
def atI {α : Type} (xs : List α) (i : Int) : Option α := (ixN xs.length i).bind fun j => xs[j]?
theorem ym8 {n : Nat} {i : Int} {j : Nat} (h : ixN n i = some j) : seqIndex? i n = some j /\ j < n /\ -(n : Int) <= i /\ i < n := by
 unfold ixN at h
 by_cases h0 : 0 <= i
 ·rw [if_pos h0] at h
  by_cases h1 : i < n
  ·rw [if_pos h1] at h
   have e : i.toNat = j := Option.some.inj h
   exact ⟨by rw [seqIndex_of h0 h1, e], by omega, by omega, h1⟩
  ·rw [if_neg h1] at h; cases h
 ·rw [if_neg h0] at h
  by_cases h1 : -(n : Int) <= i
  ·rw [if_pos h1] at h
   have e : (i + n).toNat = j := Option.some.inj h
   exact ⟨by rw [seqIndex_neg (by omega) h1, e], by omega, h1, by omega⟩
  ·rw [if_neg h1] at h; cases h
theorem yi7 {α : Type} {xs : List α} {i : Int} {v : α} (h : atI xs i = some v) : ∃ j, seqIndex? i xs.length = some j /\ xs[j]? = some v /\ j < xs.length /\ -(xs.length : Int) <= i /\ i < xs.length := by
 unfold atI at h
 cases e : ixN xs.length i with
 | none => rw [e] at h; cases h
 | some j =>
  rw [e] at h
  obtain ⟨h1, h2, h3, h4⟩ := ym8 e
  exact ⟨j, h1, h, h2, h3, h4⟩
theorem atI_last {α : Type} (xs : List α) (v : α) : atI (xs ++ [v]) (-1) = some v := by
 have hl : (xs ++ [v]).length = xs.length + 1 := by simp
 have e : ixN (xs ++ [v]).length (-1) = some xs.length := by
  unfold ixN
  rw [hl, if_neg (by decide), if_pos (by omega)]
  congr 1
  omega
 unfold atI
 rw [e]
 show (xs ++ [v])[xs.length]? = some v
 simp
def zv2 (b : Expr) : Prop := ∀ o i, subscripted b false o i = operate [o, i] (getItem o i)
def IxR (X : Cx) (r : R2) : Prop :=
 ∀ (value slice : Expr) (pins : List (Addr × Obj)) (s : Shared) (σ : St) (H : Hp) (x y : V) (v u : Value) (Q : VK), Inv X pins σ H s -> RelV x v -> RelV y u -> r x y H Q ->
  subscripted slice false v u = operate [v, u] (getItem v u) -> wpAny (model X.prog X.w) X.A (subscriptTail value slice v u) (EP X pins σ Q) X.xe s
def MtR (X : Cx) (id : String) (r : V -> List V -> Hp -> VK -> Prop) : Prop :=
 ∀ (pins : List (Addr × Obj)) (s : Shared) (σ : St) (H : Hp) (x : V) (xs : List V) (v : Value) (us : List Value) (Q : VK), Inv X pins σ H s -> RelV x v -> Vals xs us -> r x xs H Q ->
  wpAny (model X.prog X.w) X.A (call (.builtin id) (v :: us)) (EP X pins σ Q) X.xe s
section
variable {X : Cx} {a b : Expr} {ta tb : TE} {pos : Pos}
theorem yf6 {r : R2} (hr : IxR X r) (ha : PE X a ta) (hb : PE X b tb) (hs : zv2 b) : PE X (.Subscript a b pos) (tOp r ta tb) := by
 intro pins s σ H Q I h
 exact Subscript_ (binT ha hb I h fun v u s2 x y H2 I2 rx ry q => hr a b pins s2 σ H2 x y v u Q I2 rx ry q (hs _ _))
def rIxL (K : W.Frag) : R2 := fun x y H Q => ∃ p xs i v, x = .ref p /\ y = .int i /\ SqL K H p xs /\ atI xs i = some v /\ Q v H
def rIxT (K : W.Frag) : R2 := fun x y H Q => ∃ p xs i v, x = .ref p /\ y = .int i /\ SqT K H p xs /\ atI xs i = some v /\ Q v H
theorem ym7 : IxR X (rIxL X.K) := by
 intro value slice pins s σ H x y v u Q I rx ry h hs
 obtain ⟨p, xs, i, z, rfl, rfl, hq, he, q⟩ := h
 cases rx
 obtain ⟨t, rfl⟩ := ry
 obtain ⟨its, r, pl, hz⟩ := I.list hq
 obtain ⟨j, h1, h2, h3, h4, h5⟩ := yi7 he
 obtain ⟨w, ew, rw'⟩ := r.get h2
 have hl := r.length
 have hn := zj2
 have fin : EP X pins σ Q w s := ⟨z, H, I, rw', q⟩
 by_cases h0 : 0 <= i
 ·have hj : i.toNat = j := by
   rw [seqIndex_of h0 h5] at h1
   exact Option.some.inj h1
  exact item_listR pl.isList h0 (by omega) (by rw [hj]; simpa using ew) fin hs
 ·have hj : (i + (its.toArray.size : Int)).toNat = j := by
   rw [seqIndex_neg (by omega) h4] at h1
   rw [size_toArray, <- hl]
   exact Option.some.inj h1
  exact subscriptTail_builtinR (x := w) pl.isList.typeIs slot_list_getitem.lookup
   (wpAny_getItem_list_neg (Q := fun r s' => r = w /\ EP X pins σ Q r s') pl.isList (by omega) (by rw [size_toArray] <;> omega) (by omega) (by rw [hj]; simpa using ew) ⟨rfl, fin⟩) hs
theorem xe7 : IxR X (rIxT X.K) := by
 intro value slice pins s σ H x y v u Q I rx ry h hs
 obtain ⟨p, xs, i, z, rfl, rfl, hq, he, q⟩ := h
 cases rx
 obtain ⟨t, rfl⟩ := ry
 obtain ⟨its, r, pl, hz⟩ := I.tuple hq
 obtain ⟨j, h1, h2, h3, h4, h5⟩ := yi7 he
 obtain ⟨w, ew, rw'⟩ := r.get h2
 have hl := r.length
 have hn := zj2
 have fin : EP X pins σ Q w s := ⟨z, H, I, rw', q⟩
 exact subscriptTail_builtinR (x := w) pl.typeIs slot_tuple_getitem.lookup
  (getItem_tuple (j := j) (Q := fun r s' => r = w /\ EP X pins σ Q r s') pl (by omega) (by omega) (by rw [size_toArray, <- hl]; exact h1) (by simpa using ew) ⟨rfl, fin⟩) hs
theorem yv7 (its : List Value) (n j : Nat) (u : Value) : Obj.mapSeq (·.setIfInBounds j u) { cls := .type "list", data := .seq its.toArray n } = { cls := .type "list", data := .seq (its.set j u).toArray n } := by
 simp [Obj.mapSeq]
theorem Inv.lst {pins : List (Addr × Obj)} {σ : St} {H : Hp} {s : Shared} {p : Addr} {xs : List V} (I : Inv X pins σ H s) (h : H p = some (.lst xs)) :
  ∃ (its : List Value) (n : Nat), Vals xs its /\ s.heap.get? p = some { cls := .type "list", data := .seq its.toArray n } /\ xs.length <= sizeLine := by
 obtain ⟨z, its, n, r, e⟩ := I.hok p _ h
 exact ⟨its, n, r, e, z⟩
theorem Inv.lstUpd {pins : List (Addr × Obj)} {σ : St} {H : Hp} {s : Shared} {p : Addr} {xs ys : List V} {its its' : List Value} {n n' : Nat} {f : Obj -> Obj} (I : Inv X pins σ H s) (h : H p = some (.lst xs))
  (ho : s.heap.get? p = some { cls := .type "list", data := .seq its.toArray n }) (hf : f { cls := .type "list", data := .seq its.toArray n } = { cls := .type "list", data := .seq its'.toArray n' }) (r : Vals ys its') (hz : ys.length <= sizeLine) (t : Nat) :
  Inv X pins σ (upd H p (.lst ys)) { s with heap := s.heap.update p f, toks := t } := by
 have e : (s.heap.update p f).get? p = some { cls := .type "list", data := .seq its'.toArray n' } := by
  rw [Heap.get?_update_self f ho (by rw [hf] <;> rfl), hf]
 refine I.write (x := p) (e := p) (by rw [h]; trivial) (.inl rfl) (fun b u hb q => (Heap.get?_update_other _ _ (Ne.symm hb)).trans q) ⟨_, e⟩ ?_
 exact ⟨hz, its', n', r, e⟩
def xj7 : V -> V -> V -> Hp -> (Hp -> Prop) -> Prop := fun o i v H Q => ∃ p xs k j, o = .ref p /\ i = .int k /\ H p = some (.lst xs) /\ ixN xs.length k = some j /\ Q (upd H p (.lst (xs.set j v)))
theorem X6 : PSet X xj7 := by
 intro pins s σ H o i v ov iv u Q I ro ri rv h
 obtain ⟨p, xs, k, j, rfl, rfl, hp, hj, q⟩ := h
 cases ro
 obtain ⟨t, rfl⟩ := ri
 obtain ⟨its, n, r, ho, hz⟩ := I.lst hp
 obtain ⟨h1, h2, h3, h4⟩ := ym8 hj
 have hl := r.length
 have hn := zj2
 have I' : Inv X pins σ (upd H p (.lst (xs.set j v))) { s with heap := s.heap.update p (Obj.mapSeq (·.setIfInBounds j u)) } :=
  I.lstUpd hp ho (yv7 its n j u) (r.set rv j) (by rw [length_set]; exact hz) s.toks
 by_cases h0 : 0 <= k
 ·have hk : k.toNat = j := by
   rw [seqIndex_of h0 h4] at h1
   exact Option.some.inj h1
  exact W.ki_setAt ho h0 (by omega) (by rw [size_toArray, <- hl]; exact h4) (by rw [hk]; exact ⟨_, I', q⟩)
 ·have hk : (k + (its.toArray.size : Int)).toNat = j := by
   rw [seqIndex_neg (by omega) h3] at h1
   rw [size_toArray, <- hl]
   exact Option.some.inj h1
  exact W.ki_setBack ho (by omega) (by rw [size_toArray, <- hl]; exact h3) (by omega) (by rw [hk]; exact ⟨_, I', q⟩)
theorem zo8 (lo hi : Option Int) (n : Nat) : (sliceBounds lo hi none n).1 = ((HT.sIx n 0 lo : Nat) : Int) /\ (sliceBounds lo hi none n).2.1 = ((HT.sIx n n hi : Nat) : Int) /\ (sliceBounds lo hi none n).2.2 = 1 := by
 refine ⟨?_, ?_, rfl⟩
 ·cases lo with
  | none => simp [sliceBounds, HT.sIx]
  | some i =>
   simp only [sliceBounds, HT.sIx, Option.getD_none, show (1 : Int) > 0 by decide, if_true]
   by_cases h : i < 0
   ·simp only [h, if_true] <;> omega
   ·simp only [h, if_false] <;> omega
 ·cases hi with
  | none => simp [sliceBounds, HT.sIx]
  | some i =>
   simp only [sliceBounds, HT.sIx, Option.getD_none, show (1 : Int) > 0 by decide, if_true]
   by_cases h : i < 0
   ·simp only [h, if_true] <;> omega
   ·simp only [h, if_false] <;> omega
theorem zr1 (its : List Value) (lo hi : Option Int) : slicePick its.toArray lo hi none = ((its.drop (HT.sIx its.length 0 lo)).take (HT.sIx its.length its.length hi - HT.sIx its.length 0 lo)).toArray := by
 obtain ⟨h1, h2, h3⟩ := zo8 lo hi its.toArray.size
 unfold slicePick
 rw [h1, h2, h3]
 simp only [sliceRange_one, pick_run, size_toArray] <;> rfl
def rSlL (K : W.Frag) : V -> Option Int -> Option Int -> Hp -> VK -> Prop := fun x lo hi H Q => ∃ a xs, x = .ref a /\ SqL K H a xs /\ ∀ p, H p = none -> Q (.ref p) (upd H p (.lst (cutV xs lo hi)))
theorem xw0 : SlR X (rSlL X.K) := by
 intro pins s σ H x v vl vu lo hi sl Q I rx hs pl pu h
 obtain ⟨a, xs, rfl, hx, q⟩ := h
 cases rx
 obtain ⟨its, r, ht, hz⟩ := I.list hx
 have hlen := r.length
 refine ⟨"list", _, slot_list_getitem.lookup, ht.isList.typeIs, ?_⟩
 refine wpAny_getItem_list_slice ht.isList hs pl pu .none (by simp) ?_ (by rw [size_toArray] <;> omega)
 rw [zr1, <- hlen]
 refine ⟨.ref s.heap.objs.size, _, I.laid (t' := s.toks) (o := .lst (cutV xs lo hi)) (fun b ob q => Heap.get?_push_of_some _ q) (Nat.le_refl _) ?_, rfl, q _ (I.hok.fresh (Nat.le_refl _))⟩
 exact ⟨Nat.le_trans (zd8 xs lo hi) hz, _, 0, (r.drop (HT.sIx xs.length 0 lo)).take (HT.sIx xs.length xs.length hi - HT.sIx xs.length 0 lo), Heap.get?_push_size _ rfl⟩
theorem zi7 : zu4 X (.builtin "len") (fun xs H Q => ∃ p ys, xs = [.ref p] /\ (SqL X.K H p ys \/ SqT X.K H p ys) /\ Q (.int ys.length) H) := by
 intro pins s σ H xs us Q I r h
 obtain ⟨p, ys, rfl, hq, q⟩ := h
 obtain ⟨u, rfl, rx⟩ := C3 r
 cases rx
 have hn := zj2
 rcases hq with hq | hq
 ·obtain ⟨its, r', pl, hz⟩ := I.list hq
  have hlen := r'.length
  exact Calls.call_len_list pl.isList (by simp only [size_toArray] <;> omega) ⟨.int ys.length, H, I.tok _, ⟨s.toks + 1, by rw [size_toArray, hlen]⟩, q⟩
 ·obtain ⟨its, r', pl, hz⟩ := I.tuple hq
  have hlen := r'.length
  exact len_tuple pl (by simp only [size_toArray] <;> omega) ⟨.int ys.length, H, I.tok _, ⟨s.toks + 1, by rw [size_toArray, hlen]⟩, q⟩
theorem zi6 : zu4 X (.type "list") (fun xs H Q => ∃ p ys, xs = [.ref p] /\ (SqL X.K H p ys \/ SqT X.K H p ys) /\ ∀ l, H l = none -> Q (.ref l) (upd H l (.lst ys))) := by
 intro pins s σ H xs us Q I r h
 obtain ⟨p, ys, rfl, hq, q⟩ := h
 obtain ⟨u, rfl, rx⟩ := C3 r
 cases rx
 have fin : ∀ (its : List Value), Vals ys its -> ys.length <= sizeLine -> ∀ (h' : Heap) (c' : Nat), (∀ b o', s.heap.get? b = some o' -> h'.get? b = some o') ->
   h'.get? s.heap.objs.size = some { cls := .type "list", dict := none, data := .seq its.toArray c', slots := #[] } -> EP X pins σ Q (.ref s.heap.objs.size) { s with heap := h' } := fun its r' hz h' c' kp e =>
  ⟨.ref s.heap.objs.size, _, I.laid (t' := s.toks) kp (Nat.le_refl _) (show ObjOk X.prog X.w _ h' _ (.lst ys) from ⟨hz, its, c', r', e⟩), rfl, q _ (I.hok.fresh (Nat.le_refl _))⟩
 rcases hq with hq | hq
 ·obtain ⟨its, r', pl, hz⟩ := I.list hq
  have hlen := r'.length
  obtain ⟨o, ho, hc, n, hd⟩ := pl.isList
  exact call_list_seq p (.inl rfl) ho hc hd (fun h' c' kp e => fin its r' hz h' c' kp e) (by simp only [size_toArray] <;> omega)
 ·obtain ⟨its, r', pl, hz⟩ := I.tuple hq
  have hlen := r'.length
  obtain ⟨o, ho, hc, n, hd⟩ := pl
  exact call_list_seq p (.inr rfl) ho hc hd (fun h' c' kp e => fin its r' hz h' c' kp e) (by simp only [size_toArray] <;> omega)
def tyV (K : W.Frag) (T : String) (x : V) (H : Hp) : Prop := match x with
 | .str _ => T = "str"
 | .int _ => T = "int"
 | .ref p => (T = "list" /\ ∃ xs, SqL K H p xs) \/ (T = "tuple" /\ ∃ o, K.lookup p = some o /\ o.cls = .type "tuple" /\ o.dict = none) \/
   (T = "dict" /\ ((∃ kvs, H p = some (.dK kvs)) \/ ∃ kvs, H p = some (.dT kvs))) \/ (T = "set" /\ ∃ S n, H p = some (.set S n))
 | _ => False
theorem xm7 {pins : List (Addr × Obj)} {σ : St} {H : Hp} {s : Shared} {T : String} {x : V} {v : Value} (I : Inv X pins σ H s) (r : RelV x v) (ty : tyV X.K T x H) :
  s.TypeIs v T /\ ∀ a, v = .ref a -> ∃ ob, s.heap.get? a = some ob /\ ob.dict = none := by
 cases x with
 | str z =>
  obtain ⟨t, rfl⟩ := r
  cases (show T = "str" from ty)
  exact ⟨typeIs_str s z t, fun _ e => nomatch e⟩
 | int i =>
  obtain ⟨t, rfl⟩ := r
  cases (show T = "int" from ty)
  exact ⟨typeIs_int s i t, fun _ e => nomatch e⟩
 | ref p =>
  cases r
  rcases ty with ⟨rfl, xs, hq⟩ | ⟨rfl, o, hk, hc, hd⟩ | ⟨rfl, hk⟩ | ⟨rfl, S, n, hk⟩
  ·obtain ⟨its, _, pl, _⟩ := I.list hq
   refine ⟨pl.isList.typeIs, fun a e => ?_⟩
   cases e
   obtain ⟨o, n, e, c, hd, _⟩ := pl
   exact ⟨o, e, hd⟩
  ·refine ⟨⟨o, I.kIn p o hk, hc⟩, fun a e => ?_⟩
   cases e
   exact ⟨o, I.kIn _ o hk, hd⟩
  ·have z : ∃ o, s.heap.get? p = some o /\ o.ExactDict := by
    rcases hk with ⟨kvs, hk⟩ | ⟨kvs, hk⟩
    ·obtain ⟨_, _, _, _, o, _, _, e, ex, _⟩ := I.hok p _ hk
     exact ⟨o, e, ex⟩
    ·obtain ⟨_, _, _, _, o, _, _, e, ex, _⟩ := I.hok p _ hk
     exact ⟨o, e, ex⟩
   obtain ⟨o, e, ex⟩ := z
   refine ⟨⟨o, e, ex.1⟩, fun a e2 => ?_⟩
   cases e2
   exact ⟨o, e, ex.2.1⟩
  ·obtain ⟨o, _, _, _, e, ex, _⟩ := I.hok p _ hk
   refine ⟨⟨o, e, ex.1⟩, fun a e2 => ?_⟩
   cases e2
   exact ⟨o, e, ex.2.1⟩
 | _ => exact False.elim ty
def tBM (K : W.Frag) (T : String) (r : V -> List V -> Hp -> VK -> Prop) (to : TE) (t : TA) : TE := fun σ H Q => to σ H fun x H1 => tyV K T x H1 /\ t σ H1 fun xs H2 => r x xs H2 Q
variable {o e : Expr} {es : List Expr} {to : TE} {t : TA} {name : Str} {apos cpos : Pos} {T id : String} {r : V -> List V -> Hp -> VK -> Prop}
theorem wz9 (pa : PlainAttrs T) (slot : Slot T name id) (hty : typeOf (.builtin id) = pure (.type "method_descriptor")) (hm : MtR X id r) (ho : PE X o to) (ha : PA X (e :: es) t)
  (hbase : attributeBase o name X.env (eval o X.env) = eval o X.env := by rfl)
  (hfew : ((backTo cpos (starEach (e :: es) X.env)).all (fun x => !x.1) && (backToKw cpos (keywordEach [] X.env)).all (fun x => x.1.isSome)
   && decide ((e :: es).length + ([] : List Keyword).length + (if ([] : List Keyword).isEmpty then 0 else 1) < 30)) = true := by rfl)
  (hline : (apos.endLine == cpos.line) = true := by rfl) (hs : starEach (e :: es) X.env = (false, eval e X.env) :: starEach es X.env := by rfl) (hplain : (backTo cpos (starEach es X.env)).any (·.1) = false := by rfl) :
  PE X (.Call (.Attribute o name apos) (e :: es) [] cpos) (tBM X.K T r to t) := by
 intro pins s σ H Q I h
 refine wpAny_Call_method_late hbase hfew hline rfl (thn (ho pins s σ H _ I h) fun v s1 hpat => ?_)
 obtain ⟨x, H1, I1, r1, ty, q1⟩ := hpat
 obtain ⟨h1, h2⟩ := xm7 I1 r1 ty
 refine ⟨T, id, pa, slot, hty, h1, h2, ?_⟩
 have hA := ha cpos pins s1 σ H1 _ I1 q1
 rw [hs] at hA ⊢
 refine Calls.callWith_builtin (by show (false || (backTo cpos (starEach es X.env)).any (·.1)) = false; rw [hplain] <;> rfl) (Calls.evalArgs_plain ?_)
 exact thn hA fun us s2 ⟨vs, H2, I2, r2, q2⟩ => hm pins s2 σ H2 x vs v us Q I2 r1 r2 q2
end
end
section
def MtM (X : Cx) (id : String) (r : V -> List V -> Hp -> VK -> Prop) : Prop :=
 ∀ (pins : List (Addr × Obj)) (s : Shared) (σ : St) (H : Hp) (x : V) (xs : List V) (v : Value) (us : List Value) (Q : VK), Inv X pins σ H s -> RelV x v -> Vals xs us -> r x xs H Q ->
  wpAny (model X.prog X.w) X.A (call (.builtin id) (v :: us)) (EP X pins σ Q) X.xe s
theorem Vals.one : ∀ {x : V} {us : List Value}, Vals [x] us -> ∃ u, us = [u] /\ RelV x u
 | _, _, .cons r .nil => ⟨_, rfl, r⟩
theorem Vals.rep {xs : List V} {us : List Value} (h : Vals xs us) : ∀ k : Nat, Vals (List.replicate k xs).flatten (List.replicate k us).flatten
 | 0 => .nil
 | k + 1 => by
  rw [replicate_succ, replicate_succ, flatten_cons, flatten_cons]
  exact Vals.append h (Vals.rep h k)
theorem zj7 (its : List Value) : ∀ (k : Nat) (acc : List Value),
  List.foldl (fun x1 x2 => x1 ++ x2) acc.toArray (List.replicate k its.toArray) = (acc ++ (List.replicate k its).flatten).toArray
 | 0, acc => by simp
 | k + 1, acc => by
  have e : acc.toArray ++ its.toArray = (acc ++ its).toArray := by simp
  have e2 : (acc ++ its) ++ (List.replicate k its).flatten = acc ++ (List.replicate (k + 1) its).flatten := by
   rw [replicate_succ, flatten_cons, append_assoc]
  rw [<- e2, <- zj7 its k (acc ++ its), <- e, replicate_succ, foldl_cons]
section
variable {X : Cx} {pins : List (Addr × Obj)} {σ : St} {H : Hp} {s : Shared} {l b : Addr} {xs ys zs : List V}
theorem Inv.lset {its its' : List Value} {n : Nat} {f : Array Value -> Array Value} {t' : Nat} (I : Inv X pins σ H s) (hH : H l = some (.lst xs))
  (e : s.heap.get? l = some { cls := .type "list", data := .seq its.toArray n }) (hf : f its.toArray = its'.toArray) (hv : Vals ys its') (hz : ys.length <= sizeLine) :
  Inv X pins σ (upd H l (.lst ys)) { s with heap := s.heap.update l (Obj.mapSeq f), toks := t' } := by
 have q := PySem.IsL.update e f
 rw [hf] at q
 refine I.write (x := l) (e := l) (by rw [hH]; exact trivial) (.inl rfl) (fun b' u hb hu => (Heap.get?_update_other s.heap (Obj.mapSeq f) (Ne.symm hb)).trans hu) ⟨_, q⟩ ?_
 exact ⟨hz, its', _, hv, q⟩
theorem Inv.lnew {its : List Value} {t' : Nat} (I : Inv X pins σ H s) (hv : Vals ys its) (hz : ys.length <= sizeLine) :
  Inv X pins σ (upd H s.heap.objs.size (.lst ys)) { s with heap := s.heap.push { cls := .type "list", data := .seq its.toArray }, toks := t' } :=
 I.laid (fun _ _ q => Heap.get?_push_of_some _ q) (Nat.le_refl _) ⟨hz, its, 0, hv, Heap.get?_push_size _ rfl⟩
theorem Inv.fresh (I : Inv X pins σ H s) : H s.heap.objs.size = none := I.hok.fresh (Nat.le_refl _)
theorem Inv.lstM (I : Inv X pins σ H s) (hH : H l = some (.lst xs)) : xs.length <= sizeLine /\ ∃ (its : List Value) (n : Nat), Vals xs its /\ xs.length = its.length /\ s.heap.get? l = some { cls := .type "list", data := .seq its.toArray n } := by
 obtain ⟨z, its, n, r, e⟩ := I.hok l _ hH
 exact ⟨z, its, n, r, r.length, e⟩
theorem ye3 {n : Nat} (h : n <= sizeLine) : Builtin.List.listTooLong n = false := by
 unfold Builtin.List.listTooLong
 exact decide_eq_false (by omega)
end
section
variable {X : Cx}
def zz8 : V -> List V -> Hp -> VK -> Prop := fun x vs H Q => ∃ l xs y, x = .ref l /\ vs = [y] /\ H l = some (.lst xs) /\ xs.length < sizeLine /\ Q .non (upd H l (.lst (xs ++ [y])))
theorem zk0 : MtM X "list.append" zz8 := by
 intro pins s σ H x vs v us Q I rx rv h
 obtain ⟨l, xs, y, rfl, rfl, hH, hz, q⟩ := h
 cases rx
 obtain ⟨u, rfl, ru⟩ := rv.one
 obtain ⟨z, its, n, r, hl, e⟩ := I.lstM hH
 refine call_meets F.slot_list_append ⟨_, e, rfl⟩ F.entry_list_append (F.args_list_append_2 _ _) (PySem.list_append l its.toArray n u (by rw [size_toArray]; omega)) ⟨e, ?_⟩
 refine ⟨.non, _, I.lset (its' := its ++ [u]) hH e (by simp) (r.append (.cons ru .nil)) ?_, rfl, q⟩
 rw [length_append, length_singleton]
 omega
def rRep : R2 := fun x y H Q => ∃ l k xs, x = .ref l /\ y = .int k /\ H l = some (.lst xs) /\ -(2 ^ 63) <= k /\ k < 2 ^ 63 /\ xs.length * k.toNat <= sizeLine /\
 ∀ p, H p = none -> Q (.ref p) (upd H p (.lst (List.replicate k.toNat xs).flatten))
theorem xq3 {α : Type} (xs : List α) (k : Nat) : (List.replicate k xs).flatten.length = k * xs.length := by
 induction k with
 | zero => simp
 | succ k ih => rw [replicate_succ, flatten_cons, length_append, ih, Nat.succ_mul, Nat.add_comm]
theorem xh6 : OpR X (binaryOp .Mult) rRep := by
 intro pins s σ H x y v u Q I rx ry h
 obtain ⟨l, k, xs, rfl, rfl, hH, h1, h2, hz, q⟩ := h
 cases rx
 obtain ⟨t, rfl⟩ := ry
 obtain ⟨z, its, n, r, hl, e⟩ := I.lstM hH
 have hlen : its.toArray.size * k.toNat <= sizeLine := by rw [size_toArray, <- hl]; exact hz
 have hcap : ¬ its.toArray.size * k.toNat > (2 ^ 63 - 1) / 8 := by
  have : (sizeLine : Nat) <= (2 ^ 63 - 1) / 8 := by decide
  omega
 have hfit : ¬ (!Builtin.List.listFitsIndex k) = true := by
  rw [fitsIndex_both h1 h2]
  exact Bool.false_ne_true
 have hlong : ¬ Builtin.List.listTooLong (its.toArray.size * k.toNat) = true := by
  rw [ye3 hlen]
  exact Bool.false_ne_true
 have hnew : List.foldl (fun x1 x2 => x1 ++ x2) #[] (List.replicate (if its.toArray.isEmpty = true then 0 else k.toNat) its.toArray) = (List.replicate k.toNat its).flatten.toArray := by
  have f0 : ∀ m : Nat, List.foldl (fun x1 x2 => x1 ++ x2) #[] (List.replicate m its.toArray) = (List.replicate m its).flatten.toArray := fun m => by
   have := zj7 its m []
   rw [nil_append] at this
   exact this
  rw [f0]
  cases its with
  | nil => simp
  | cons a r' => rw [if_neg (by simp)]
 refine wpAny_binaryOp_repeat_ref (T := "list") (U := "int") (by decide) ⟨_, e, rfl⟩ (fun s' => typeIs_int s' k t) noFill_list_mul F.fills_int_mul F.slot_int_rmul repeat_list F.slot_int_index.lookup
  (call_meets F.slot_int_rmul (typeIs_int s k t) F.entry_int_rmul (F.args_int_rmul_2 _ _) (int___rmul___int_list k t l its.toArray n)
   ⟨e, rfl, ⟨_, e, rfl⟩, call_meets F.slot_list_mul ⟨_, e, rfl⟩ F.entry_list_mul (F.args_list_mul_2 _ _) (AutoListH.list___mul___list_int_3 l its.toArray n k t hfit hcap hlong) ⟨e, ?_⟩⟩)
 rw [hnew]
 exact ⟨.ref _, _, I.lnew (t' := s.toks) (r.rep k.toNat) (by rw [xq3, Nat.mul_comm]; exact hz), rfl, q _ I.fresh⟩
end
section
variable {prog : Program} {w : World} {A : Around} {E : Value -> Shared -> Prop} {s : Shared}
end
section
variable {X : Cx}
end
end
end L2
namespace Att
open PySem PySem.W PySem.Calls PyProof.Rows
theorem zx5 {P : Params} {h : Heap} : ∀ (ns : List Int) (vs : List Value), WellAll P h vs (ns.map WData.int) -> IntsAre vs ns := by
 intro ns
 induction ns with
 | nil =>
  intro vs w
  rw [List.map_nil] at w
  cases w
  exact .nil
 | cons n ns ih =>
  intro vs w
  rw [List.map_cons] at w
  cases w with
  | cons a b =>
   cases a
   exact .cons _ _ (ih _ b)
theorem ys8 {l : OpenLaw} {n : Nat} (hn : l.most = some n) {P : Params} {h : Heap} {args : List WData} {vals : List Value}
  (hpre : l.row.toRowW.claim.pre args = true) (hwl : WellAll P h vals args) :
  ∃ a vs ns, vals = [Value.ref a] /\ args = [WData.list (ns.map WData.int)] /\ h.get? a = some { cls := .type "list", data := .seq vs.toArray } /\ IntsAre vs ns /\ ns.length <= n := by
 have hsh : WShape.hasAll [] args [.list .int] = true := (pre_splitW hpre).1
 have hc : l.pre.holds [] { args := args } = true := (pre_splitW hpre).2
 obtain ⟨d, r, rfl, h1, h2⟩ := hasAllW_cons hsh
 obtain rfl := hasAllW_nil h2
 obtain ⟨xs, rfl, h3⟩ := hasW_list h1
 obtain ⟨ns, rfl⟩ := items_int h3
 have hlen : ns.length <= n := by
  unfold OpenLaw.pre at hc
  have h4 : (WTm.not (.lt (.lit (.int (n : Int))) (.len (.arg 0)))).holds [] { args := [.list (ns.map .int)] } = true := by
   have h4 := (holds_andW hc).1
   rw [hn] at h4
   exact h4
  have h5 := condW_of h4 (w_not (w_lt w_lit (w_len_list (w_arg rfl))))
  rw [List.length_map] at h5
  refine Nat.le_of_not_lt fun q => ?_
  have q' : (n : Int) < ((ns.length : Nat) : Int) := by omega
  first
   | (rw [decide_eq_true q'] at h5; exact absurd h5 (by decide))
   | (simp at h5; omega)
 cases hwl with
 | cons w1 w2 =>
  cases w2
  cases w1 with
  | list ho hall => exact ⟨_, _, ns, rfl, rfl, ho, zx5 ns _ hall, hlen⟩
theorem yq7 (l : OpenLaw) (args : List WData) : l.row.toRowW.claim.post args (.bool true) args = true :=
 postW_of (r := l.row.toRowW) (X := (true == true))
  (show WShape.has [] (.bool true) .bool = true by first | rfl | decide | simp [WShape.has, WShape.arms, WShape.armsAll])
  (show (WTm.eq .res (.lit (.bool true))).value [] { args := args, res := some (.bool true), after := args } = some (.bool (true == true)) from w_eq_bool (w_res rfl) w_lit) rfl
theorem attach_call {l : OpenLaw} {n : Nat} {q : Program} {loose : List Str} {XP : (Str -> Option Value) -> Heap -> Prop} {YP : World -> Heap -> Prop} {d : DefRec}
  (hn : l.most = some n) (hdf : d.params.defaults = [])
  (call : ∀ (w : World) (s₀ s₁ : Shared) (mg mb : Str -> Option Value) (fa : Addr) (o : Obj) (pm cd doc : Value) (a : Addr) (vs : List Value) (ns : List Int),
   Ground q loose [] XP w s₀ mg mb s₁.heap -> YP w s₁.heap ->
   s₁.heap.get? fa = some o -> o.data = .func (docDef d.name d.params d.body d.scope pm cd doc) -> s₁.heap.CodeRec cd d.name -> mg d.name = some (.ref fa) ->
   s₁.heap.get? a = some { cls := .type "list", data := .seq vs.toArray } -> IntsAre vs ns -> ns.length <= n -> s₁.gens = #[] ->
   codeAny (model l.prog w) callerA (.call (.ref fa) ⟨[.ref a], []⟩) (fun r s' => r = .ok (.ret (.bool true)) /\ OldK s₁.heap s'.heap /\ s'.os = s₁.os /\ AllBare s'.gens) s₁) :
  WalkO q loose XP YP l.row.toRowW d [] (fun f vs => PySem.call f vs) := by
 intro w s₀ s₁ mg mb G Y fa o pm cd doc dV kV ho hd hcd hD hmg hg args vals as hpre hlay hrd hwl hlo
 obtain rfl : dV = .none := Dflts.none hD hdf
 obtain rfl : kV = .none := Dflts.noKw hD
 obtain ⟨a, vs, ns, rfl, rfl, hobj, hints, hlen⟩ := ys8 hn hpre hwl
 refine enter_call (codeAny_mono (call w s₀ s₁ mg mb fa o pm cd doc a vs ns G Y ho (fd_plain hd) hcd hmg hobj hints hlen hg) fun r s' hq => ?_)
 obtain ⟨rfl, h2, h3, h4⟩ := hq
 exact ⟨.inl ⟨.bool true, .bool true, [], rfl, fun _ => rfl, .bool true, yq7 l _, fun _ => ⟨List.Pairwise.nil, fun _ hm => (nomatch hm)⟩⟩, h2, h3, h4⟩
section
variable {prog : Program} {w : World} {A : Around} {E : Value -> Shared -> Prop} {s : Shared} {K : Frag}
end
end Att
namespace L2
open List
open PySem PySem.Spec PyProof.Rows
section
theorem zo1 : ∀ {vs : List Value} {ns : List Int}, IntsAre vs ns -> Vals (ns.map V.int) vs
 | _, _, .nil => .nil
 | _, _, .cons n t h => .cons ⟨t, rfl⟩ (zo1 h)
def Only (H : Hp) : Prop := ∀ b, H b = none \/ ∃ o xs, H b = some (.frz o (.lst xs))
theorem yd9 {P : Program} {w : World} {K : W.Frag} {mg mb : Str -> Option Value} {CX : CXT} {k : Nat} {fa a : Addr} {fd : FuncData} {x : Str} {sp : Sp} {s₁ : Shared} {vs : List Value} {ns : List Int}
  (KX : K.In s₁.heap) (hns : s₁.heap.Ns mainGlobals mg) (hb : s₁.heap.Ns builtinsNs mb) (hbb : ∀ x : Str, x ≠ "__name__" -> mb x = bootBuiltins x) (hlim : s₁.heap.NoLimit) (hg : s₁.gens = #[])
  (ha : s₁.heap.get? a = some { cls := .type "list", data := .seq vs.toArray }) (hi : IntsAre vs ns) (hl : ns.length <= sizeLine) (hr : Room k callerA)
  (F : ∀ base : Heap, K.In base -> base.Ns mainGlobals mg -> FnOk P w K mg base CX k fa fd [x] sp) (hbind : ∀ (s : Shared) (u : Value), BindsTo s fd ⟨[u], []⟩ [(x, u)])
  (hsp : ∀ H : Hp, Only H -> SqL K H a (ns.map V.int) -> sp [.ref a] H (fun v _ => v = .bl true) fun _ _ _ => False)
  (hCX : ∀ H e s', CX [] H s₁ (fun _ _ _ => False) e s' -> False) :
  codeAny (model P w) callerA (.call (.ref fa) ⟨[.ref a], []⟩) (fun r s' => r = .ok (.ret (.bool true)) /\ OldK s₁.heap s'.heap /\ s'.os = s₁.os /\ AllBare s'.gens) s₁ := by
 have rv := zo1 hi
 have lenV := hi.length
 have core : ∀ H : Hp, Only H -> SqL K H a (ns.map V.int) -> HOk P w H s₁.heap -> (∀ b, H b ≠ none -> b = a) -> (H a ≠ none -> K.lookup a = none) ->
   codeAny (model P w) callerA (.call (.ref fa) ⟨[.ref a], []⟩) (fun r s' => r = .ok (.ret (.bool true)) /\ OldK s₁.heap s'.heap /\ s'.os = s₁.os /\ AllBare s'.gens) s₁ := by
  intro H hO hS hok hA hK
  have base_of : ∀ {b : Addr} {o : Obj}, s₁.heap.get? b = some o -> H b = none -> (hidT s₁.heap H).get? b = some o := fun e n => yc5 e n
  have noA : ∀ {b : Addr} {o : Obj} {es : Array DictEntry} {ep : Nat}, s₁.heap.get? b = some o -> o.data = .dict es ep -> H b = none := fun {b o es ep} e d => by
   cases q : H b with
   | none => rfl
   | some u =>
    have e' : b = a := hA b (by rw [q]; simp)
    subst e'
    rw [ha] at e; cases e
    have d' : Data.seq vs.toArray _ = Data.dict es ep := d
    cases d'
  have nsK : ∀ {b : Addr} {m : Str -> Option Value}, s₁.heap.Ns b m -> (hidT s₁.heap H).Ns b m := fun {b m} ⟨o, es, ep, e, d, r⟩ => ⟨o, es, ep, base_of e (noA e d), d, r⟩
  have hKb : K.In (hidT s₁.heap H) := fun b o e => base_of (KX b o e) (by
   cases q : H b with
   | none => rfl
   | some u =>
    have e' : b = a := hA b (by rw [q]; simp)
    subst e'
    rw [hK (by rw [q]; simp)] at e; cases e)
  have hM : Mod K mg (hidT s₁.heap H) := ⟨hKb, nsK hns, ⟨mb, nsK hb, hbb⟩, let ⟨mc, h1, h2⟩ := hlim; ⟨mc, nsK h1, h2⟩⟩
  have e0 : Env0 P w K mg (hidT s₁.heap H) callerA [] s₁ H := ⟨rfl, hM, fun b o e => xr1 e, Nat.le_of_eq (yk1 _ _), trivial, fun b hb => absurd (show b ∈ ([] : List Addr) from hb) (by simp), hok, .of_eq hg⟩
  refine codeAny_mono ((F _ hKb (nsK hns)).run callerA [] s₁ H ⟨[.ref a], []⟩ [.ref a] [.ref a] _ _ hr e0 (hbind s₁ (.ref a)) (.cons rfl .nil) (hsp H hO hS)) fun r s' h => ?_
  cases r with
  | error e => exact (hCX H e s' h).elim
  | ok fl =>
   cases fl with
   | next => exact False.elim h
   | brk => exact False.elim h
   | cont => exact False.elim h
   | ret u =>
    obtain ⟨v, H', os, bare, un, hok', r', q⟩ := h
    have q' : v = .bl true := q
    subst q'
    obtain rfl : u = Value.bool true := r'
    refine ⟨rfl, OldK.of_keep fun b o e => ?_, os, bare⟩
    cases q : H b with
    | none => exact un.keep b o e q (by intro z; exact absurd (show b ∈ ([] : List Addr) from z) (by simp)) (by simp)
    | some u =>
     rcases hO b with z | ⟨ob, xs, z⟩
     ·rw [q] at z; cases z
     ·have z2 := un.frzs b ob _ z
      obtain ⟨e1, _⟩ := hok b _ z
      obtain ⟨e2, _⟩ := hok' b _ z2
      rw [e] at e1; cases e1
      exact e2
 cases hk : K.lookup a with
 | some o =>
  have e := KX a o hk
  rw [ha] at e
  cases e
  refine core (fun _ => none) (fun _ => .inl rfl) (.inr ⟨_, vs.toArray, _, hk, rfl, rfl, rfl, by rw [size_toArray, lenV]; exact hl, by simpa using rv⟩) (fun b u z => by have z' : (none : Option HO) = some u := z; cases z') (fun b z => absurd rfl z) fun z => absurd rfl z
 | none =>
  refine core (fun b => if b = a then some (.frz { cls := .type "list", data := .seq vs.toArray } (.lst (ns.map V.int))) else none) (fun b => ?_) (.inl (.inr ⟨{ cls := .type "list", data := .seq vs.toArray }, if_pos rfl⟩)) (fun b u z => ?_) (fun b z => ?_) fun _ => hk
  ·by_cases hb : b = a
   ·exact .inr ⟨_, _, if_pos hb⟩
   ·exact .inl (if_neg hb)
  ·by_cases hb : b = a
   ·have z' := (if_pos hb).symm.trans z
    cases z'
    subst hb
    exact ⟨ha, by rw [length_map]; exact hl, vs, _, rv, ha⟩
   ·have z' := (if_neg hb).symm.trans z
    cases z'
  ·by_cases hb : b = a
   ·exact hb
   ·exact absurd (if_neg hb) z
end
section
theorem walk_of {l : W.OpenLaw} {n k : Nat} {q : Program} {loose : List Str} {XP : (Str -> Option Value) -> Heap -> Prop} {YP : World -> Heap -> Prop} {d : DefRec} {K : Params -> W.Frag} {CX : World -> CXT} {sp : World -> Sp} {x : Str}
  (hn : l.most = some n) (hn2 : n <= sizeLine) (hdf : d.params.defaults = []) (hr : Room k callerA)
  (hY : ∀ (w : World) (h : Heap), YP w h -> (K w.params).In h)
  (F : ∀ (w : World) (mg : Str -> Option Value) (fa : Addr) (h : Heap), (K w.params).In h -> h.Ns mainGlobals mg -> mg d.name = some (.ref fa) ->
   ∃ fd : FuncData, (∀ (s : Shared) (u : Value), BindsTo s fd ⟨[u], []⟩ [(x, u)]) /\
    ∀ base : Heap, (K w.params).In base -> base.Ns mainGlobals mg -> FnOk l.prog w (K w.params) mg base (CX w) k fa fd [x] (sp w))
  (hsp : ∀ (w : World) (H : Hp) (a : Addr) (ns : List Int), ns.length <= n -> Only H -> SqL (K w.params) H a (ns.map V.int) -> sp w [.ref a] H (fun v _ => v = .bl true) fun _ _ _ => False)
  (hCX : ∀ (w : World) (H : Hp) (s : Shared) (e : Value) (s' : Shared), CX w [] H s (fun _ _ _ => False) e s' -> False) :
  W.WalkO q loose XP YP l.row.toRowW d [] (fun f vs => PySem.call f vs) := by
 refine Att.attach_call hn hdf fun w s₀ s₁ mg mb fa o pm cd doc a vs ns G Y ho hd hcd hmg hobj hints hlen hg => ?_
 have KX := hY w _ Y
 obtain ⟨fd, hb, hF⟩ := F w mg fa _ KX G.T.g hmg
 exact yd9 KX G.T.g G.T.b G.T.builtins G.T.nolimit hg hobj hints (Nat.le_trans hlen hn2) hr hF hb (fun H hO hS => hsp w H a ns hlen hO hS) fun H e s' => hCX w H s₁ e s'
end
section
def R0 (s : Stmt) : Arguments := match s with
 | .FunctionDef _ a _ _ _ _ _ _ _ _ => a
 | _ => { posonlyargs := [], args := [], vararg := none, kwonlyargs := [], kw_defaults := [], kwarg := none, defaults := [] }
def b9 (s : Stmt) : List Stmt := match s with
 | .FunctionDef _ _ b _ _ _ _ _ _ _ => b
 | _ => []
def y4 (s : Stmt) : Scope := match s with
 | .FunctionDef _ _ _ _ _ _ sc _ _ _ => sc
 | _ => { kind := .function, names := [], isGenerator := false, isCoroutine := false }
abbrev CX0 : CXT := fun _ _ _ _ _ _ => False
abbrev E0 : XK := fun _ _ _ => False
theorem ye1 {X : Cx} : zv3 CX0 X E0 := fun _ _ _ _ _ _ _ h => h.elim
structure Fun (K : W.Frag) (x qual : Str) (st : Stmt) (f : Addr) (fd : FuncData) : Prop where
 ex : ∃ (oc : Value) (od : Option Addr) (kV doc pm : Value) (an : Option Addr) (cdv ct : Value) (osl : Array (Option Value)),
  fd = W.fnOf x qual (R0 st) (b9 st) (y4 st) .none kV doc pm an cdv ct /\ K.lookup f = some ⟨oc, od, .func fd, osl⟩ /\ W.codeIn K cdv qual = true
 kp : W.keepIn K (.ref f) = true
section
variable {P : Program} {w : World} {K : W.Frag} {mg : Str -> Option Value} {base : Heap}
theorem Fun.ok {x qual : Str} {st : Stmt} {f : Addr} {fd : FuncData} {N ps : List Str} {k : Nat} {sp : Sp} (F : Fun K x qual st f fd) (S : FnScope N ps (y4 st)) (len : ∀ vs H Q E, sp vs H Q E -> vs.length = ps.length)
  (hbody : ∀ (cdv : Value) (A : Around) (outer : List Env) (s : Shared) (H : Hp) (vs : List V) (Q : VK) (E : XK), Room k (A.deeper (envOfC qual (y4 st) s.heap.objs.size f cdv)) -> sp vs H Q E ->
   ∃ t, PSs (cxOf CX0 P w K mg base N qual (y4 st) f cdv A outer s H E).nox (b9 st) t /\ t { nx := fun _ H' => Q .non H', rt := Q } (start N vs) H) : FnOk P w K mg base CX0 (k + 1) f fd ps sp := by
 obtain ⟨oc, od, kV, doc, pm, an, cdv, ct, osl, rfl, lk, hcd⟩ := F.ex
 refine ww2 lk hcd S len fun A outer s H vs Q E hr hsp => ?_
 obtain ⟨t, h, q⟩ := hbody cdv A outer s H vs Q E hr hsp
 exact ⟨t, h.nox, q⟩
theorem Fun.binds {x qual : Str} {st : Stmt} {f : Addr} {fd : FuncData} {ps : List Str} (F : Fun K x qual st f fd)
  (h : ∀ (kV doc pm : Value) (an : Option Addr) (cdv ct : Value) (us : List Value), us.length = ps.length -> bindArgs (W.fnOf x qual (R0 st) (b9 st) (y4 st) .none kV doc pm an cdv ct) ⟨us, []⟩ = pure (ps.zip us)) : Binds K fd ps [] := by
 obtain ⟨oc, od, kV, doc, pm, an, cdv, ct, osl, rfl, lk, hcd⟩ := F.ex
 exact .all (h kV doc pm an cdv ct)
theorem yk4 {x qual : Str} {st : Stmt} {f : Addr} {oc : Value} {od an : Option Addr} {osl : Array (Option Value)} {kV doc pm cdv ct : Value} (l : K.lookup f = some ⟨oc, od, .func (W.fnOf x qual (R0 st) (b9 st) (y4 st) .none kV doc pm an cdv ct), osl⟩)
  (c : W.codeIn K cdv qual = true) (k : W.keepIn K (.ref f) = true) : Fun K x qual st f (W.fnOf x qual (R0 st) (b9 st) (y4 st) .none kV doc pm an cdv ct) := ⟨⟨oc, od, kV, doc, pm, an, cdv, ct, osl, rfl, l, c⟩, k⟩
end
section
variable {X : Cx}
theorem pv (i : Nat) {x : Str} {pos : Pos} (hN : X.N[i]? = some x := by rfl) (hv : Vis X.env.scope x := by first | exact Or.inl rfl | exact Or.inr (Or.inl rfl) | exact Or.inr (Or.inr rfl)) (hd : (x == ("__debug__" : Str)) = false := by decide)
  (hcd : (x == ("__classdict__" : Str)) = false := by decide) : PE X (.Name x pos) (tVar i) := xi5 hN hv hd hcd
end
theorem iteF {A B : Prop} (h : B) : if false = true then A else B := by
 rw [if_neg Bool.false_ne_true]
 exact h
theorem iteT {A B : Prop} (h : A) : if true = true then A else B := by
 rw [if_pos rfl]
 exact h
def Same (H H' : Hp) : Prop := ∀ b o, H b = some o -> H' b = some o
theorem Same.refl (H : Hp) : Same H H := fun _ _ h => h
theorem Same.trans {H H1 H2 : Hp} (a : Same H H1) (b : Same H1 H2) : Same H H2 := fun c o h => b c o (a c o h)
theorem Same.free {H H' : Hp} (e : Same H H') {l : Addr} (h : H' l = Option.none) : H l = Option.none := by
 cases q : H l with
 | none => rfl
 | some o =>
  rw [e l o q] at h
  cases h
theorem Same.seq {K : W.Frag} {H H' : Hp} {a : Addr} {xs : List V} (e : Same H H') (h : SqL K H a xs) : SqL K H' a xs := by
 rcases h with (h | ⟨o, h⟩) | h
 ·exact .inl (.inl (e _ _ h))
 ·exact .inl (.inr ⟨o, e _ _ h⟩)
 ·exact .inr h
end
section
def clOf (cells : List (Str × Addr)) : List (Str × NameKind) -> List (Str × Addr) -> List (Str × Addr)
 | [], cs => cs
 | (n, k) :: r, cs => if k = .free then (match cells.lookup n with | some c => clOf cells r ((n, c) :: cs) | none => clOf cells r cs) else clOf cells r cs
theorem L4 {env : Env} : ∀ (names : List (Str × NameKind)) (cs : List (Str × Addr)), (∀ x ∈ names, x.2 = .free -> ∃ c, env.cells.lookup x.1 = some c) ->
  (forIn names cs fun x r => if (x.2 == NameKind.free) = true then do let c ← cellOf env x.1; pure (ForInStep.yield ((x.1, c) :: r)) else pure (ForInStep.yield r) : Sem (List (Str × Addr))) = pure (clOf env.cells names cs)
 | [], cs, _ => rfl
 | (n, k) :: r, cs, h => by
  have hr : ∀ x ∈ r, x.2 = .free -> ∃ c, env.cells.lookup x.1 = some c := fun x hx => h x (mem_cons_of_mem _ hx)
  rw [forIn_cons]
  by_cases hk : k = .free
  ·subst hk
   obtain ⟨c, hc⟩ := h (n, .free) mem_cons_self rfl
   have hc' : env.cells.lookup n = some c := hc
   have e : cellOf env n = pure c := by unfold cellOf; rw [hc']
   simp only [beq_self_eq_true, if_true, e, pure_bind]
   rw [L4 r _ hr]
   simp only [clOf, if_true, hc']
  ·have hb : (k == NameKind.free) = false := by simpa using hk
   simp only [hb, Bool.false_eq_true, if_false, pure_bind]
   rw [L4 r cs hr]
   simp only [clOf, hk, if_false]
theorem zw7 {env : Env} {scope : Scope} (h : ∀ x ∈ scope.names, x.2 = .free -> ∃ c, env.cells.lookup x.1 = some c) : closureFor scope env = pure (clOf env.cells scope.names []) := by
 have q := L4 (env := env) scope.names [] h
 simp only [closureFor]
 refine Eq.trans ?_ q
 have e : ∀ (m : Sem (List (Str × Addr))), (m >>= fun cs => pure cs) = m := fun m => by simp
 first | (rw [e]; rfl) | rfl | simp
theorem A5 {cells : List (Str × Addr)} {x : Str} {c : Addr} : ∀ (names : List (Str × NameKind)) (cs : List (Str × Addr)), (∀ y d, cs.lookup y = some d -> cells.lookup y = some d) -> (clOf cells names cs).lookup x = some c -> cells.lookup x = some c
 | [], cs, h, e => h x c e
 | (n, k) :: r, cs, h, e => by
  unfold clOf at e
  split at e
  ·split at e
   ·rename_i d hd
    refine A5 r _ (fun y d' q => ?_) e
    rw [lookup_cons] at q
    split at q
    ·rename_i hy
     have : y = n := by simpa using hy
     subst this
     cases q; exact hd
    ·exact h y d' q
   ·exact A5 r cs h e
  ·exact A5 r cs h e
theorem G7 {cells : List (Str × Addr)} {x : Str} : ∀ (names : List (Str × NameKind)) (cs : List (Str × Addr)), (cs.lookup x).isSome = true -> ((clOf cells names cs).lookup x).isSome = true
 | [], cs, h => h
 | (n, k) :: r, cs, h => by
  unfold clOf
  split
  ·split
   ·refine G7 r _ ?_
    rw [lookup_cons]; split
    ·rfl
    ·exact h
   ·exact G7 r cs h
  ·exact G7 r cs h
theorem G8 {cells : List (Str × Addr)} {x : Str} {c : Addr} (hc : cells.lookup x = some c) : ∀ (names : List (Str × NameKind)) (cs : List (Str × Addr)), (x, NameKind.free) ∈ names -> ((clOf cells names cs).lookup x).isSome = true
 | [], cs, h => absurd h (by simp)
 | (n, k) :: r, cs, h => by
  unfold clOf
  rcases List.mem_cons.mp h with e | h
  ·cases e
   rw [if_pos rfl, hc]
   refine G7 r _ ?_
   simp [lookup_cons]
  ·split
   ·split
    ·exact G8 hc r _ h
    ·exact G8 hc r cs h
   ·exact G8 hc r cs h
theorem V1 {env : Env} : ∀ {names : List (Str × NameKind)} {x : Str}, names.lookup x = some .free ->
  (names.map fun (n, k) => if (k == NameKind.free && env.scope.kind == .function && env.kindOf n == some .cell) then (n, NameKind.cell) else (n, k)).lookup x = some .cell \/
  (names.map fun (n, k) => if (k == NameKind.free && env.scope.kind == .function && env.kindOf n == some .cell) then (n, NameKind.cell) else (n, k)).lookup x = some .free
 | [], _, h => by simp at h
 | (n, k) :: r, x, h => by
  have ih := @V1 env r x
  show List.lookup x ((if (k == NameKind.free && env.scope.kind == .function && env.kindOf n == some .cell) = true then (n, NameKind.cell) else (n, k)) :: _) = _ \/ List.lookup x ((if (k == NameKind.free && env.scope.kind == .function && env.kindOf n == some .cell) = true then (n, NameKind.cell) else (n, k)) :: _) = _
  by_cases hc : (k == NameKind.free && env.scope.kind == .function && env.kindOf n == some .cell) = true
  ·rw [if_pos hc]
   cases hx : x == n with
   | true => left; simp only [lookup_cons, hx]
   | false => simp only [lookup_cons, hx] at h ⊢; exact ih h
  ·rw [if_neg hc]
   cases hx : x == n with
   | true => right; simp only [lookup_cons, hx] at h ⊢; exact h
   | false => simp only [lookup_cons, hx] at h ⊢; exact ih h
theorem R1 {env : Env} : ∀ {names : List (Str × NameKind)} {x : Str} {k : NameKind}, (∀ y ∈ names, y.2 ≠ .cell) ->
  (names.map fun (n, k) => if (k == NameKind.free && env.scope.kind == .function && env.kindOf n == some .cell) then (n, NameKind.cell) else (n, k)).lookup x = some k -> (k = .cell \/ k = .free) -> (x, NameKind.free) ∈ names
 | [], _, _, _, h, _ => by simp at h
 | (n, k') :: r, x, k, hc0, h, hk => by
  have ih := @R1 env r x k (fun y hy => hc0 y (mem_cons_of_mem _ hy))
  have h : List.lookup x ((if (k' == NameKind.free && env.scope.kind == .function && env.kindOf n == some .cell) = true then (n, NameKind.cell) else (n, k')) :: _) = _ := h
  by_cases hc : (k' == NameKind.free && env.scope.kind == .function && env.kindOf n == some .cell) = true
  ·rw [if_pos hc] at h
   have hf : k' = .free := by
    have := hc; simp only [Bool.and_eq_true] at this; simpa using this.1.1
   cases hx : x == n with
   | true =>
    have hxn : x = n := by simpa using hx
    subst hxn; subst hf; exact mem_cons_self
   | false => simp only [lookup_cons, hx] at h; exact mem_cons_of_mem _ (ih h hk)
  ·rw [if_neg hc] at h
   cases hx : x == n with
   | true =>
    have hxn : x = n := by simpa using hx
    subst hxn
    simp only [lookup_cons, hx] at h
    have e : k' = k := Option.some.inj h
    subst e
    rcases hk with hk | hk
    ·exact absurd hk (hc0 _ mem_cons_self)
    ·subst hk; exact mem_cons_self
   | false => simp only [lookup_cons, hx] at h; exact mem_cons_of_mem _ (ih h hk)
end
section
structure Blk (X : Cx) (sc : Scope) (N : List Str) (src : List (Option Nat)) : Prop where
 kind : sc.kind = .function
 nocell : ∀ y ∈ sc.names, y.2 ≠ .cell
 names : ∀ y ∈ sc.names, y.2 = .local -> sc.names.lookup y.1 = some .local
 free : ∀ y ∈ sc.names, y.2 = .free -> X.env.kindOf y.1 = some .cell \/ X.env.kindOf y.1 = some .free
 fv : ∀ (j i : Nat), src[j]? = some (some i) -> ∃ x, N[j]? = some x /\ X.N[i]? = some x /\ sc.names.lookup x = some .free
 len : src.length = N.length
def blk0 (src : List (Option Nat)) (σ : St) : St := src.map fun o => o.bind fun i => (σ[i]?).join
def Y8 (X : Cx) (sc : Scope) (C : Addr) (N : List Str) (fp : List Addr) (s : Shared) (H : Hp) : Cx where
 prog := X.prog
 w := X.w
 K := X.K
 mg := X.mg
 base := X.base
 A := X.A
 N := N
 s₀ := s
 H₀ := H
 env := compEnvC sc (clOf X.env.cells sc.names []) C X.env
 outer := X.stack
 stack := X.stack
 ex := fp
 fn := fun _ => false
 calm := true
 pn := []
 xe := fun _ _ => False
section
variable {X : Cx} {pins : List (Addr × Obj)} {σ : St} {H : Hp} {s : Shared}
theorem Blk.cl {sc : Scope} {N : List Str} {src : List (Option Nat)} (B : Blk X sc N src) (ok : X.Ok) : closureFor sc X.env = pure (clOf X.env.cells sc.names []) :=
 zw7 fun x hx hk => ok.has x.1 (B.free x hx hk)
theorem D9 {sc : Scope} {x : Str} {c : Addr} (h : (clOf X.env.cells sc.names []).lookup x = some c) : X.env.cells.lookup x = some c :=
 A5 sc.names [] (fun y d e => by simp at e) h
theorem yi1 {sc : Scope} {N : List Str} {src : List (Option Nat)} {fp : List Addr} {D C : Addr} {h4 : Heap} {t : Nat} {m : Str -> Option Value}
  (B : Blk X sc N src) (I : Inv X pins σ H s) (hc : X.calm = true) (hf : ∀ b ∈ fp, FpOk X pins H b) (hfo : ∀ b ∈ fp, ∃ o, s.heap.get? b = some o)
  (hk : ∀ b o, s.heap.get? b = some o -> h4.get? b = some o) (hD : s.heap.objs.size <= D) (hDl : h4.get? D = some { cls := .type "list", data := .seq #[] 0 })
  (hn : h4.Ns C m) (hC : s.heap.objs.size <= C) (hDC : D ≠ C) :
  Inv (Y8 X sc C N fp s H) [] (blk0 src σ) (upd H D (.lst [])) { s with heap := h4, toks := t } := by
 have hHD : H D = none := I.hok.fresh hD
 have hHC : H C = none := I.hok.fresh hC
 have new : ObjOk X.prog X.w (upd H D (.lst [])) h4 D (.lst []) := ⟨Nat.zero_le _, [], 0, .nil, hDl⟩
 have cC : ∀ x c, X.env.cells.lookup x = some c -> c ≠ C := fun x c e z => by
  obtain ⟨v, q⟩ := I.cell x c e
  exact absurd (Nat.lt_of_lt_of_le q.lt (by rw [z]; exact hC)) (Nat.lt_irrefl _)
 have cD : ∀ x c, X.env.cells.lookup x = some c -> c ≠ D := fun x c e z => by
  obtain ⟨v, q⟩ := I.cell x c e
  exact absurd (Nat.lt_of_lt_of_le q.lt (by rw [z]; exact hD)) (Nat.lt_irrefl _)
 refine ⟨⟨I.ok.mod, ?_, I.ok.glob, I.ok.blt, hC, fun x y c h1 h2 => ?_, fun x hx => ?_, fun x c h _ => (by cases h), fun _ => I.ok.hd hc, I.ok.frames, .inl rfl, fun b hb => ⟨?_, fun x c e => ?_⟩, I.bs, Nat.le_trans I.ok.bsz I.sz, fun b o e hb => ?_, fun b hb z => ?_, I.stack, I.stkFree⟩,
  rfl, I.bare, Un.laid hk hD hHD, ⟨m, hn, fun i x v e1 e2 e3 => ?_⟩, fun x c e => ?_, ?_, fun x c e => ?_, fun p hp => ?_, I.hok.laid hk hD new, ?_⟩
 ·show (relabel sc X.env).kind = _
  exact B.kind
 ·exact I.ok.inj x y c (D9 h1) (D9 h2)
 ·have hx' : (∃ k, (relabel sc X.env).names.lookup x = some k /\ (k = .cell \/ k = .free)) := by
   rcases hx with hx | hx
   ·exact ⟨_, hx, .inl rfl⟩
   ·exact ⟨_, hx, .inr rfl⟩
  obtain ⟨k, e, hk'⟩ := hx'
  have hm := R1 B.nocell e hk'
  obtain ⟨c, hc'⟩ := I.ok.has x (B.free _ hm rfl)
  exact Option.isSome_iff_exists.mp (G8 hc' sc.names [] hm)
 ·obtain ⟨o, e⟩ := hfo b hb
  exact Nat.ne_of_lt (Nat.lt_of_lt_of_le (Heap.lt_size e) hC)
 ·exact (hf b hb).2.2.2.2.1 x c (D9 e)
 ·rcases (hf b hb).2.2.2.1 with z | z
  ·exact I.ok.noex b o e z
  ·exact absurd (Nat.lt_of_lt_of_le (Heap.lt_size e) (Nat.le_trans I.ok.bsz z)) (Nat.lt_irrefl _)
 ·rcases List.mem_cons.mp (I.stkSub b z) with z | z
  ·exact (hf b hb).2.1 z
  ·exact (hf b hb).2.2.1 z
 ·have e2' : ∃ k, src[i]? = some (some k) /\ σ[k]? = some (some v) := by
   unfold blk0 at e2
   rw [getElem?_map] at e2
   cases q : src[i]? with
   | none => rw [q] at e2; cases e2
   | some o =>
    rw [q] at e2
    cases o with
    | none => cases e2
    | some k =>
     refine ⟨k, rfl, ?_⟩
     have e2 : (σ[k]?).join = some v := Option.some.inj e2
     cases qq : σ[k]? with
     | none => rw [qq] at e2; cases e2
     | some z => rw [qq] at e2; exact congrArg some e2
  obtain ⟨k, ek, ev⟩ := e2'
  obtain ⟨x', n1, n2, n3⟩ := B.fv i k ek
  have : x' = x := by
   have e1 : N[i]? = some x := e1
   rw [n1] at e1; exact Option.some.inj e1
  subst this
  obtain ⟨m0, hn0, hl0⟩ := I.loc
  have hfk := B.free (x', .free) (PySem.mem_of_lookup n3) rfl
  obtain ⟨u, r, l⟩ := hl0 k x' v n2 ev (by rcases hfk with z | z; exact .inr (.inl z); exact .inr (.inr z))
  refine ⟨u, r, .inr ⟨?_, ?_⟩⟩
  ·exact V1 n3
  ·rcases l with ⟨l, _⟩ | ⟨_, c, ec, z⟩
   ·rcases hfk with q | q <;> (rw [q] at l; cases l)
   ·obtain ⟨c', ec'⟩ := Option.isSome_iff_exists.mp (G8 ec sc.names [] (PySem.mem_of_lookup n3))
    have := D9 ec'
    rw [ec] at this; cases this
    obtain ⟨o, ho, hd⟩ := z
    exact ⟨c, ec', o, hk c o ho, hd⟩
 ·obtain ⟨v, o, ho, hd⟩ := I.cell x c (D9 e)
  exact ⟨v, o, hk c o ho, hd⟩
 ·show upd H D _ C = none
  rw [x6 (Ne.symm hDC)]; exact hHC
 ·rw [x6 (cD x c (D9 e))]; exact I.freeC x c (D9 e)
 ·exact absurd (show p ∈ ([] : List (Addr × Obj)) ++ [] from hp) (by simp)
 ·show (blk0 src σ).length = N.length
  unfold blk0; rw [length_map]; exact B.len
end
end
section
abbrev noE : Value -> Shared -> Prop := fun _ _ => False
theorem toE {α : Type} {t : Sem α} {Q Q' : α -> Shared -> Prop} {M : Model} {A : Around} {E : Value -> Shared -> Prop} {s : Shared} (h : wpAny M A t Q noE s) (hQ : ∀ a s, Q a s -> Q' a s) : wpAny M A t Q' E s :=
 wpAny_mono h hQ fun _ _ x => x.elim
abbrev zi2 (ifs : List Expr) (env : Env) : Sem Bool := forIn ifs true fun c r => if r = true then do let ok ← isTrue c env (eval c env); pure (ForInStep.yield ok) else pure (ForInStep.yield r)
theorem zi3 {prog : Program} {w : World} {A : Around} {R : Result -> Shared -> Prop} {s : Shared} {elt target iter : Expr} {ifs : List Expr} {scope : Scope} {pos : Pos} {it acc : Value} {env : Env} (I : Nat -> Shared -> Prop)
  (turn : ∀ n s, I n s -> wpAny (model prog w) A (pyNext it) (fun r s₁ => match r with
   | none => R (.ok .next) s₁
   | some v => wpAny (model prog w) A (letOwnedTupleGo target it v) (fun _ s₁' => wpAny (model prog w) A (assign target env v) (fun _ s₂ =>
     wpAny (model prog w) A (zi2 ifs env) (fun ok s₃ =>
      if ok = true then wpAny (model prog w) A (eval elt env) (fun x s₄ =>
       wpAny (model prog w) A (call (.builtin "list.append") [acc, x]) (fun _ s₅ => ∃ m, m < n /\ I m s₅) noE s₄) noE s₃
      else ∃ m, m < n /\ I m s₃) noE s₂) noE s₁') noE s₁) noE s)
  (n : Nat) (h : I n s) :
  codeAny (model prog w) A (.compLoop (.ListComp elt [⟨target, iter, ifs, 0⟩] scope pos) 0 it acc env) R s := by
 refine codeAny_loop rfl I (fun n s hI => ?_) n h
 show wpAny _ A ((compTurn (.ListComp elt [⟨target, iter, ifs, 0⟩] scope pos) 0 it acc env).onRaise (fun x => do noteFrame x env; theTreesLotGoes x)) _ _ s
 refine wpAny_noted ?_
 rw [compTurn_list]
 refine wpAny_bind (wpAny_standAt (wpAny_bind (toE (turn n s hI) (fun r s₁ h₁ => ?_))))
 cases r with
 | none => exact wpAny_pure h₁
 | some v =>
  refine wpAny_bind (toE h₁ fun _ s₁' h₁' => ?_)
  refine wpAny_bind (toE h₁' (fun _ s₂ h₂ => wpAny_bind (toE h₂ (fun ok s₃ h₃ => ?_))))
  cases ok with
  | false => exact wpAny_pure ⟨rfl, h₃⟩
  | true =>
   exact wpAny_bind (wpAny_bind (toE h₃ (fun x s₄ h₄ => wpAny_bind (toE h₄ (fun _ s₅ h₅ => wpAny_pure (wpAny_pure ⟨rfl, h₅⟩))))))
def PTs (X : Cx) (ifs : List Expr) (t : TT) : Prop :=
 ∀ (pins : List (Addr × Obj)) (s : Shared) (σ : St) (H : Hp) (Q : Bool -> Hp -> Prop), Inv X pins σ H s -> t σ H Q -> wpAny (model X.prog X.w) X.A (zi2 ifs X.env) (TP X pins σ Q) X.xe s
def tYes : TT := fun _ H Q => Q true H
theorem zz9 {X : Cx} : PTs X [] tYes := fun pins s σ H Q I h => wpAny_pure ⟨H, I, h⟩
theorem xu1 {X : Cx} {c : Expr} {t : TT} (h : PT X c t) : PTs X [c] t := fun pins s σ H Q I q => wpAny_tests_one (h pins s σ H Q I q)
def C4 (src : List (Option Nat)) (wi : TI) (g : TG) (tc : TT) (te : TE) : TE := fun σ H Q => wi σ H fun J H1 => ∀ D, H1 D = none -> ∃ W : Nat -> Nat -> St -> Hp -> Prop, (∃ m, W 0 m (blk0 src σ) (upd H1 D (.lst []))) /\ ∀ i m σ' H', W i m σ' H' ->
 (J.stop i H' /\ Q (.ref D) H') \/ (J.go i H' /\ ∃ N : St -> Hp -> Prop, (∀ σ2 H2, N σ2 H2 -> ∃ m', m' < m /\ W (i + 1) m' σ2 H2) /\ ∀ x H2, J.yld i H' x H2 -> g x σ' H2 fun σ3 H3 => tc σ3 H3 fun b H4 =>
  if b = true then te σ3 H4 fun y H5 => ∃ xs, H5 D = some (.lst xs) /\ xs.length < sizeLine /\ N σ3 (upd H5 D (.lst (xs ++ [y]))) else N σ3 H4)
section
variable {X : Cx}
theorem zs4 {sc : Scope} {N : List Str} {src : List (Option Nat)} {tg elt iter : Expr} {ifs : List Expr} {pos : Pos} {g : TG} {tc : TT} {te : TE} (B : Blk X sc N src) (hc : X.calm = true)
  (hg : ∀ C fp s H, PG (Y8 X sc C N fp s H) tg g) (ht : ∀ C fp s H, PTs (Y8 X sc C N fp s H) ifs tc) (he : ∀ C fp s H, PE (Y8 X sc C N fp s H) elt te)
  {pins : List (Addr × Obj)} {σ : St} {H : Hp} {s : Shared} {it : Addr} {fp : List Addr} {tn : Nat -> Heap -> Prop} {J : It} {Q : VK} {E : Value -> Shared -> Prop}
  (I : Inv X pins σ H s) (T : Turn X.prog X.w X.K tg J fp it tn) (st : tn 0 s.heap) (hf : ∀ b ∈ fp, FpOk X pins H b)
  (hW : ∀ D, H D = none -> ∃ W : Nat -> Nat -> St -> Hp -> Prop, (∃ m, W 0 m (blk0 src σ) (upd H D (.lst []))) /\ ∀ i m σ' H', W i m σ' H' ->
   (J.stop i H' /\ Q (.ref D) H') \/ (J.go i H' /\ ∃ N : St -> Hp -> Prop, (∀ σ2 H2, N σ2 H2 -> ∃ m', m' < m /\ W (i + 1) m' σ2 H2) /\ ∀ x H2, J.yld i H' x H2 -> g x σ' H2 fun σ3 H3 => tc σ3 H3 fun b H4 =>
    if b = true then te σ3 H4 fun y H5 => ∃ xs, H5 D = some (.lst xs) /\ xs.length < sizeLine /\ N σ3 (upd H5 D (.lst (xs ++ [y]))) else N σ3 H4))
  {RR : Value -> Addr -> Result -> Shared -> Prop}
  (hRR : ∀ D C H' s' m', Inv X pins σ H' s' -> s'.heap.Ns C m' -> H' C = none -> s.heap.objs.size <= C -> Q (.ref D) H' -> RR (.ref D) C (.ok .next) s') :
  wpAny (model X.prog X.w) X.A (newList []) (fun acc s₃ => wpAny (model X.prog X.w) X.A (newFunctionEnv sc X.env.globals (clOf X.env.cells sc.names []) [] X.env.qual none .none (some X.env)) (fun cenv s₄ =>
   codeAny (model X.prog X.w) X.A (.compStart (.ListComp elt [⟨tg, iter, ifs, 0⟩] sc pos) 0 (.ref it) acc { cenv with scope := relabel sc X.env }) (RR acc cenv.locals) s₄) E s₃) E s := by
 refine wpAny_newObj_type (wpAny_newFunctionEnv B.nocell (by intro y hy; simp at hy) (fun h₁ hns₁ hsb₁ => ?_) B.kind)
 dsimp only at hns₁ hsb₁ ⊢
 generalize hH2 : s.heap.push { cls := .type "list", dict := none, data := .seq ([] : List Value).toArray } = H2 at hns₁ hsb₁ ⊢
 have hC : H2.objs.size = s.heap.objs.size + 1 := by rw [<- hH2, Heap.size_push]
 have hDC : s.heap.objs.size ≠ H2.objs.size := by rw [hC]; exact Nat.ne_of_lt (Nat.lt_succ_self _)
 have hCle : s.heap.objs.size <= H2.objs.size := by rw [hC]; exact Nat.le_succ _
 have below : ∀ b, b < s.heap.objs.size -> b ≠ H2.objs.size := fun b hb => by rw [hC]; exact Nat.ne_of_lt (Nat.lt_succ_of_lt hb)
 have old : ∀ b o, s.heap.get? b = some o -> h₁.get? b = some o := fun b o e => hsb₁.extBut b o (below b (Heap.lt_size e)) (Heap.get?_push_of_some _ (hH2 ▸ Heap.get?_push_of_some _ e))
 have hacc : h₁.get? s.heap.objs.size = some { cls := .type "list", data := .seq #[] 0 } := hsb₁.extBut _ _ hDC (Heap.get?_push_of_some _ (hH2 ▸ Heap.get?_push_size _ rfl))
 have hfo : ∀ b ∈ fp, ∃ o, s.heap.get? b = some o := fun b hb => by obtain ⟨o, e, _⟩ := T.obj _ _ st b hb; exact ⟨o, e⟩
 have st1 : tn 0 h₁ := T.keep _ _ _ st fun b _ o e => old b o e
 obtain ⟨W, ⟨m0, w0⟩, turn⟩ := hW s.heap.objs.size I.fresh
 have I1 := yi1 (t := s.toks + ([] : List (Str × Value)).length) B I hc hf hfo old (Nat.le_refl _) hacc hns₁ hCle hDC
 have stat : ∀ {H' : Hp}, (∀ b ∈ fp, H' b = none) -> ∀ b ∈ fp, FpOk (Y8 X sc H2.objs.size N fp s H) [] H' b := fun {H'} hn b hb => by
  obtain ⟨f0, f1, f2, f3, f4, f5⟩ := hf b hb
  refine ⟨hn b hb, I1.ok.exf b hb |>.1, I1.ok.exfs b hb, .inl hb, fun x c e => f4 x c (D9 e), fun p hp => absurd (show p ∈ ([] : List (Addr × Obj)) ++ [] from hp) (by simp)⟩
 have hfD : ∀ b ∈ fp, b ≠ s.heap.objs.size := fun b hb z => by
  obtain ⟨o, e⟩ := hfo b hb
  exact absurd (Heap.lt_size e) (by rw [z]; exact Nat.lt_irrefl _)
 have loop : ∀ s₃ : Shared, s₃ = { s with heap := h₁, toks := s.toks + ([] : List (Str × Value)).length } ->
   codeAny (model X.prog X.w) X.A (.compLoop (.ListComp elt [⟨tg, iter, ifs, 0⟩] sc pos) 0 (.ref it) (.ref s.heap.objs.size) (compEnvC sc (clOf X.env.cells sc.names []) H2.objs.size X.env))
    (RR (.ref s.heap.objs.size) H2.objs.size) s₃ := by
  rintro s₃ rfl
  refine zi3 (fun n s' => ∃ i σ' H', Inv (Y8 X sc H2.objs.size N fp s H) [] σ' H' s' /\ tn i s'.heap /\ (∀ b ∈ fp, H' b = none) /\ W i n σ' H') ?_ m0
   ⟨0, _, _, I1, st1, fun b hb => by rw [x6 (hfD b hb)]; exact (hf b hb).1, w0⟩
  rintro n s3 ⟨i, σ3, H3, I3, st3, fr3, w3⟩
  rcases turn i n σ3 H3 w3 with ⟨stop, qn⟩ | ⟨go, N', hN', step⟩
  ·refine thn (T.done (Y8 X sc H2.objs.size N fp s H) rfl rfl rfl rfl i [] s3 σ3 H3 noE I3 (stat fr3) st3 stop) fun r s4 ⟨hr, I4⟩ => ?_
   subst hr
   obtain ⟨m4, hn4, _⟩ := id I4.loc
   refine hRR _ _ H3 s4 m4 ?_ hn4 I4.free hCle qn
   exact I.call' (ch := fp) I4.os I4.base I4.hok I4.bare fun b hb => ⟨(hf b hb).2.2.2.1, (hf b hb).2.1, (hf b hb).2.2.2.2.1, (hf b hb).2.2.2.2.2⟩
  ·refine thn (T.item (Y8 X sc H2.objs.size N fp s H) rfl rfl rfl rfl i [] s3 σ3 H3 noE I3 (stat fr3) st3 go) fun r s4 ⟨u, hr, h4⟩ => ?_
   subst hr
   refine thn h4 fun _ s5 hpat => ?_
   obtain ⟨x, H5, I5, r5, y5, st5, fr5⟩ := hpat
   have I5' := I5.pinned (stat fr5) (T.obj _ _ st5)
   have again : ∀ {s7 : Shared} {σ7 : St} {H7 : Hp}, Inv (Y8 X sc H2.objs.size N fp s H) ([] ++ zn9 fp s5.heap) σ7 H7 s7 -> N' σ7 H7 -> ∃ m, m < n /\ ∃ i σ' H', Inv (Y8 X sc H2.objs.size N fp s H) [] σ' H' s7 /\ tn i s7.heap /\ (∀ b ∈ fp, H' b = none) /\ W i m σ' H' := fun {s7 σ7 H7} I7 n7 => by
    obtain ⟨m', hm, w7⟩ := hN' σ7 H7 n7
    refine ⟨m', hm, i + 1, σ7, H7, I7.unpinned, T.keep _ _ _ st5 fun b hb o e => (I7.pin (b, o) (mem_append_right _ (mem_append_right _ (O8 hb e)))).1, fun b hb => ?_, w7⟩
    obtain ⟨o, e, d⟩ := T.obj _ _ st5 b hb
    exact (I7.pin (b, o) (mem_append_right _ (mem_append_right _ (O8 hb e)))).2.1
   refine thn (hg _ _ _ _ _ s5 σ3 H5 x u _ I5' r5 (step x H5 y5)) fun _ s6 hpat => ?_
   obtain ⟨σ6, H6, I6, q6⟩ := hpat
   refine thn (ht _ _ _ _ _ s6 σ6 H6 _ I6 q6) fun ok s7 hpat => ?_
   obtain ⟨H7, I7, q7⟩ := hpat
   cases ok with
   | false =>
    rw [if_neg Bool.false_ne_true] at q7 ⊢
    exact again I7 q7
   | true =>
    rw [if_pos rfl] at q7 ⊢
    refine thn (he _ _ _ _ _ s7 σ6 H7 _ I7 q7) fun y s8 hpat => ?_
    obtain ⟨v8, H8, I8, r8, q8⟩ := hpat
    obtain ⟨xs, hD8, hz8, n8⟩ := q8
    refine thn (zk0 _ s8 σ6 H8 (.ref s.heap.objs.size) [v8] (.ref s.heap.objs.size) [y] (fun _ H9 => H9 = upd H8 s.heap.objs.size (.lst (xs ++ [v8]))) I8 rfl (.cons r8 .nil) ⟨_, xs, v8, rfl, rfl, hD8, hz8, rfl⟩) fun _ s9 hpat => ?_
    obtain ⟨v9, H9, I9, r9, q9⟩ := hpat
    subst q9
    exact again I9 n8
 refine codeAny_compStart_list (loop _ rfl) (toE (T.self X.A 0 { s with heap := h₁, toks := s.toks + ([] : List (Str × Value)).length } (fun v s' => v = .ref it /\ s' = { s with heap := h₁, toks := s.toks + ([] : List (Str × Value)).length }) noE st1 ⟨rfl, rfl⟩) fun v s' hpat => ?_)
 obtain ⟨e1, e2⟩ := hpat
 subst e1; subst e2
 exact loop _ rfl
theorem Inv.letGo {pins : List (Addr × Obj)} {σ : St} {H : Hp} {s s0 : Shared} {C : Addr} {h' : Heap} (I : Inv X pins σ H s) (I0 : ∃ σ0 H0, Inv X pins σ0 H0 s0) (hC : s0.heap.objs.size <= C) (hn : H C = none) (hs : Heap.SameBut C s.heap h') : Inv X pins σ H { s with heap := h' } := by
 obtain ⟨σ0, H0, I0⟩ := I0
 refine I.turned (t' := s.toks) (it := C) (fun b o hb e => (hs.2 b hb).trans e) hn (Nat.ne_of_gt (Nat.lt_of_lt_of_le I0.lt hC)) (.inr (Nat.le_trans I0.sz hC)) (fun x c e z => ?_) fun p hp z => ?_
 ·obtain ⟨v, q⟩ := I0.cell x c e
  exact absurd (Nat.lt_of_lt_of_le q.lt (by rw [z]; exact hC)) (Nat.lt_irrefl _)
 ·exact absurd (Nat.lt_of_lt_of_le (Heap.lt_size (I0.pin p hp).1) (by rw [z]; exact hC)) (Nat.lt_irrefl _)
theorem zr7 {sc : Scope} {N : List Str} {src : List (Option Nat)} {tg elt iter : Expr} {ifs : List Expr} {pos : Pos} {wi : TI} {g : TG} {tc : TT} {te : TE} (B : Blk X sc N src) (hc : X.calm = true)
  (hi : PI X tg iter wi) (hg : ∀ C fp s H, PG (Y8 X sc C N fp s H) tg g) (ht : ∀ C fp s H, PTs (Y8 X sc C N fp s H) ifs tc) (he : ∀ C fp s H, PE (Y8 X sc C N fp s H) elt te)
  (hs : ∀ x, foldedSetIterable iter X.env x = pure x := by intro _; rfl) :
  PE X (.ListComp elt [⟨tg, iter, ifs, 0⟩] sc pos) (C4 src wi g tc te) := by
 intro pins s σ H Q I h
 rw [eval_ListComp]
 refine wpAny_comprehension_free (use := none) rfl hs (B.cl I.ok) B.kind B.names (wpAny_mono (hi pins s σ H _ I h) (fun xv s₁ h₁ => wpAny_mono h₁ (fun itv s₂ h₂ => ?_) fun _ _ e => e) fun _ _ e => e)
 obtain ⟨it, fp, tn, J, H2, rfl, I2, T, st2, f2, hW⟩ := h₂
 refine zs4 (RR := fun acc C => compPost (model X.prog X.w) X.A X.xe none (EP X pins σ Q) acc C) (Q := Q) B hc hg ht he I2 T st2 f2 hW ?_
 intro D C H' s' m' I' hn hC hCs q
 exact ⟨m', hn, fun h'' hs'' => ⟨.ref D, H', I'.letGo ⟨_, _, I2⟩ hCs hC hs'', rfl, q⟩⟩
theorem M7 {i : Nat} {y : Str} {py : Pos} {sc : Scope} {N : List Str} {src : List (Option Nat)} {tg elt iter : Expr} {ifs : List Expr} {pos spos : Pos} {wi : TI} {g : TG} {tc : TT} {te : TE} (hN : X.N.Nodup) (hi' : X.N[i]? = some y) (hx : Loc X.env.scope y)
  (B : Blk X sc N src) (hc : X.calm = true)
  (hi : PI X tg iter wi) (hg : ∀ C fp s H, PG (Y8 X sc C N fp s H) tg g) (ht : ∀ C fp s H, PTs (Y8 X sc C N fp s H) ifs tc) (he : ∀ C fp s H, PE (Y8 X sc C N fp s H) elt te)
  (hsw : swapsWith (.ListComp elt [⟨tg, iter, ifs, 0⟩] sc pos) (some (.Name y py)) spos.line X.env = pure true := by rfl)
  (hs : ∀ x, foldedSetIterable iter X.env x = pure x := by intro _; rfl) (hf : X.fn y = true \/ X.env.scope.names.lookup y = some .local := by first | exact .inl rfl | exact .inr rfl | assumption) :
  PS X (.Assign [.Name y py] (.ListComp elt [⟨tg, iter, ifs, 0⟩] sc pos) spos) (tAsg (C4 src wi g tc te) (V2 i)) := by
 intro pins s σ H Dn I h
 rw [exec_Assign_Name_used _ _ _ _ hsw]
 refine wpAny_bind (wpAny_standAt (wpAny_bind ?_))
 show wpAny _ _ (do let _ ← comprehension (.ListComp elt [⟨tg, iter, ifs, 0⟩] sc pos) sc X.env _ (newList []) false (eval iter X.env) (some (assign (.Name y py) X.env))) _ _ s
 refine wpAny_bind (wpAny_mono (wpAny_comprehension_free (use := some (assign (.Name y py) X.env)) (Q := fun _ s' => SP X pins Dn .next s') rfl hs (B.cl I.ok) B.kind B.names
  (wpAny_mono (hi pins s σ H _ I h) (fun xv s₁ h₁ => wpAny_mono h₁ (fun itv s₂ h₂ => ?_) fun _ _ e => e) fun _ _ e => e)) (fun _ s' hq => wpAny_pure (wpAny_pure hq)) fun _ _ e => e)
 obtain ⟨it, fp, tn, J, H2, rfl, I2, T, st2, f2, hW⟩ := h₂
 refine zs4 (RR := fun acc C => compPost (model X.prog X.w) X.A X.xe (some (assign (.Name y py) X.env)) (fun _ s' => SP X pins Dn .next s') acc C) (Q := fun x H1 => V2 i x σ H1 Dn.nx) B hc hg ht he I2 T st2 f2 hW ?_
 intro D C H' s' m' I' hn hC hCs q
 show wpAny _ _ (assign (.Name y py) X.env (.ref D)) _ _ _
 refine wpAny_assign_Name (zo6 I' hN hi' hx (v := .ref D) rfl (fun s'' I'' hpat => ?_) hf)
 obtain ⟨a, hsb, ha⟩ := hpat
 have hCa : C ≠ a := fun z => by
  rcases ha with ha | ha
  ·have := I2.lt; rw [<- ha, <- z] at this
   exact absurd (Nat.lt_of_lt_of_le this hCs) (Nat.lt_irrefl _)
  ·obtain ⟨v, qv⟩ := I2.cell y a ha
   exact absurd (Nat.lt_of_lt_of_le qv.lt (by rw [<- z]; exact hCs)) (Nat.lt_irrefl _)
 exact ⟨m', hn.sameBut hsb hCa, fun h'' hs'' => ⟨_, H', I''.letGo ⟨_, _, I2⟩ hCs hC hs'', q⟩⟩
end
end
section
section
variable {X : Cx} {pins : List (Addr × Obj)} {σ : St} {H : Hp} {s : Shared} {h' : Heap}
theorem Inv.turnedL {t' : Nat} {fp : List Addr} (I : Inv X pins σ H s) (k : ∀ b o, b ∉ fp -> s.heap.get? b = some o -> h'.get? b = some o) (hf : ∀ b ∈ fp, FpOk X pins H b) : Inv X pins σ H { s with heap := h', toks := t' } := by
 have nit : ∀ b u, H b = some u -> b ∉ fp := fun b u e z => by rw [(hf b z).1] at e; cases e
 refine I.step (g' := s.gens) (d' := s.drawn) (ch := fp) (fun b hb => ⟨(hf b hb).2.2.2.1, (hf b hb).2.1, (hf b hb).2.2.2.2.1, (hf b hb).2.2.2.2.2⟩) (fun b o _ _ hc e _ => k b o hc e) (fun b o _ _ hc e _ => ⟨o.slots, k b o hc e⟩) (fun _ _ _ _ n => n)
  (fun b o hc e => ⟨o, k b o hc e⟩) (fun _ _ e => e) (fun _ _ _ e => e) (fun b ps e => ⟨#[], by rw [e]; simp⟩) (fun m hm => ?_) (fun b u e => ?_) I.bare
 ·obtain ⟨o, es, ep, ho, r⟩ := hm
  exact ⟨o, es, ep, k _ o (fun z => (hf _ z).2.1 rfl) ho, r⟩
 ·refine (I.hok b u e).stay (fun c v hc q => k c v ?_ q) (fun _ q => q) fun _ _ q => q
  rcases hc with z | z
  ·rw [z]; exact nit b u e
  ·exact nit c _ z
theorem Inv.turnedN {t' : Nat} {fp : List Addr} {T : Addr} {o : HO} (I : Inv X pins σ H s) (k : ∀ b o, b ∉ fp -> s.heap.get? b = some o -> h'.get? b = some o) (hf : ∀ b ∈ fp, FpOk X pins H b) (hT : s.heap.objs.size <= T)
  (new : ObjOk X.prog X.w (upd H T o) h' T o) : Inv X pins σ (upd H T o) { s with heap := h', toks := t' } := by
 have hn : H T = none := I.hok.fresh hT
 have ne : ∀ b u, s.heap.get? b = some u -> b ≠ T := fun b u e z => absurd (Nat.lt_of_lt_of_le (Heap.lt_size e) (by rw [z]; exact hT)) (Nat.lt_irrefl _)
 have nit : ∀ b u, H b = some u -> b ∉ fp := fun b u e z => by rw [(hf b z).1] at e; cases e
 refine I.step (g' := s.gens) (d' := s.drawn) (ch := fp) (fun b hb => ⟨(hf b hb).2.2.2.1, (hf b hb).2.1, (hf b hb).2.2.2.2.1, (hf b hb).2.2.2.2.2⟩) (fun b o _ _ hc e _ => k b o hc e) (fun b o _ _ hc e _ => ⟨o.slots, k b o hc e⟩) (fun b o _ e n => by rw [x6 (ne b o e)]; exact n)
  (fun b o hc e => ⟨o, k b o hc e⟩) (fun b xs e => by rw [x6 (l7 e hn)]; exact e) (fun b _ _ e => by rw [x6 (l7 e hn)]; exact e) (fun b ps e => ⟨#[], by rw [x6 (l7 e hn), e]; simp⟩) (fun m hm => ?_) (fun b u e => ?_) I.bare
 ·obtain ⟨o, es, ep, ho, r⟩ := hm
  exact ⟨o, es, ep, k _ o (fun z => (hf _ z).2.1 rfl) ho, r⟩
 ·by_cases hb : b = T
  ·subst hb; rw [y8] at e; cases e; exact new
  ·rw [x6 hb] at e
   refine (I.hok b u e).stay (fun c v hc q => k c v ?_ q) (fun c q => by rw [x6 (l7 q hn)]; exact q) fun c xs q => by rw [x6 (l7 q hn)]; exact q
   rcases hc with z | z
   ·rw [z]; exact nit b u e
   ·exact nit c _ z
end
structure Zip2 (z TI TO i1 i2 : Addr) : Prop where
 TIz : TI ≠ z
 TOz : TO ≠ z
 i1z : i1 ≠ z
 i2z : i2 ≠ z
 TITO : TI ≠ TO
 TIi1 : TI ≠ i1
 TIi2 : TI ≠ i2
 TOi1 : TO ≠ i1
 TOi2 : TO ≠ i2
 i12 : i1 ≠ i2
section
variable {X : Cx}
end
end
section
structure Zip3 (z TI TO i1 i2 i3 : Addr) : Prop where
 TIz : TI ≠ z
 TOz : TO ≠ z
 i1z : i1 ≠ z
 i2z : i2 ≠ z
 i3z : i3 ≠ z
 TITO : TI ≠ TO
 TIi1 : TI ≠ i1
 TIi2 : TI ≠ i2
 TIi3 : TI ≠ i3
 TOi1 : TO ≠ i1
 TOi2 : TO ≠ i2
 TOi3 : TO ≠ i3
 i12 : i1 ≠ i2
 i13 : i1 ≠ i3
 i23 : i2 ≠ i3
structure Apart3 (z TO i1 i2 i3 l : Addr) : Prop where
 lz : l ≠ z
 lTO : l ≠ TO
 l1 : l ≠ i1
 l2 : l ≠ i2
 l3 : l ≠ i3
section
variable {prog : Program} {w : World} {A : Around} {E : Value -> Shared -> Prop} {s : Shared}
end
section
variable {X : Cx}
end
def Ite (K : W.Frag) (l : Addr) : It :=
 ⟨fun i H => ∃ xs x, SqL K H l xs /\ xs[i]? = some x,
  fun i H v H' => ∃ t x, v = .ref t /\ H t = none /\ H' = upd H t (.tup [.int i, x]) /\ (∀ xs, SqL K H l xs -> xs[i]? = some x),
  fun i H => ∃ xs, SqL K H l xs /\ xs.length <= i⟩
theorem zo3 {P : Program} {w : World} {K : W.Frag} {es : List Expr} {tk : Nat} {tp : Pos} (e it l : Addr) (hne : e ≠ it) :
  Turn P w K (.Tuple es tk tp) (Ite K l) [e, it] e (fun i h => (∃ old, IsEnum h e it (i : Nat) old) /\ h.IsListIter it l i) where
 mem := by simp
 obj := fun i h st b hb => by
  obtain ⟨⟨old, he⟩, ⟨o1, e1, _, d1⟩⟩ := st
  simp only [mem_cons, not_mem_nil, or_false] at hb
  rcases hb with rfl | rfl
  ·exact ⟨_, he, fun v q => by cases q⟩
  ·exact ⟨_, e1, fun v q => by rw [d1] at q; cases q⟩
 keep := fun i h h' st k => by
  obtain ⟨⟨old, he⟩, h1⟩ := st
  exact ⟨⟨old, k e (by simp) _ he⟩, h1.at fun o q => k it (by simp) o q⟩
 item := by
  intro X hP hw hK hc i pins s σ H E I hf st hg
  subst hP hw hK
  obtain ⟨xs, x, hq1, hx⟩ := hg
  obtain ⟨its1, rv1, p1, _⟩ := I.list hq1
  obtain ⟨u1, hu1, ru1⟩ := rv1.get hx
  obtain ⟨⟨old, he⟩, h1⟩ := st
  refine wpAny_pyNext_enum_item he h1 p1.isList (x := u1) (by simpa using hu1) hne fun h' a1 a2 a3 a4 hk => ?_
  refine ⟨_, rfl, ?_⟩
  refine wpAny_letOwnedTupleGo_enum a1 fun h'' he'' hs'' => ?_
  have hzs : e < s.heap.objs.size := Heap.lt_size he
  have kk : ∀ c o, c ∉ [e, it] -> s.heap.get? c = some o -> h''.get? c = some o := fun c o hc q => by
   simp only [mem_cons, not_mem_nil, or_false, not_or] at hc
   exact hs''.extBut _ _ hc.1 (hk c o hc.1 hc.2 q)
  have hT : h''.get? s.heap.objs.size = some { cls := .type "tuple", data := .seq #[.int i s.toks, u1] } := hs''.extBut _ _ (Nat.ne_of_gt hzs) a3
  have I2 : Inv X pins σ (upd H s.heap.objs.size (.tup [.int i, x])) { s with heap := h'', toks := s.toks + 1 } :=
   I.turnedN (T := s.heap.objs.size) (o := .tup [.int i, x]) kk hf (Nat.le_refl _) ⟨by show 2 <= sizeLine; decide, [.int i s.toks, u1], .cons ⟨_, rfl⟩ (.cons ru1 .nil), ⟨_, hT, rfl, _, rfl⟩⟩
  refine ⟨.ref s.heap.objs.size, _, I2, rfl, ⟨_, x, rfl, I.fresh, rfl, fun zs hzs' => by rw [I.list_inj hzs' hq1]; exact hx⟩,
   ⟨⟨_, he''⟩, a2.extBut hs''.extBut hne.symm⟩, fun c hc' => ?_⟩
  have hlt : c < s.heap.objs.size := by
   obtain ⟨o1, e1, _⟩ := h1
   simp only [mem_cons, not_mem_nil, or_false] at hc'
   rcases hc' with rfl | rfl
   ·exact hzs
   ·exact Heap.lt_size e1
  rw [x6 (Nat.ne_of_lt hlt)]
  exact (hf c hc').1
 done := by
  intro X hP hw hK hc i pins s σ H E I hf st hg
  subst hP hw hK
  obtain ⟨xs, hq1, hl⟩ := hg
  obtain ⟨its1, rv1, p1, _⟩ := I.list hq1
  obtain ⟨⟨old, he⟩, h1⟩ := st
  have l1' := rv1.length
  refine wpAny_pyNext_enum_end (I.ok.hd hc) he h1 p1.isList (by simp; omega) fun h' hk => ⟨rfl, ?_⟩
  exact I.turnedL (t' := s.toks) (fun c o hc q => by
   simp only [mem_cons, not_mem_nil, or_false, not_or] at hc
   exact hk c o hc.2 q) hf
 self := fun A i s Q E st h => by
  obtain ⟨⟨old, he⟩, h1⟩ := st
  have hT : s.TypeIs (.ref e) "enumerate" := ⟨_, he, rfl⟩
  refine wpAny_pyIter_slot hT F.slot_enumerate_iter (wpAny_call_entry F.slot_enumerate_iter hT F.entry_enumerate_iter ?_ (F.args_enumerate_iter_1 _))
  show wpAny _ _ (ret (.ref e)) _ _ s
  exact wpAny_pure ⟨_, rfl, "enumerate", _, hT, F.slot_enumerate_next.lookup, h⟩
section
variable {X : Cx}
def wx9 (K : W.Frag) (ta : TA) : TI := fun σ H R => ta σ H fun vs H1 => ∃ a xs, vs = [.ref a] /\ SqL K H1 a xs /\ R (Ite K a) H1
theorem yp0 {a : Expr} {ta : TA} {p pos : Pos} {es : List Expr} {tk : Nat} {tp : Pos} (hg : Gl X "enumerate") (hm : X.mg "enumerate" = none) (ha : PA X [a] ta) (hs : starEach [a] X.env = [(false, eval a X.env)] := by rfl) :
  PI X (.Tuple es tk tp) (.Call (.Name "enumerate" p) [a] [] pos) (wx9 X.K ta) := by
 intro pins s σ H R I h
 refine Call_ (G0 I hg hm boot_enumerate (PyProof.Rows.callWith_type1 (thn (ha pos pins s σ H _ I h) fun us s1 hpat => ?_) hs rfl))
 obtain ⟨vs, H1, I1, r1, q1⟩ := hpat
 obtain ⟨l, xs, e, q1, q⟩ := q1
 subst e
 cases r1 with
 | cons r rr =>
  cases rr
  cases r
  obtain ⟨its1, rv1, p1, _⟩ := I1.list q1
  refine call_enumerate_list p1.isList fun h' he hit hsz hk => ?_
  have I2 : Inv X pins σ H1 { s1 with heap := h', toks := s1.toks } := I1.kept hk
  have hT : ({ s1 with heap := h' } : Shared).TypeIs (.ref (s1.heap.objs.size + 1)) "enumerate" := ⟨_, he, rfl⟩
  refine (zo3 (P := X.prog) (w := X.w) (K := X.K) (es := es) (tk := tk) (tp := tp) (s1.heap.objs.size + 1) s1.heap.objs.size l (Nat.ne_of_gt (Nat.lt_succ_self _))).self X.A 0 { s1 with heap := h' } _ _ ⟨⟨_, he⟩, hit⟩ ?_
  refine ⟨_, [s1.heap.objs.size + 1, s1.heap.objs.size], _, _, H1, rfl, I2, zo3 _ _ l (Nat.ne_of_gt (Nat.lt_succ_self _)), ⟨⟨_, he⟩, hit⟩, fun b hb => ?_, q⟩
  have hb' : s1.heap.objs.size <= b := by
   simp only [mem_cons, not_mem_nil, or_false] at hb
   rcases hb with rfl | rfl
   ·exact Nat.le_succ _
   ·exact Nat.le_refl _
  exact I1.fpOk hb' (I1.hok.fresh hb')
end
end
section
def XAt (a C : Addr) (h : Heap) : Prop := ∃ o vs, h.get? a = some o /\ o.cls = .ref C /\ o.data = .fields vs
def xa2 (K : W.Frag) (C : Addr) : Option Str := match K.lookup C with
 | some ⟨_, _, .cls cd, _⟩ => some cd.name
 | _ => none
inductive D where
 | non | bl (b : Bool) | int (i : Int) | str (x : Str) | lst (ds : List D) | tup (ds : List D) | exc (c : Str)
 | ptr (a : Addr) | obj (c : Str) (ns : List Str) (ds : List D)
mutual
inductive Rep (K : W.Frag) (F : Hp) : V -> D -> Prop
 | non : Rep K F .non .non
 | bl (b : Bool) : Rep K F (.bl b) (.bl b)
 | int (i : Int) : Rep K F (.int i) (.int i)
 | str (x : Str) : Rep K F (.str x) (.str x)
 | lst {a : Addr} {xs : List V} {ds : List D} : SqL K F a xs -> Reps K F xs ds -> Rep K F (.ref a) (.lst ds)
 | tup {a : Addr} {xs : List V} {ds : List D} : SqT K F a xs -> Reps K F xs ds -> Rep K F (.ref a) (.tup ds)
 | exc {a C : Addr} {c : Str} : (W.nsIn K mainGlobals c = some (some (.ref C)) /\ xa2 K C = some c) -> F a = some (.ext (XAt a C)) -> Rep K F (.ref a) (.exc c)
 | ptr (a : Addr) : Rep K F (.ref a) (.ptr a)
 | obj {a dx C : Addr} {c : Str} {ns : List Str} {xs : List V} {ds : List D} : W.nsIn K mainGlobals c = some (some (.ref C)) -> ns.length = xs.length -> F a = some (.ins C dx (ns.zip xs)) -> F dx = some (.own a) -> Reps K F xs ds -> Rep K F (.ref a) (.obj c ns ds)
inductive Reps (K : W.Frag) (F : Hp) : List V -> List D -> Prop
 | nil : Reps K F [] []
 | cons {v : V} {d : D} {vs : List V} {ds : List D} : Rep K F v d -> Reps K F vs ds -> Reps K F (v :: vs) (d :: ds)
end
theorem Same.seqT {K : W.Frag} {H H' : Hp} {a : Addr} {xs : List V} (e : Same H H') (h : SqT K H a xs) : SqT K H' a xs := by
 rcases h with (h | ⟨o, h⟩) | h
 ·exact .inl (.inl (e _ _ h))
 ·exact .inl (.inr ⟨o, e _ _ h⟩)
 ·exact .inr h
section
variable {K : W.Frag} {F F' : Hp}
mutual
theorem Rep.mono (e : Same F F') : ∀ {v : V} {d : D}, Rep K F v d -> Rep K F' v d
 | _, _, .non => .non
 | _, _, .bl b => .bl b
 | _, _, .int i => .int i
 | _, _, .str x => .str x
 | _, _, .lst h r => .lst (e.seq h) (Reps.mono e r)
 | _, _, .tup h r => .tup (e.seqT h) (Reps.mono e r)
 | _, _, .exc h r => .exc h (e _ _ r)
 | _, _, .ptr a => .ptr a
 | _, _, .obj c l h h2 r => .obj c l (e _ _ h) (e _ _ h2) (Reps.mono e r)
theorem Reps.mono (e : Same F F') : ∀ {vs : List V} {ds : List D}, Reps K F vs ds -> Reps K F' vs ds
 | _, _, .nil => .nil
 | _, _, .cons h r => .cons (Rep.mono e h) (Reps.mono e r)
end
theorem Reps.length : ∀ {vs : List V} {ds : List D}, Reps K F vs ds -> vs.length = ds.length
 | _, _, .nil => rfl
 | _, _, .cons _ r => congrArg (· + 1) (Reps.length r)
theorem Reps.get : ∀ {vs : List V} {ds : List D} {i : Nat} {d : D}, Reps K F vs ds -> ds[i]? = some d -> ∃ v, vs[i]? = some v /\ Rep K F v d
 | _, _, _, _, .nil, e => by simp at e
 | _, _, 0, _, .cons h _, e => by simp at e; subst e; exact ⟨_, rfl, h⟩
 | _, _, i + 1, d, .cons _ r, e => by
  obtain ⟨v, h1, h2⟩ := Reps.get (i := i) (d := d) r (by simpa using e)
  exact ⟨v, by simpa using h1, h2⟩
theorem Reps.get' : ∀ {vs : List V} {ds : List D} {i : Nat} {v : V}, Reps K F vs ds -> vs[i]? = some v -> ∃ d, ds[i]? = some d /\ Rep K F v d
 | _, _, _, _, .nil, e => by simp at e
 | _, _, 0, _, .cons h _, e => by simp at e; subst e; exact ⟨_, rfl, h⟩
 | _, _, i + 1, d, .cons _ r, e => by
  obtain ⟨v, h1, h2⟩ := Reps.get' (i := i) (v := d) r (by simpa using e)
  exact ⟨v, by simpa using h1, h2⟩
theorem Reps.append : ∀ {vs ws : List V} {ds es : List D}, Reps K F vs ds -> Reps K F ws es -> Reps K F (vs ++ ws) (ds ++ es)
 | _, _, _, _, .nil, s => s
 | _, _, _, _, .cons h r, s => .cons h (Reps.append r s)
theorem Reps.take : ∀ {vs : List V} {ds : List D} (n : Nat), Reps K F vs ds -> Reps K F (vs.take n) (ds.take n)
 | _, _, 0, _ => .nil
 | _, _, _ + 1, .nil => .nil
 | _, _, n + 1, .cons h r => .cons h (Reps.take n r)
theorem Reps.drop : ∀ {vs : List V} {ds : List D} (n : Nat), Reps K F vs ds -> Reps K F (vs.drop n) (ds.drop n)
 | _, _, 0, r => r
 | _, _, _ + 1, .nil => .nil
 | _, _, n + 1, .cons _ r => Reps.drop n r
theorem Reps.set {v : V} {d : D} (h : Rep K F v d) : ∀ {vs : List V} {ds : List D} (i : Nat), Reps K F vs ds -> Reps K F (vs.set i v) (ds.set i d)
 | _, _, _, .nil => .nil
 | _, _, 0, .cons _ r => .cons h r
 | _, _, i + 1, .cons q r => .cons q (Reps.set h i r)
end
structure Ext (F H F' H' : Hp) : Prop where
 ff : Same F F'
 hh : Same H H'
 fh : Same F' H'
 new : ∀ b, F b = none -> F' b ≠ none -> H b = none
 nf : ∀ b o u, F' b = some (.frz o u) -> F b = some (.frz o u)
theorem Ext.refl {F H : Hp} (h : Same F H) : Ext F H F H := ⟨Same.refl _, Same.refl _, h, fun b e n => absurd e n, fun _ _ _ z => z⟩
theorem Ext.trans {F H F1 H1 F2 H2 : Hp} (a : Ext F H F1 H1) (b : Ext F1 H1 F2 H2) : Ext F H F2 H2 :=
 ⟨a.ff.trans b.ff, a.hh.trans b.hh, b.fh, fun c e n => by
  by_cases h : F1 c = none
  ·exact a.hh.free (b.new c h n)
  ·exact a.new c e h, fun c o u z => a.nf c o u (b.nf c o u z)⟩
theorem Same.put {F H : Hp} {p : Addr} {o : HO} (h : Same F H) (hp : F p = none) : Same F (upd H p o) := fun b u e => by
 rw [x6 (l7 e hp)]; exact h b u e
theorem Same.put2 {F H : Hp} {p : Addr} {o : HO} (h : Same F H) : Same (upd F p o) (upd H p o) := fun b u e => by
 by_cases hb : b = p
 ·subst hb; rw [y8] at e ⊢; exact e
 ·rw [x6 hb] at e ⊢; exact h b u e
theorem Ext.laid {F H : Hp} {p : Addr} {o : HO} (h : Same F H) (hp : H p = none) (hz : ∀ a u, o ≠ .frz a u := by intro _ _ z; cases z) : Ext F H (upd F p o) (upd H p o) :=
 ⟨(Same.refl F).put (h.free hp), (Same.refl H).put hp, h.put2, fun b e n => by
  by_cases hb : b = p
  ·subst hb; exact hp
  ·rw [x6 hb] at n; exact absurd e n, fun b a u z => by
  by_cases hb : b = p
  ·subst hb; rw [y8] at z; exact absurd (Option.some.inj z) (hz a u)
  ·rw [x6 hb] at z; exact z⟩
theorem Ext.own {F H : Hp} {p : Addr} {o : HO} (h : Same F H) (hp : H p = none) : Ext F H F (upd H p o) :=
 ⟨Same.refl F, (Same.refl H).put hp, h.put (h.free hp), fun b e n => absurd e n, fun _ _ _ z => z⟩
theorem Ext.freeze {F H F' H' : Hp} {p : Addr} {o : HO} (a : Ext F H F' H') (hp' : F' p = none) (hp : H p = none) (ho : H' p = some o) (hz : ∀ a u, o ≠ .frz a u := by intro _ _ z; cases z) : Ext F H (upd F' p o) H' :=
 ⟨a.ff.put (a.ff.free hp'), a.hh, fun b u e => by
   by_cases hb : b = p
   ·subst hb; rw [y8] at e; cases e; exact ho
   ·rw [x6 hb] at e; exact a.fh b u e, fun b e n => by
   by_cases hb : b = p
   ·subst hb; exact hp
   ·rw [x6 hb] at n; exact a.new b e n, fun b c u z => by
   by_cases hb : b = p
   ·subst hb; rw [y8] at z; exact absurd (Option.some.inj z) (hz c u)
   ·rw [x6 hb] at z; exact a.nf b c u z⟩
inductive S where
 | sh (d : D) | own (ds : List D) | ob (p : Addr) (ds : List D)
abbrev Ro := List (Option S)
structure Rl (K : W.Frag) (F0 H0 F H : Hp) (σ : St) (ρ : Ro) : Prop where
 ext : Ext F0 H0 F H
 len : σ.length = ρ.length
 sh : ∀ (i : Nat) d, ρ[i]? = some (some (.sh d)) -> ∃ v, σ[i]? = some (some v) /\ Rep K F v d
 own : ∀ (i : Nat) ds, ρ[i]? = some (some (.own ds)) -> ∃ p xs, σ[i]? = some (some (.ref p)) /\ F p = none /\ H p = some (.lst xs) /\ Reps K F xs ds /\ H0 p = none
 inj : ∀ (i j : Nat) p ds es, i ≠ j -> ρ[i]? = some (some (.own ds)) -> ρ[j]? = some (some (.own es)) -> σ[i]? = some (some (.ref p)) -> σ[j]? = some (some (.ref p)) -> False
 ob : ∀ (i : Nat) p ds, ρ[i]? = some (some (.ob p ds)) -> σ[i]? = some (some (.ref p)) /\ F p = none /\ H0 p = none /\ ∃ xs, H p = some (.lst xs) /\ Reps K F xs ds
 obn : ∀ (i j : Nat) p ds es, ρ[i]? = some (some (.ob p ds)) -> ρ[j]? = some (some (.own es)) -> σ[j]? = some (some (.ref p)) -> False
 ob1 : ∀ (i j : Nat) p q ds es, ρ[i]? = some (some (.ob p ds)) -> ρ[j]? = some (some (.ob q es)) -> i = j
def nob : Option S -> Prop
 | some (.ob _ _) => False
 | _ => True
theorem j9 {ρ : Ro} {i j : Nat} {x : Option S} {p : Addr} {ds : List D} (e : (ρ.set i x)[j]? = some (some (.ob p ds))) (hx : nob x := by exact True.intro) : i ≠ j /\ ρ[j]? = some (some (.ob p ds)) := by
 by_cases hj : i = j
 ·subst hj
  rcases Nat.lt_or_ge i ρ.length with z | z
  ·rw [getElem?_set_self z] at e; cases e; exact hx.elim
  ·rw [getElem?_eq_none (by simpa using z)] at e; cases e
 ·rw [getElem?_set_ne hj] at e; exact ⟨hj, e⟩
section
variable {K : W.Frag} {F0 H0 F H F' H' : Hp} {σ : St} {ρ : Ro}
theorem Rl.fh (r : Rl K F0 H0 F H σ ρ) : Same F H := r.ext.fh
theorem Rl.go (r : Rl K F0 H0 F H σ ρ) (e : Ext F H F' H') : Rl K F0 H0 F' H' σ ρ where
 ext := r.ext.trans e
 len := r.len
 sh := fun i d h => let ⟨v, a, b⟩ := r.sh i d h; ⟨v, a, b.mono e.ff⟩
 own := fun i ds h => by
  obtain ⟨p, xs, a, b, c, d, z⟩ := r.own i ds h
  refine ⟨p, xs, a, ?_, e.hh _ _ c, d.mono e.ff, z⟩
  cases q : F' p with
  | none => rfl
  | some o => have := e.new p b (by rw [q]; simp); rw [this] at c; cases c
 inj := r.inj
 ob := fun i p ds h => by
  obtain ⟨a, b, c, xs, d, z⟩ := r.ob i p ds h
  refine ⟨a, ?_, c, xs, e.hh _ _ d, z.mono e.ff⟩
  cases q : F' p with
  | none => rfl
  | some o => have := e.new p b (by rw [q]; simp); rw [this] at d; cases d
 obn := r.obn
 ob1 := r.ob1
theorem Rl.set (r : Rl K F0 H0 F H σ ρ) {i : Nat} {v : V} {d : D} (h : Rep K F v d) : Rl K F0 H0 F H (σ.set i (some v)) (ρ.set i (some (.sh d))) where
 ext := r.ext
 len := by simp [r.len]
 sh := fun j d' e => by
  by_cases hj : i = j
  ·subst hj
   have hl : i < ρ.length := by
    rcases Nat.lt_or_ge i ρ.length with z | z
    ·exact z
    ·rw [getElem?_eq_none (by simpa using z)] at e; cases e
   rw [getElem?_set_self hl] at e
   cases e
   exact ⟨v, by rw [getElem?_set_self (by rw [r.len]; exact hl)], h⟩
  ·rw [getElem?_set_ne hj] at e ⊢
   exact r.sh j d' e
 own := fun j ds e => by
  by_cases hj : i = j
  ·subst hj
   have hl : i < ρ.length := by
    rcases Nat.lt_or_ge i ρ.length with z | z
    ·exact z
    ·rw [getElem?_eq_none (by simpa using z)] at e; cases e
   rw [getElem?_set_self hl] at e
   cases e
  ·rw [getElem?_set_ne hj] at e ⊢
   exact r.own j ds e
 inj := fun j k p ds es hjk e1 e2 e3 e4 => by
  have n1 : i ≠ j := fun z => by
   subst z
   have hl : i < ρ.length := by
    rcases Nat.lt_or_ge i ρ.length with z | z
    ·exact z
    ·rw [getElem?_eq_none (by simpa using z)] at e1; cases e1
   rw [getElem?_set_self hl] at e1; cases e1
  have n2 : i ≠ k := fun z => by
   subst z
   have hl : i < ρ.length := by
    rcases Nat.lt_or_ge i ρ.length with z | z
    ·exact z
    ·rw [getElem?_eq_none (by simpa using z)] at e2; cases e2
   rw [getElem?_set_self hl] at e2; cases e2
  rw [getElem?_set_ne n1] at e1 e3
  rw [getElem?_set_ne n2] at e2 e4
  exact r.inj j k p ds es hjk e1 e2 e3 e4
 ob := fun j p ds e => by
  obtain ⟨n, e⟩ := j9 e
  rw [getElem?_set_ne n]; exact r.ob j p ds e
 obn := fun j k p ds es e1 e2 e3 => by
  obtain ⟨n, e1⟩ := j9 e1
  have n2 : i ≠ k := fun z => by
   subst z
   have hl : i < ρ.length := by
    rcases Nat.lt_or_ge i ρ.length with z | z
    ·exact z
    ·rw [getElem?_eq_none (by simpa using z)] at e2; cases e2
   rw [getElem?_set_self hl] at e2; cases e2
  rw [getElem?_set_ne n2] at e2 e3
  exact r.obn j k p ds es e1 e2 e3
 ob1 := fun j k p q ds es e1 e2 => r.ob1 j k p q ds es (j9 e1).2 (j9 e2).2
theorem Rl.setOwn (r : Rl K F0 H0 F H σ ρ) {i : Nat} {p : Addr} {xs : List V} {ds : List D} (hF : F p = none) (hH : H p = some (.lst xs)) (h : Reps K F xs ds) (h0 : H0 p = none)
  (fr : ∀ (j : Nat) es, i ≠ j -> ρ[j]? = some (some (.own es)) -> σ[j]? = some (some (.ref p)) -> False) (fo : ∀ (j : Nat) q es, ρ[j]? = some (some (.ob q es)) -> q ≠ p) : Rl K F0 H0 F H (σ.set i (some (.ref p))) (ρ.set i (some (.own ds))) where
 ext := r.ext
 len := by simp [r.len]
 sh := fun j d' e => by
  by_cases hj : i = j
  ·subst hj
   have hl : i < ρ.length := by
    rcases Nat.lt_or_ge i ρ.length with z | z
    ·exact z
    ·rw [getElem?_eq_none (by simpa using z)] at e; cases e
   rw [getElem?_set_self hl] at e
   cases e
  ·rw [getElem?_set_ne hj] at e ⊢
   exact r.sh j d' e
 own := fun j es e => by
  by_cases hj : i = j
  ·subst hj
   have hl : i < ρ.length := by
    rcases Nat.lt_or_ge i ρ.length with z | z
    ·exact z
    ·rw [getElem?_eq_none (by simpa using z)] at e; cases e
   rw [getElem?_set_self hl] at e
   cases e
   exact ⟨p, xs, by rw [getElem?_set_self (by rw [r.len]; exact hl)], hF, hH, h, h0⟩
  ·rw [getElem?_set_ne hj] at e ⊢
   exact r.own j es e
 inj := fun j k q es es' hjk e1 e2 e3 e4 => by
  by_cases n1 : i = j
  ·subst n1
   rw [getElem?_set_ne hjk] at e2 e4
   have hl : i < σ.length := by
    rcases Nat.lt_or_ge i σ.length with z | z
    ·exact z
    ·rw [getElem?_eq_none (by simpa using z)] at e3; cases e3
   rw [getElem?_set_self hl] at e3
   cases e3
   exact fr k es' hjk e2 e4
  ·rw [getElem?_set_ne n1] at e1 e3
   by_cases n2 : i = k
   ·subst n2
    have hl : i < σ.length := by
     rcases Nat.lt_or_ge i σ.length with z | z
     ·exact z
     ·rw [getElem?_eq_none (by simpa using z)] at e4; cases e4
    rw [getElem?_set_self hl] at e4
    cases e4
    exact fr j es n1 e1 e3
   ·rw [getElem?_set_ne n2] at e2 e4
    exact r.inj j k q es es' hjk e1 e2 e3 e4
 ob := fun j q es e => by
  obtain ⟨n, e⟩ := j9 e
  rw [getElem?_set_ne n]; exact r.ob j q es e
 obn := fun j k q es es' e1 e2 e3 => by
  obtain ⟨n, e1⟩ := j9 e1
  by_cases n2 : i = k
  ·subst n2
   have hl : i < σ.length := by
    rcases Nat.lt_or_ge i σ.length with z | z
    ·exact z
    ·rw [getElem?_eq_none (by simpa using z)] at e3; cases e3
   rw [getElem?_set_self hl] at e3
   cases e3
   exact fo j p es e1 rfl
  ·rw [getElem?_set_ne n2] at e2 e3
   exact r.obn j k q es es' e1 e2 e3
 ob1 := fun j k p q ds es e1 e2 => r.ob1 j k p q ds es (j9 e1).2 (j9 e2).2
theorem Rl.freeze (r : Rl K F0 H0 F H σ ρ) {i : Nat} {ds : List D} (h : ρ[i]? = some (some (.own ds))) : ∃ F', Rl K F0 H0 F' H σ (ρ.set i (some (.sh (.lst ds)))) /\ Same F F' := by
 obtain ⟨p, xs, a, b, c, d, z⟩ := r.own i ds h
 have hl : i < ρ.length := (List.getElem?_eq_some_iff.mp h).1
 have e : Ext F0 H0 (upd F p (.lst xs)) H := r.ext.freeze b z c
 have ff : Same F (upd F p (.lst xs)) := (Same.refl F).put b
 refine ⟨upd F p (.lst xs), ⟨e, by simp [r.len], fun j d' q => ?_, fun j es q => ?_, fun j k q es es' hjk e1 e2 e3 e4 => ?_, fun j q es e1 => ?_, fun j k q es es' e1 e2 e3 => ?_, fun j k q q' es es' e1 e2 => r.ob1 j k q q' es es' (j9 e1).2 (j9 e2).2⟩, ff⟩
 ·by_cases hj : i = j
  ·subst hj
   rw [getElem?_set_self hl] at q
   cases q
   exact ⟨_, a, .lst (SqL.of y8) (d.mono ff)⟩
  ·rw [getElem?_set_ne hj] at q
   obtain ⟨v, v1, v2⟩ := r.sh j d' q
   exact ⟨v, v1, v2.mono ff⟩
 ·by_cases hj : i = j
  ·subst hj
   rw [getElem?_set_self hl] at q
   cases q
  ·rw [getElem?_set_ne hj] at q
   obtain ⟨p', xs', a', b', c', d', z'⟩ := r.own j es q
   have hp : p' ≠ p := fun w => r.inj i j p ds es hj h q a (by rw [<- w]; exact a')
   exact ⟨p', xs', a', by rw [x6 hp]; exact b', c', d'.mono ff, z'⟩
 ·have n1 : i ≠ j := fun w => by subst w; rw [getElem?_set_self hl] at e1; cases e1
  have n2 : i ≠ k := fun w => by subst w; rw [getElem?_set_self hl] at e2; cases e2
  rw [getElem?_set_ne n1] at e1
  rw [getElem?_set_ne n2] at e2
  exact r.inj j k q es es' hjk e1 e2 e3 e4
 ·obtain ⟨n, e1⟩ := j9 e1
  obtain ⟨o1, o2, o3, zs, o4, o5⟩ := r.ob j q es e1
  have hp : q ≠ p := fun w => r.obn j i q es ds e1 h (by rw [w]; exact a)
  exact ⟨o1, by rw [x6 hp]; exact o2, o3, zs, o4, o5.mono ff⟩
 ·obtain ⟨n, e1⟩ := j9 e1
  have n2 : i ≠ k := fun w => by subst w; rw [getElem?_set_self hl] at e2; cases e2
  rw [getElem?_set_ne n2] at e2
  exact r.obn j k q es es' e1 e2 e3
theorem Rl.write (r : Rl K F0 H0 F H σ ρ) {i : Nat} {p : Addr} {ys : List V} {ds es : List D} (h : ρ[i]? = some (some (.own ds))) (hp : σ[i]? = some (some (.ref p))) (hy : Reps K F ys es) :
  Rl K F0 H0 F (upd H p (.lst ys)) σ (ρ.set i (some (.own es))) := by
 obtain ⟨p', xs', a, b, c, d, z⟩ := r.own i ds h
 rw [hp] at a; cases a
 have hl : i < ρ.length := (List.getElem?_eq_some_iff.mp h).1
 refine ⟨⟨r.ext.ff, r.ext.hh.put z, r.ext.fh.put b, r.ext.new, r.ext.nf⟩, by simp [r.len], fun j d' q => ?_, fun j fs q => ?_, fun j k q fs fs' hjk e1 e2 e3 e4 => ?_, fun j q fs e1 => ?_, fun j k q fs fs' e1 e2 e3 => ?_, fun j k q q' es es' e1 e2 => r.ob1 j k q q' es es' (j9 e1).2 (j9 e2).2⟩
 ·by_cases hj : i = j
  ·subst hj
   rw [getElem?_set_self hl] at q
   cases q
  ·rw [getElem?_set_ne hj] at q
   exact r.sh j d' q
 ·by_cases hj : i = j
  ·subst hj
   rw [getElem?_set_self hl] at q
   cases q
   exact ⟨p, ys, hp, b, y8, hy, z⟩
  ·rw [getElem?_set_ne hj] at q
   obtain ⟨p2, xs2, a2, b2, c2, d2, z2⟩ := r.own j fs q
   have hpp : p2 ≠ p := fun w => r.inj i j p ds fs hj h q hp (by rw [<- w]; exact a2)
   exact ⟨p2, xs2, a2, b2, by rw [x6 hpp]; exact c2, d2, z2⟩
 ·have back : ∀ (m : Nat) gs, (ρ.set i (some (S.own es)))[m]? = some (some (.own gs)) -> ∃ gs', ρ[m]? = some (some (.own gs')) := fun m gs e => by
   by_cases hm : i = m
   ·subst hm; exact ⟨ds, h⟩
   ·rw [getElem?_set_ne hm] at e; exact ⟨gs, e⟩
  obtain ⟨g1, e1⟩ := back j fs e1
  obtain ⟨g2, e2⟩ := back k fs' e2
  exact r.inj j k q g1 g2 hjk e1 e2 e3 e4
 ·obtain ⟨n, e1⟩ := j9 e1
  obtain ⟨o1, o2, o3, zs, o4, o5⟩ := r.ob j q fs e1
  have hpp : q ≠ p := fun w => r.obn j i q fs ds e1 h (by rw [w]; exact hp)
  exact ⟨o1, o2, o3, zs, by rw [x6 hpp]; exact o4, o5⟩
 ·obtain ⟨n, e1⟩ := j9 e1
  by_cases n2 : i = k
  ·subst n2; exact r.obn j i q fs ds e1 h e3
  ·rw [getElem?_set_ne n2] at e2
   exact r.obn j k q fs fs' e1 e2 e3
theorem Rl.writeB (r : Rl K F0 H0 F H σ ρ) {i : Nat} {p : Addr} {ys : List V} {ds es : List D} (h : ρ[i]? = some (some (.ob p ds))) (hy : Reps K F ys es) :
  Rl K F0 H0 F (upd H p (.lst ys)) σ (ρ.set i (some (.ob p es))) := by
 obtain ⟨a, b, z, xs', c, d⟩ := r.ob i p ds h
 have hl : i < ρ.length := (List.getElem?_eq_some_iff.mp h).1
 have back : ∀ (j : Nat) q fs, (ρ.set i (some (S.ob p es)))[j]? = some (some (.ob q fs)) -> j = i /\ q = p /\ fs = es := fun j q fs e => by
  by_cases hj : i = j
  ·subst hj; rw [getElem?_set_self hl] at e; cases e; exact ⟨rfl, rfl, rfl⟩
  ·rw [getElem?_set_ne hj] at e; exact absurd (r.ob1 i j p q ds fs h e) hj
 have other : ∀ (j : Nat) fs, (ρ.set i (some (S.ob p es)))[j]? = some (some (.own fs)) -> i ≠ j /\ ρ[j]? = some (some (.own fs)) := fun j fs e => by
  by_cases hj : i = j
  ·subst hj; rw [getElem?_set_self hl] at e; cases e
  ·rw [getElem?_set_ne hj] at e; exact ⟨hj, e⟩
 refine ⟨⟨r.ext.ff, r.ext.hh.put z, r.ext.fh.put b, r.ext.new, r.ext.nf⟩, by simp [r.len], fun j d' q => ?_, fun j fs q => ?_, fun j k q fs fs' hjk e1 e2 e3 e4 => r.inj j k q fs fs' hjk (other j fs e1).2 (other k fs' e2).2 e3 e4, fun j q fs e1 => ?_, fun j k q fs fs' e1 e2 e3 => ?_, fun j k q q' fs fs' e1 e2 => ?_⟩
 ·by_cases hj : i = j
  ·subst hj; rw [getElem?_set_self hl] at q; cases q
  ·rw [getElem?_set_ne hj] at q; exact r.sh j d' q
 ·obtain ⟨n, e⟩ := other j fs q
  obtain ⟨p2, xs2, a2, b2, c2, d2, z2⟩ := r.own j fs e
  have hpp : p2 ≠ p := fun w => r.obn i j p ds fs h e (by rw [<- w]; exact a2)
  exact ⟨p2, xs2, a2, b2, by rw [x6 hpp]; exact c2, d2, z2⟩
 ·obtain ⟨e2, e3, e4⟩ := back j q fs e1
  subst e2 e3 e4
  exact ⟨a, b, z, ys, y8, hy⟩
 ·obtain ⟨e4, e5, _⟩ := back j q fs e1
  subst e4 e5
  exact r.obn j k q ds fs' h (other k fs' e2).2 e3
 ·rw [(back j q fs e1).1, (back k q' fs' e2).1]
end
theorem Rep.n' {K : W.Frag} {F : Hp} {x : V} (r : Rep K F x .non) : x = .non := by cases r; rfl
theorem Rep.b' {K : W.Frag} {F : Hp} {x : V} {i : Bool} (r : Rep K F x (.bl i)) : x = .bl i := by cases r; rfl
theorem Rep.i' {K : W.Frag} {F : Hp} {x : V} {i : Int} (r : Rep K F x (.int i)) : x = .int i := by cases r; rfl
theorem Rep.s' {K : W.Frag} {F : Hp} {x : V} {i : Str} (r : Rep K F x (.str i)) : x = .str i := by cases r; rfl
theorem Rep.l' {K : W.Frag} {F : Hp} {x : V} {ds : List D} (r : Rep K F x (.lst ds)) : ∃ a xs, x = .ref a /\ SqL K F a xs /\ Reps K F xs ds := by cases r with | lst s r => exact ⟨_, _, rfl, s, r⟩
theorem Rep.t' {K : W.Frag} {F : Hp} {x : V} {ds : List D} (r : Rep K F x (.tup ds)) : ∃ a xs, x = .ref a /\ SqT K F a xs /\ Reps K F xs ds := by cases r with | tup s r => exact ⟨_, _, rfl, s, r⟩
end
section
abbrev ME := Ro -> Option D
abbrev ML := Ro -> Option (List D)
abbrev MB := Ro -> Option Bool
def TD (K : W.Frag) (m : ME) : TE := fun σ H Q => ∃ F0 H0 F ρ d, Rl K F0 H0 F H σ ρ /\ m ρ = some d /\ ∀ v F' H', Ext F H F' H' -> Rep K F' v d -> Q v H'
def TF (K : W.Frag) (m : ML) : TE := fun σ H Q => ∃ F0 H0 F ρ ds, Rl K F0 H0 F H σ ρ /\ m ρ = some ds /\ ∀ p xs F' H', Ext F H F' H' -> H p = none -> F' p = none -> H' p = some (.lst xs) -> Reps K F' xs ds -> Q (.ref p) H'
def TB (K : W.Frag) (m : ML) : TE := fun σ H Q => ∃ F0 H0 F ρ ds, Rl K F0 H0 F H σ ρ /\ m ρ = some ds /\ ∀ p xs F' H', Ext F H F' H' -> SqL K H' p xs -> Reps K F' xs ds -> Q (.ref p) H'
def TC (K : W.Frag) (c : MB) : TT := fun σ H Q => ∃ F0 H0 F ρ b, Rl K F0 H0 F H σ ρ /\ c ρ = some b /\ ∀ F' H', Ext F H F' H' -> Q b H'
def TAs (K : W.Frag) (m : ML) : TA := fun σ H Q => ∃ F0 H0 F ρ ds, Rl K F0 H0 F H σ ρ /\ m ρ = some ds /\ ∀ vs F' H', Ext F H F' H' -> Reps K F' vs ds -> Q vs H'
def PD (X : Cx) (e : Expr) (m : ME) : Prop := PE X e (TD X.K m)
def PF (X : Cx) (e : Expr) (m : ML) : Prop := PE X e (TF X.K m)
def PB (X : Cx) (e : Expr) (m : ML) : Prop := PE X e (TB X.K m)
def PC' (X : Cx) (e : Expr) (c : MB) : Prop := PT X e (TC X.K c)
def PCw (X : Cx) (e : Expr) (c : MB) : Prop := PW X e (TC X.K c)
def PAs (X : Cx) (es : List Expr) (m : ML) : Prop := PA X es (TAs X.K m)
section
variable {X : Cx} {a b c e : Expr} {ma mb : ME} {pos : Pos}
theorem PE.imp {t t' : TE} (h : PE X e t) (i : ∀ σ H Q, t' σ H Q -> t σ H Q) : PE X e t' := fun pins s σ H Q I q => h pins s σ H Q I (i σ H Q q)
theorem PT.imp {t t' : TT} (h : PT X e t) (i : ∀ σ H Q, t' σ H Q -> t σ H Q) : PT X e t' := fun pins s σ H Q I q => h pins s σ H Q I (i σ H Q q)
theorem PW.imp {t t' : TT} (h : PW X e t) (i : ∀ σ H Q, t' σ H Q -> t σ H Q) : PW X e t' := fun w pins s σ H Q I q => h w pins s σ H Q I (i σ H Q q)
theorem PA.imp {es : List Expr} {t t' : TA} (h : PA X es t) (i : ∀ σ H Q, t' σ H Q -> t σ H Q) : PA X es t' := fun pos pins s σ H Q I q => h pos pins s σ H Q I (i σ H Q q)
def mvar (i : Nat) : ME := fun ρ => match ρ[i]? with | some (some (.sh d)) => some d | _ => none
def bvar (i : Nat) : ML := fun ρ => match ρ[i]? with | some (some (.sh (.lst ds))) => some ds | some (some (.own ds)) => some ds | some (some (.ob _ ds)) => some ds | _ => none
def mc (d : D) : ME := fun _ => some d
theorem z6 (i : Nat) {x : Str} {pos : Pos} (h : PE X (.Name x pos) (tVar i)) : PD X (.Name x pos) (mvar i) := h.imp fun σ H Q hpat => by
 obtain ⟨F0, H0, F, ρ, d, r, e, q⟩ := hpat
 unfold mvar at e
 split at e
 ·rename_i h'
  cases e
  obtain ⟨v, e1, e2⟩ := r.sh i _ h'
  exact ⟨v, e1, q v F H (.refl r.fh) e2⟩
 ·cases e
theorem x8 (i : Nat) {x : Str} {pos : Pos} (h : PE X (.Name x pos) (tVar i)) : PB X (.Name x pos) (bvar i) := h.imp fun σ H Q hpat => by
 obtain ⟨F0, H0, F, ρ, d, r, e, q⟩ := hpat
 unfold bvar at e
 split at e
 ·rename_i ds h'
  cases e
  obtain ⟨v, e1, e2⟩ := r.sh i _ h'
  cases e2 with
  | lst s rs => exact ⟨_, e1, q _ _ F H (.refl r.fh) (r.fh.seq s) rs⟩
 ·rename_i ds h'
  cases e
  obtain ⟨p, xs, e1, e2, e3, e4, _⟩ := r.own i _ h'
  exact ⟨_, e1, q _ _ F H (.refl r.fh) (SqL.of e3) e4⟩
 ·rename_i p ds h'
  cases e
  obtain ⟨e1, e2, _, xs, e3, e4⟩ := r.ob i p _ h'
  exact ⟨_, e1, q _ _ F H (.refl r.fh) (SqL.of e3) e4⟩
 ·cases e
theorem y7 {i : Int} {j pos} : PD X (.Constant (.int i) j pos) (mc (.int i)) := pe_int.imp fun σ H Q hpat => by
 obtain ⟨F0, H0, F, ρ, d, r, e, q⟩ := hpat
 cases e; exact q _ F H (.refl r.fh) (.int i)
theorem zf1 {b : Bool} {j pos} : PD X (.Constant (.bool b) j pos) (mc (.bl b)) := pe_bl.imp fun σ H Q hpat => by
 obtain ⟨F0, H0, F, ρ, d, r, e, q⟩ := hpat
 cases e; exact q _ F H (.refl r.fh) (.bl b)
theorem zm6 {x : Str} {j pos} : PD X (.Constant (.str x) j pos) (mc (.str x)) := pe_str.imp fun σ H Q hpat => by
 obtain ⟨F0, H0, F, ρ, d, r, e, q⟩ := hpat
 cases e; exact q _ F H (.refl r.fh) (.str x)
def mlst (m : ML) : ME := fun ρ => (m ρ).map .lst
def v7 (m : ME) : ML := fun ρ => match m ρ with | some (.lst ds) => some ds | _ => none
theorem j4 {m : ML} (h : PF X e m) : PD X e (mlst m) := h.imp fun σ H Q hpat => by
 obtain ⟨F0, H0, F, ρ, d, r, e, q⟩ := hpat
 unfold mlst at e
 cases hm : m ρ with
 | none => rw [hm] at e; cases e
 | some ds =>
  rw [hm] at e; cases e
  refine ⟨F0, H0, F, ρ, ds, r, hm, fun p xs F' H' x hp hF hH rs => ?_⟩
  exact q _ (upd F' p (.lst xs)) H' (x.freeze hF hp hH) (.lst (SqL.of y8) (rs.mono ((Same.refl F').put hF)))
theorem T5 (h : PD X e ma) : PB X e (v7 ma) := h.imp fun σ H Q hpat => by
 obtain ⟨F0, H0, F, ρ, d, r, e, q⟩ := hpat
 unfold v7 at e
 split at e
 ·rename_i ds hm
  cases e
  refine ⟨F0, H0, F, ρ, _, r, hm, fun v F' H' x rv => ?_⟩
  cases rv with
  | lst s rs => exact q _ _ F' H' x (x.fh.seq s) rs
 ·cases e
theorem S6 {m : ML} (h : PF X e m) : PB X e m := h.imp fun σ H Q ⟨F0, H0, F, ρ, d, r, e, q⟩ =>
 ⟨F0, H0, F, ρ, d, r, e, fun p xs F' H' x hp hF hH rs => q p xs F' H' x (SqL.of hH) rs⟩
@[irreducible] def m2 (f : D -> D -> Option D) (x y : ME) : ME := fun ρ => (x ρ).bind fun d => (y ρ).bind fun e => f d e
def OpD (K : W.Frag) (r : R2) (f : D -> D -> Option D) : Prop := ∀ (F H : Hp) (x y : V) (d e g : D) (Q : VK), Same F H -> Rep K F x d -> Rep K F y e -> f d e = some g -> (∀ v F' H', Ext F H F' H' -> Rep K F' v g -> Q v H') -> r x y H Q
theorem xq0 {f : D -> D -> Option D} {ρ : Ro} {g : D} (h : m2 f ma mb ρ = some g) : ∃ d e, ma ρ = some d /\ mb ρ = some e /\ f d e = some g := by
 unfold m2 at h
 cases h1 : ma ρ with
 | none => rw [h1] at h; cases h
 | some d =>
  cases h2 : mb ρ with
  | none => rw [h1, h2] at h; cases h
  | some e => rw [h1, h2] at h; exact ⟨d, e, rfl, rfl, h⟩
theorem op_d {r : R2} {f : D -> D -> Option D} (hf : OpD X.K r f) {σ : St} {H : Hp} {Q : VK} (h : TD X.K (m2 f ma mb) σ H Q) : tOp r (TD X.K ma) (TD X.K mb) σ H Q := by
 obtain ⟨F0, H0, F, ρ, g, rl, e, q⟩ := h
 obtain ⟨d, e', h1, h2, h3⟩ := xq0 e
 refine ⟨F0, H0, F, ρ, d, rl, h1, fun x F1 H1 x1 r1 => ⟨F0, H0, F1, ρ, e', rl.go x1, h2, fun y F2 H2 x2 r2 => ?_⟩⟩
 exact hf F2 H2 x y d e' g Q x2.fh (r1.mono x2.ff) r2 h3 fun v F' H' x3 => q v F' H' ((x1.trans x2).trans x3)
theorem yv0 {op : Operator} {r : R2} {f : D -> D -> Option D} (ho : OpR X (binaryOp op) r) (hf : OpD X.K r f) (ha : PD X a ma) (hb : PD X b mb) : PD X (.BinOp a op b pos) (m2 f ma mb) := (yf4 ho ha hb).imp fun _ _ _ h => op_d hf h
theorem xh3 {op : CmpOp} {r : R2} {f : D -> D -> Option D} (ho : OpR X (compareOp op) r) (hf : OpD X.K r f) (ha : PD X a ma) (hb : PD X b mb) (hm : behindInMarks op b = false) : PD X (.Compare a [op] [b] pos) (m2 f ma mb) := (yp4 ho ha hb hm).imp fun _ _ _ h => op_d hf h
def v3 (m : ME) : MB := fun ρ => match m ρ with | some (.bl b) => some b | _ => none
theorem t6 {op : CmpOp} {r : R2} {f : D -> D -> Option D} (ho : OpR X (compareOp op) r) (hf : OpD X.K r f) (ha : PD X a ma) (hb : PD X b mb) (hm : behindInMarks op b = false) : PC' X (.Compare a [op] [b] pos) (v3 (m2 f ma mb)) := (zg4 ho ha hb hm).imp fun σ H Q hpat => by
 obtain ⟨F0, H0, F, ρ, g, rl, e, q⟩ := hpat
 unfold v3 at e
 split at e
 ·rename_i k hk
  cases e
  refine op_d hf ⟨F0, H0, F, ρ, .bl g, rl, hk, fun v F' H' x r => ?_⟩
  cases r
  exact ⟨_, rfl, q F' H' x⟩
 ·cases e
def int2 (g : Int -> Int -> Option D) : D -> D -> Option D
 | .int i, .int j => g i j
 | _, _ => none
theorem yy5 {g : Int -> Int -> Option D} {d e w : D} (h : int2 g d e = some w) : ∃ i j, d = .int i /\ e = .int j /\ g i j = some w := by
 cases d with
 | int i =>
  cases e with
  | int j => exact ⟨i, j, rfl, rfl, h⟩
  | _ => cases h
 | _ => cases h
theorem zy3 {K : W.Frag} {g : Int -> Int -> V} {g' : Int -> Int -> D} (hg : ∀ F i j, Rep K F (g i j) (g' i j)) : OpD K (rI0 g) (int2 fun i j => some (g' i j)) := by
 intro F H x y d e w Q s r1 r2 h q
 obtain ⟨i, j, rfl, rfl, h'⟩ := yy5 h
 clear h
 cases h'
 exact ⟨i, j, r1.i', r2.i', q _ F H (.refl s) (hg F i j)⟩
theorem za8 {K : W.Frag} {C : Int -> Int -> Prop} {ok : Int -> Int -> Bool} {g : Int -> Int -> V} {g' : Int -> Int -> D} (hC : ∀ i j, ok i j = true -> C i j) (hg : ∀ F i j, Rep K F (g i j) (g' i j)) :
  OpD K (rI C g) (int2 fun i j => if ok i j = true then some (g' i j) else none) := by
 intro F H x y d e w Q s r1 r2 h q
 obtain ⟨i, j, rfl, rfl, h'⟩ := yy5 h
 clear h
 by_cases hk : ok i j = true
 ·rw [if_pos hk] at h'
  cases h'
  exact ⟨i, j, r1.i', r2.i', hC i j hk, q _ F H (.refl s) (hg F i j)⟩
 ·rw [if_neg hk] at h'
  cases h'
def subD : D -> D -> Option D := int2 fun i j => some (.int (i - j))
def E8 (i j : Int) : Bool := (decide (-(2 ^ 64) < i) && decide (i < 2 ^ 64)) || (decide (-(2 ^ 64) < j) && decide (j < 2 ^ 64))
def mulD : D -> D -> Option D := int2 fun i j => if E8 i j = true then some (.int (i * j)) else none
def zs2 (_ j : Int) : Bool := decide (0 < j) && decide (j < 1073741824)
def zu1 : D -> D -> Option D := int2 fun i j => if zs2 i j = true then some (.int (i / j)) else none
def zk4 (_ j : Int) : Bool := decide (0 < j)
def modD : D -> D -> Option D := int2 fun i j => if zk4 i j = true then some (.int (i % j)) else none
def yw8 (i j : Int) : Bool := decide (0 <= j) && decide (j <= 1000000) && decide (i.natAbs < 2 ^ 64)
def powD : D -> D -> Option D := int2 fun i j => if yw8 i j = true then some (.int (i ^ j.toNat)) else none
def ltD : D -> D -> Option D := int2 fun i j => some (.bl (decide (i < j)))
def leD : D -> D -> Option D := int2 fun i j => some (.bl (decide (i <= j)))
def gtD : D -> D -> Option D := int2 fun i j => some (.bl (decide (j < i)))
def geD : D -> D -> Option D := int2 fun i j => some (.bl (decide (j <= i)))
theorem zr8 {K : W.Frag} : OpD K (rI0 fun i j => .int (i - j)) subD := zy3 fun F i j => .int _
theorem yp8 {K : W.Frag} : OpD K (rI CMul fun i j => .int (i * j)) mulD := za8 (fun i j h => by
 unfold E8 at h
 simp only [Bool.or_eq_true, Bool.and_eq_true, decide_eq_true_eq] at h
 exact h) fun F i j => .int _
theorem ye2 {K : W.Frag} : OpD K (rI CDiv fun i j => .int (i / j)) zu1 := za8 (fun i j h => by
 unfold zs2 at h
 simp only [Bool.and_eq_true, decide_eq_true_eq] at h
 exact h) fun F i j => .int _
theorem xs7 {K : W.Frag} : OpD K (rI (fun _ j => 0 < j) fun i j => .int (i % j)) modD := za8 (fun i j h => of_decide_eq_true h) fun F i j => .int _
theorem xs5 {K : W.Frag} : OpD K (rI CPow fun i j => .int (i ^ j.toNat)) powD := za8 (fun i j h => by
 unfold yw8 at h
 simp only [Bool.and_eq_true, decide_eq_true_eq] at h
 exact ⟨h.1.1, h.1.2, h.2⟩) fun F i j => .int _
theorem zy4 {K : W.Frag} : OpD K (rI0 fun i j => .bl (decide (i < j))) ltD := zy3 fun F i j => .bl _
theorem xh5 {K : W.Frag} : OpD K (rI0 fun i j => .bl (decide (i <= j))) leD := zy3 fun F i j => .bl _
theorem xz8 {K : W.Frag} : OpD K (rI0 fun i j => .bl (decide (j < i))) gtD := zy3 fun F i j => .bl _
theorem J4 {K : W.Frag} : OpD K (rI0 fun i j => .bl (decide (j <= i))) geD := zy3 fun F i j => .bl _
def eqS : D -> D -> Option Bool
 | .non, .non => some true | .non, .int _ => some false | .int _, .non => some false | .non, .bl _ => some false | .bl _, .non => some false | .non, .str _ => some false | .str _, .non => some false
 | .int i, .int j => some (i == j) | .bl i, .bl j => some (i == j) | .str i, .str j => some (i == j)
 | .int _, .str _ => some false | .str _, .int _ => some false | .bl _, .str _ => some false | .str _, .bl _ => some false
 | _, _ => none
def eqSD (d e : D) : Option D := (eqS d e).map .bl
def neSD (d e : D) : Option D := (eqS d e).map fun b => .bl (!b)
def scV : D -> V
 | .bl b => .bl b | .int i => .int i | .str x => .str x | _ => .non
theorem yk9 {d e : D} {k : Bool} (h : eqS d e = some k) : scal (scV d) (scV e) = true /\ decide (scV d = scV e) = k := by
 cases d with
 | non => cases e <;> cases h <;> exact ⟨rfl, rfl⟩
 | bl i =>
  cases e <;> cases h
  ·exact ⟨rfl, rfl⟩
  ·exact ⟨rfl, yj2⟩
  ·exact ⟨rfl, rfl⟩
 | int i =>
  cases e <;> cases h
  ·exact ⟨rfl, rfl⟩
  ·exact ⟨rfl, zd7⟩
  ·exact ⟨rfl, rfl⟩
 | str i =>
  cases e <;> cases h
  ·exact ⟨rfl, rfl⟩
  ·exact ⟨rfl, rfl⟩
  ·exact ⟨rfl, rfl⟩
  ·exact ⟨rfl, zd6⟩
 | _ => cases h
theorem yt0 {d e : D} {k : Bool} (h : eqS d e = some k) {K : W.Frag} {F : Hp} {x : V} (r : Rep K F x d) : x = scV d := by
 cases d with
 | non => exact r.n'
 | bl i => exact r.b'
 | int i => exact r.i'
 | str i => exact r.s'
 | _ => cases h
theorem zd4 (d e : D) (k : Bool) (h : eqS d e = some k) : ∃ k', eqS e d = some k' := by
 cases d with
 | non => cases e <;> cases h <;> exact ⟨_, rfl⟩
 | bl i => cases e <;> cases h <;> exact ⟨_, rfl⟩
 | int i => cases e <;> cases h <;> exact ⟨_, rfl⟩
 | str i => cases e <;> cases h <;> exact ⟨_, rfl⟩
 | _ => cases h
theorem Z8 {K : W.Frag} : OpD K rEq eqSD := by
 intro F H x y d e w Q s r1 r2 h q
 unfold eqSD at h
 cases hk : eqS d e with
 | none => rw [hk] at h; cases h
 | some k =>
  rw [hk] at h
  cases h
  obtain ⟨k', hk'⟩ := zd4 d e k hk
  obtain ⟨h1, h2⟩ := yk9 hk
  rw [yt0 hk r1, yt0 hk' r2]
  refine ⟨h1, ?_⟩
  rw [h2]
  exact q _ F H (.refl s) (.bl _)
theorem xs6 {K : W.Frag} : OpD K rNe neSD := by
 intro F H x y d e w Q s r1 r2 h q
 unfold neSD at h
 cases hk : eqS d e with
 | none => rw [hk] at h; cases h
 | some k =>
  rw [hk] at h
  cases h
  obtain ⟨k', hk'⟩ := zd4 d e k hk
  obtain ⟨h1, h2⟩ := yk9 hk
  rw [yt0 hk r1, yt0 hk' r2]
  refine ⟨h1, ?_⟩
  rw [h2]
  exact q _ F H (.refl s) (.bl _)
def m1 (f : D -> Option D) (x : ME) : ME := fun ρ => (x ρ).bind f
def negD : D -> Option D
 | .int i => some (.int (-i))
 | _ => none
theorem ym2 {f : D -> Option D} {ρ : Ro} {g : D} (h : m1 f ma ρ = some g) : ∃ d, ma ρ = some d /\ f d = some g := by
 unfold m1 at h
 cases h1 : ma ρ with
 | none => rw [h1] at h; cases h
 | some d => rw [h1] at h; exact ⟨d, rfl, h⟩
theorem J3 (ha : PD X a ma) : PD X (.UnaryOp .USub a pos) (m1 negD ma) := (wz8 xm6 ha).imp fun σ H Q hpat => by
 obtain ⟨F0, H0, F, ρ, g, rl, e, q⟩ := hpat
 obtain ⟨d, h1, h2⟩ := ym2 e
 refine ⟨F0, H0, F, ρ, d, rl, h1, fun x F1 H1 x1 r1 => ?_⟩
 cases r1 <;> first | (cases h2; done) | skip
 cases h2
 exact ⟨_, rfl, q _ F1 H1 x1 (.int _)⟩
def mand (x y : ME) : ME := fun ρ => match x ρ with | some (.bl true) => y ρ | some (.bl false) => some (.bl false) | _ => none
theorem xh0 {op} (h : PD X a ma) : PD X (.BoolOp op [a] pos) ma := xi7 h
theorem xh4 {rest : List Expr} (ha : PD X a ma) (hb : PD X (.BoolOp .And (b :: rest) pos) mb) : PD X (.BoolOp .And (a :: b :: rest) pos) (mand ma mb) := (xi8 ha hb).imp fun σ H Q hpat => by
 obtain ⟨F0, H0, F, ρ, g, rl, e, q⟩ := hpat
 unfold mand at e
 split at e
 ·rename_i h1
  refine ⟨F0, H0, F, ρ, _, rl, h1, fun x F1 H1 x1 r1 => ?_⟩
  cases r1
  refine ⟨true, rfl, ?_⟩
  refine iteT ?_
  exact ⟨F0, H0, F1, ρ, g, rl.go x1, e, fun y F2 H2 x2 r2 => q y F2 H2 (x1.trans x2) r2⟩
 ·rename_i h1
  cases e
  refine ⟨F0, H0, F, ρ, _, rl, h1, fun x F1 H1 x1 r1 => ?_⟩
  cases r1
  refine ⟨false, rfl, ?_⟩
  refine iteF ?_
  exact q _ F1 H1 x1 (.bl _)
 ·cases e
def truD : D -> Option Bool
 | .non => some false
 | .bl b => some b
 | .int i => some (i != 0)
 | .str y => if y.length <= sizeLine then some ((y.length : Int) != 0) else none
 | .lst ds => some (!ds.isEmpty)
 | .tup ds => some (!ds.isEmpty)
 | .exc _ => none
 | .ptr _ => none
 | .obj _ _ _ => none
def mtru (m : ME) : MB := fun ρ => (m ρ).bind truD
theorem D6 {K : W.Frag} {F : Hp} {vs : List V} {ds : List D} (h : Reps K F vs ds) : (!ds.isEmpty) = !vs.isEmpty := by cases h <;> rfl
theorem za6 (ha : PD X a ma) (he : ∀ whole, isTrue a X.env whole = (do let v ← whole; standAt a.pos; holding [v] (truthy v)) := by intro _; rfl) : PC' X a (mtru ma) := (zb9 ha he).imp fun σ H Q hpat => by
 obtain ⟨F0, H0, F, ρ, b, rl, e, q⟩ := hpat
 unfold mtru at e
 cases h1 : ma ρ with
 | none => rw [h1] at e; cases e
 | some d =>
  rw [h1] at e
  refine ⟨F0, H0, F, ρ, d, rl, h1, fun x F1 H1 x1 r1 => ⟨b, ?_, q F1 H1 x1⟩⟩
  cases r1 with
  | non => cases e; rfl
  | bl => cases e; rfl
  | int => cases e; rfl
  | str x =>
   have e : (if x.length <= sizeLine then some ((x.length : Int) != 0) else none) = some b := e
   split at e
   ·rename_i hz
    cases e
    exact ⟨hz, rfl⟩
   ·cases e
  | lst s rs => cases e; exact .inl ⟨_, x1.fh.seq s, D6 rs⟩
  | tup s rs => cases e; exact .inr (.inl ⟨_, x1.fh.seqT s, D6 rs⟩)
  | exc => cases e
  | ptr => cases e
  | obj => cases e
variable {ca cb : MB}
def cand (x y : MB) : MB := fun ρ => match x ρ with | some true => y ρ | some false => some false | none => none
def cor (x y : MB) : MB := fun ρ => match x ρ with | some true => some true | some false => y ρ | none => none
def cnot (x : MB) : MB := fun ρ => (x ρ).map (!·)
theorem pc_w (h : PCw X a ca) : PC' X a ca := h.pt
theorem yr9 (h : PC' X a ca) : PCw X (.BoolOp .And [a] pos) ca := yr8 h
theorem zt1 (h : PC' X a ca) : PCw X (.BoolOp .Or [a] pos) ca := xj9 h
theorem yp5 {rest : List Expr} (ha : PC' X a ca) (hb : PCw X (.BoolOp .And (b :: rest) pos) cb) : PCw X (.BoolOp .And (a :: b :: rest) pos) (cand ca cb) := (ya9 ha hb).imp fun σ H Q hpat => by
 obtain ⟨F0, H0, F, ρ, g, rl, e, q⟩ := hpat
 unfold cand at e
 split at e
 ·rename_i h1
  refine ⟨F0, H0, F, ρ, _, rl, h1, fun F1 H1 x1 => ?_⟩
  refine iteT ?_
  exact ⟨F0, H0, F1, ρ, g, rl.go x1, e, fun F2 H2 x2 => q F2 H2 (x1.trans x2)⟩
 ·rename_i h1
  cases e
  refine ⟨F0, H0, F, ρ, _, rl, h1, fun F1 H1 x1 => ?_⟩
  refine iteF ?_
  exact q F1 H1 x1
 ·cases e
theorem zy2 {rest : List Expr} (ha : PC' X a ca) (hb : PCw X (.BoolOp .Or (b :: rest) pos) cb) : PCw X (.BoolOp .Or (a :: b :: rest) pos) (cor ca cb) := (wz6 ha hb).imp fun σ H Q hpat => by
 obtain ⟨F0, H0, F, ρ, g, rl, e, q⟩ := hpat
 unfold cor at e
 split at e
 ·rename_i h1
  cases e
  refine ⟨F0, H0, F, ρ, _, rl, h1, fun F1 H1 x1 => ?_⟩
  refine iteT ?_
  exact q F1 H1 x1
 ·rename_i h1
  refine ⟨F0, H0, F, ρ, _, rl, h1, fun F1 H1 x1 => ?_⟩
  refine iteF ?_
  exact ⟨F0, H0, F1, ρ, g, rl.go x1, e, fun F2 H2 x2 => q F2 H2 (x1.trans x2)⟩
 ·cases e
theorem yp6 (ha : PC' X a ca) : PC' X (.UnaryOp .Not a pos) (cnot ca) := (xz3 ha).imp fun σ H Q hpat => by
 obtain ⟨F0, H0, F, ρ, g, rl, e, q⟩ := hpat
 unfold cnot at e
 cases h1 : ca ρ with
 | none => rw [h1] at e; cases e
 | some k =>
  rw [h1] at e; cases e
  exact ⟨F0, H0, F, ρ, k, rl, h1, fun F1 H1 x1 => q F1 H1 x1⟩
def mite (c : MB) (x y : ME) : ME := fun ρ => match c ρ with | some true => x ρ | some false => y ρ | none => none
theorem xz7 (hc : PC' X c ca) (ha : PD X a ma) (hb : PD X b mb) : PD X (.IfExp c a b pos) (mite ca ma mb) := (yf7 hc ha hb).imp fun σ H Q hpat => by
 obtain ⟨F0, H0, F, ρ, g, rl, e, q⟩ := hpat
 unfold mite at e
 split at e
 ·rename_i h1
  refine ⟨F0, H0, F, ρ, _, rl, h1, fun F1 H1 x1 => ?_⟩
  refine iteT ?_
  exact ⟨F0, H0, F1, ρ, g, rl.go x1, e, fun v F2 H2 x2 => q v F2 H2 (x1.trans x2)⟩
 ·rename_i h1
  refine ⟨F0, H0, F, ρ, _, rl, h1, fun F1 H1 x1 => ?_⟩
  refine iteF ?_
  exact ⟨F0, H0, F1, ρ, g, rl.go x1, e, fun v F2 H2 x2 => q v F2 H2 (x1.trans x2)⟩
 ·cases e
def anil : ML := fun _ => some []
@[irreducible] def z8 (x : ME) (r : ML) : ML := fun ρ => (x ρ).bind fun d => (r ρ).bind fun ds => some (d :: ds)
theorem zs7 {r : ML} {ρ : Ro} {gs : List D} (h : z8 ma r ρ = some gs) : ∃ d ds, ma ρ = some d /\ r ρ = some ds /\ gs = d :: ds := by
 unfold z8 at h
 cases h1 : ma ρ with
 | none => rw [h1] at h; cases h
 | some d =>
  cases h2 : r ρ with
  | none => rw [h1, h2] at h; cases h
  | some ds => rw [h1, h2] at h; cases h; exact ⟨d, ds, rfl, rfl, rfl⟩
theorem z9 : PAs X [] anil := pa_nil.imp fun σ H Q hpat => by
 obtain ⟨F0, H0, F, ρ, g, rl, e, q⟩ := hpat
 cases e; exact q [] F H (.refl rl.fh) .nil
theorem z5 {es : List Expr} {m : ML} (ha : PD X a ma) (hr : PAs X es m) (hs : starEach (a :: es) X.env = (false, eval a X.env) :: starEach es X.env := by rfl) : PAs X (a :: es) (z8 ma m) := (f7 ha hr hs).imp fun σ H Q hpat => by
 obtain ⟨F0, H0, F, ρ, g, rl, e, q⟩ := hpat
 obtain ⟨d, ds, h1, h2, rfl⟩ := zs7 e
 refine ⟨F0, H0, F, ρ, d, rl, h1, fun x F1 H1 x1 r1 => ⟨F0, H0, F1, ρ, ds, rl.go x1, h2, fun xs F2 H2 x2 r2 => ?_⟩⟩
 exact q _ F2 H2 (x1.trans x2) (.cons (r1.mono x2.ff) r2)
@[irreducible] def t3 (m : ML) : ML := fun ρ => match m ρ with | some ds => if ds.length <= sizeLine then some ds else none | none => none
theorem zu8 {m : ML} {ρ : Ro} {gs : List D} (h : t3 m ρ = some gs) : m ρ = some gs /\ gs.length <= sizeLine := by
 unfold t3 at h
 cases h1 : m ρ with
 | none => rw [h1] at h; cases h
 | some ds =>
  rw [h1] at h
  have h : (if ds.length <= sizeLine then some ds else none) = some gs := h
  split at h
  ·rename_i hz; cases h; exact ⟨rfl, hz⟩
  ·cases h
theorem m8 {es : List Expr} {m : ML} (h : PAs X es m) : PF X (.List es pos) (t3 m) := (yp3 h).imp fun σ H Q hpat => by
 obtain ⟨F0, H0, F, ρ, g, rl, e, q⟩ := hpat
 obtain ⟨h1, h2⟩ := zu8 e
 refine ⟨F0, H0, F, ρ, g, rl, h1, fun vs F1 H1 x1 r1 => ⟨by rw [r1.length]; exact h2, fun p hp => ?_⟩⟩
 exact q p vs F1 _ (x1.trans (Ext.own x1.fh hp)) (x1.hh.free hp) (x1.fh.free hp) y8 r1
def mtup (m : ML) : ME := fun ρ => (t3 m ρ).map .tup
theorem W5 {es : List Expr} {m : ML} {k : Nat} (h : PAs X es m) : PD X (.Tuple es k pos) (mtup m) := (xi6 h).imp fun σ H Q hpat => by
 obtain ⟨F0, H0, F, ρ, g, rl, e, q⟩ := hpat
 unfold mtup at e
 cases h1 : t3 m ρ with
 | none => rw [h1] at e; cases e
 | some ds =>
  rw [h1] at e; cases e
  obtain ⟨h1, h2⟩ := zu8 h1
  refine ⟨F0, H0, F, ρ, ds, rl, h1, fun vs F1 H1 x1 r1 => ⟨by rw [r1.length]; exact h2, fun p hp => ?_⟩⟩
  exact q _ _ _ (x1.trans (Ext.laid x1.fh hp)) (.tup (SqT.of y8) (r1.mono ((Same.refl F1).put (x1.fh.free hp))))
def mlen (m : ML) : ME := fun ρ => (m ρ).map fun ds => .int ds.length
@[irreducible] def mix (m : ML) (i : ME) : ME := fun ρ => (m ρ).bind fun ds => (i ρ).bind fun | .int k => atI ds k | _ => none
theorem zp8 {K : W.Frag} {F : Hp} {vs : List V} {ds : List D} {k : Int} {d : D} (r : Reps K F vs ds) (h : atI ds k = some d) : ∃ v, atI vs k = some v /\ Rep K F v d := by
 unfold atI at h ⊢
 rw [r.length]
 cases q : ixN ds.length k with
 | none => rw [q] at h; cases h
 | some j =>
  rw [q] at h
  exact r.get h
theorem i6 {ml : ML} (ha : PB X a ml) (hb : PD X b mb) (hs : zv2 b := by exact fun _ _ => rfl) : PD X (.Subscript a b pos) (mix ml mb) := (yf6 ym7 ha hb hs).imp fun σ H Q hpat => by
 obtain ⟨F0, H0, F, ρ, g, rl, e, q⟩ := hpat
 unfold mix at e
 cases h1 : ml ρ with
 | none => rw [h1] at e; cases e
 | some ds =>
  cases h2 : mb ρ with
  | none => rw [h1, h2] at e; cases e
  | some i =>
   rw [h1, h2] at e
   refine ⟨F0, H0, F, ρ, ds, rl, h1, fun p xs F1 H1 x1 s1 r1 => ⟨F0, H0, F1, ρ, i, rl.go x1, h2, fun y F2 H2 x2 r2 => ?_⟩⟩
   cases r2 <;> first | (cases e; done) | skip
   rename_i k
   obtain ⟨v, h3, h4⟩ := zp8 (r1.mono x2.ff) (show atI ds k = some g from e)
   exact ⟨p, xs, k, v, rfl, rfl, x2.hh.seq s1, h3, q v F2 H2 (x1.trans x2) h4⟩
theorem yc9 {K : W.Frag} {F : Hp} {vs : List V} {ds : List D} (r : Reps K F vs ds) (lo hi : Option Int) : Reps K F (cutV vs lo hi) ((ds.drop (HT.sIx ds.length 0 lo)).take (HT.sIx ds.length ds.length hi - HT.sIx ds.length 0 lo)) := by
 unfold cutV
 rw [r.length]
 exact (r.drop _).take _
def cutL (ds : List D) (lo hi : Option Int) : List D := (ds.drop (HT.sIx ds.length 0 lo)).take (HT.sIx ds.length ds.length hi - HT.sIx ds.length 0 lo)
abbrev MO := Ro -> Option (Option Int)
def g8 : MO := fun _ => some none
def i7 (m : ME) : MO := fun ρ => (m ρ).bind fun | .int i => some (some i) | _ => none
def TOs (K : W.Frag) (m : MO) : TO := fun σ H Q => ∃ F0 H0 F ρ i, Rl K F0 H0 F H σ ρ /\ m ρ = some i /\ ∀ F' H', Ext F H F' H' -> Q i H'
def POs (X : Cx) (e : Option Expr) (m : MO) : Prop := PO X e (TOs X.K m)
theorem PO.imp {e : Option Expr} {t t' : TO} (h : PO X e t) (i : ∀ σ H Q, t' σ H Q -> t σ H Q) : PO X e t' := fun pins s σ H Q I q => h pins s σ H Q I (i σ H Q q)
theorem p7 : POs X none g8 := PO.imp xt0 fun σ H Q hpat => by obtain ⟨F0, H0, F, ρ, i, rl, e, q⟩ := hpat; cases e; exact q F H (.refl rl.fh)
theorem p6 (h : PD X a ma) : POs X (some a) (i7 ma) := PO.imp (xu9 h) fun σ H Q hpat => by
 obtain ⟨F0, H0, F, ρ, i, rl, e, q⟩ := hpat
 unfold i7 at e
 cases h1 : ma ρ with
 | none => rw [h1] at e; cases e
 | some d =>
  rw [h1] at e
  refine ⟨F0, H0, F, ρ, d, rl, h1, fun v F1 H1 x1 r1 => ?_⟩
  cases r1 <;> first | (cases e; done) | skip
  cases e
  exact ⟨_, rfl, q F1 H1 x1⟩
@[irreducible] def mcut (m : ML) (lo hi : MO) : ML := fun ρ => (m ρ).bind fun ds => (lo ρ).bind fun l => (hi ρ).bind fun h => some (cutL ds l h)
theorem xi4 {ml : ML} {lo hi : Option Expr} {l h : MO} (ha : PB X a ml) (hl : POs X lo l) (hh : POs X hi h) (hE : PE X e (tSl (rSlL X.K) (TB X.K ml) (TOs X.K l) (TOs X.K h))) : PF X e (mcut ml l h) := hE.imp fun σ H Q hpat => by
 obtain ⟨F0, H0, F, ρ, g, rl, e, q⟩ := hpat
 unfold mcut at e
 cases h1 : ml ρ with
 | none => rw [h1] at e; cases e
 | some ds =>
  cases h2 : l ρ with
  | none => rw [h1, h2] at e; cases e
  | some i =>
   cases h3 : h ρ with
   | none => rw [h1, h2, h3] at e; cases e
   | some j =>
    rw [h1, h2, h3] at e; cases e
    refine ⟨F0, H0, F, ρ, ds, rl, h1, fun p xs F1 H1 x1 s1 r1 => ⟨F0, H0, F1, ρ, i, rl.go x1, h2, fun F2 H2 x2 => ⟨F0, H0, F2, ρ, j, (rl.go x1).go x2, h3, fun F3 H3 x3 => ?_⟩⟩⟩
    refine ⟨p, xs, rfl, x3.hh.seq (x2.hh.seq s1), fun w hw => ?_⟩
    have xx := (x1.trans x2).trans x3
    exact q w _ F3 _ (xx.trans (Ext.own x3.fh hw)) (xx.hh.free hw) (x3.fh.free hw) y8 (yc9 (r1.mono (x2.ff.trans x3.ff)) i j)
end
end
section
theorem zj1 (l : Addr) (items : Array Value) (n : Nat) (b : Addr) (items2 : Array Value) (n2 : Nat) (dd dd2 : Option Addr) (sl sl2 : Array (Option Value)) (hc0 : items.size + items2.size <= sizeLine) :
  Meets (Builtin.«list.__add__» ⟨[.ref l, .ref b], []⟩) (fun _ R s => s.heap.get? l = some { cls := .type "list", dict := dd, data := .seq items n, slots := sl } /\ s.heap.get? b = some { cls := .type "list", dict := dd2, data := .seq items2 n2, slots := sl2 } /\ R (.ok (.ret (Value.ref s.heap.objs.size))) { s with heap := s.heap.push { cls := Value.type "list", data := Data.seq (items ++ items2) }, toks := s.toks }) :=
 .of_wp fun prog w A R s h => by obtain ⟨hp, g, d, tk, os⟩ := s; obtain ⟨hl, hb, h⟩ := h; have f1 := AutoSeq1.idx_int; have f2 := AutoSeq1.sub_tuple_tuple; have f3 := AutoSeq1.sub_list_list; have f4 := AutoSeq1.sub_tuple_list; have f5 := AutoSeq1.sub_list_tuple; wp_walk using AutoSeq1.wpAny_loadPart' hl, AutoSeq1.wpAny_loadPart' hb; exact ⟨_, rfl, h⟩
section
variable {X : Cx} {a b c e : Expr} {ma mb : ME} {pos : Pos}
def xj8 (K : W.Frag) : R2 := fun x y H Q => ∃ l b xs zs, x = .ref l /\ y = .ref b /\ SqL K H l xs /\ SqL K H b zs /\ xs.length + zs.length <= sizeLine /\ ∀ p, H p = none -> Q (.ref p) (upd H p (.lst (xs ++ zs)))
theorem Q8 : OpR X (binaryOp .Add) (xj8 X.K) := by
 intro pins s σ H x y v u Q I rx ry h
 obtain ⟨l, b, xs, zs, rfl, rfl, hH, hB, hz, q⟩ := h
 cases rx
 cases ry
 obtain ⟨its, r, ⟨⟨cl, dd, dt, sl⟩, n, e, hc, hd, hs⟩, z⟩ := I.list hH
 obtain ⟨its2, r2, ⟨⟨cl2, dd2, dt2, sl2⟩, n2, e2, hc2, hd2, hs2⟩, z2⟩ := I.list hB
 simp only at hc hd hs hc2 hd2 hs2
 subst hc hd hs hc2 hd2 hs2
 have l1 := r.length
 have l2 := r2.length
 refine concat_meets (T := "list") ⟨_, e, rfl⟩ ⟨_, e2, rfl⟩ PySem.noFill_list_add PySem.seq_list_add F.slot_list_add F.entry_list_add (F.args_list_add_2 _ _) (zj1 l its.toArray n b its2.toArray n2 none none sl sl2 (by rw [size_toArray, size_toArray]; omega)) ⟨e, e2, ?_⟩
 have ea : its.toArray ++ its2.toArray = (its ++ its2).toArray := by simp
 rw [ea]
 exact ⟨.ref _, _, I.lnew (t' := s.toks) (r.append r2) (by rw [length_append]; omega), rfl, q _ I.fresh⟩
@[irreducible] def mcat (x y : ML) : ML := fun ρ => (x ρ).bind fun ds => (y ρ).bind fun es => if ds.length + es.length <= sizeLine then some (ds ++ es) else none
theorem yn5 {x y : ML} {ρ : Ro} {gs : List D} (h : mcat x y ρ = some gs) : ∃ ds es, x ρ = some ds /\ y ρ = some es /\ ds.length + es.length <= sizeLine /\ gs = ds ++ es := by
 unfold mcat at h
 cases h1 : x ρ with
 | none => rw [h1] at h; cases h
 | some ds =>
  cases h2 : y ρ with
  | none => rw [h1, h2] at h; cases h
  | some es =>
   rw [h1, h2] at h
   have h : (if ds.length + es.length <= sizeLine then some (ds ++ es) else none) = some gs := h
   split at h
   ·rename_i hz; cases h; exact ⟨ds, es, rfl, rfl, hz, rfl⟩
   ·cases h
theorem Q7 {x y : ML} (ha : PB X a x) (hb : PB X b y) : PF X (.BinOp a .Add b pos) (mcat x y) := (yf4 Q8 ha hb).imp fun σ H Q hpat => by
 obtain ⟨F0, H0, F, ρ, g, rl, e, q⟩ := hpat
 obtain ⟨ds, es, h1, h2, hz, rfl⟩ := yn5 e
 refine ⟨F0, H0, F, ρ, ds, rl, h1, fun p xs F1 H1 x1 s1 r1 => ⟨F0, H0, F1, ρ, es, rl.go x1, h2, fun p2 ys F2 H2 x2 s2 r2 => ?_⟩⟩
 refine ⟨p, p2, xs, ys, rfl, rfl, x2.hh.seq s1, s2, by rw [r1.length, r2.length]; exact hz, fun w hw => ?_⟩
 have xx := x1.trans x2
 exact q w _ F2 _ (xx.trans (Ext.own x2.fh hw)) (xx.hh.free hw) (x2.fh.free hw) y8 ((r1.mono x2.ff).append r2)
def addD : D -> D -> Option D
 | .int i, .int j => some (.int (i + j))
 | .lst ds, .lst es => if ds.length + es.length <= sizeLine then some (.lst (ds ++ es)) else none
 | _, _ => none
theorem M8 {K : W.Frag} : OpD K (fun x y H Q => (rI0 fun i j => V.int (i + j)) x y H Q \/ xj8 K x y H Q) addD := by
 intro F H x y d e w Q s r1 r2 h q
 cases d with
 | int i =>
  cases e with
  | int j =>
   cases h
   exact .inl ⟨_, _, r1.i', r2.i', q _ F H (.refl s) (.int _)⟩
  | _ => cases h
 | lst ds1 =>
  cases e with
  | lst ds2 =>
   obtain ⟨p1, xs1, e1, s1, t1⟩ := r1.l'
   obtain ⟨p2, xs2, e2, s2, t2⟩ := r2.l'
   have h : (if ds1.length + ds2.length <= sizeLine then some (D.lst (ds1 ++ ds2)) else none) = some w := h
   by_cases hz : ds1.length + ds2.length <= sizeLine
   ·rw [if_pos hz] at h
    cases h
    refine .inr ⟨_, _, _, _, e1, e2, s.seq s1, s.seq s2, by rw [t1.length, t2.length]; exact hz, fun p hp => ?_⟩
    exact q _ _ _ (Ext.laid s hp) (.lst (SqL.of y8) ((t1.append t2).mono ((Same.refl F).put (s.free hp))))
   ·rw [if_neg hz] at h; cases h
  | _ => cases h
 | _ => cases h
theorem l9 (ha : PD X a ma) (hb : PD X b mb) : PD X (.BinOp a .Add b pos) (m2 addD ma mb) := yv0 (OpR.or zy6 Q8) M8 ha hb
theorem J2 (ha : PD X a ma) (hb : PD X b mb) : PD X (.BinOp a .Sub b pos) (m2 subD ma mb) := yv0 za9 zr8 ha hb
theorem zm7 (ha : PD X a ma) (hb : PD X b mb) : PD X (.BinOp a .Mult b pos) (m2 mulD ma mb) := yv0 xz9 yp8 ha hb
theorem zf0 (ha : PD X a ma) (hb : PD X b mb) : PD X (.BinOp a .FloorDiv b pos) (m2 zu1 ma mb) := yv0 xr0 ye2 ha hb
theorem zy1 (ha : PD X a ma) (hb : PD X b mb) : PD X (.BinOp a .Mod b pos) (m2 modD ma mb) := yv0 xh8 xs7 ha hb
theorem za5 (ha : PD X a ma) (hb : PD X b mb) : PD X (.BinOp a .Pow b pos) (m2 powD ma mb) := yv0 xh7 xs5 ha hb
@[irreducible] def D1 (f : List D -> Option D) (m : ML) : ME := fun ρ => (m ρ).bind f
def xa1 (K : W.Frag) (r : List V -> Hp -> VK -> Prop) (f : List D -> Option D) : Prop := ∀ (F H : Hp) (vs : List V) (ds : List D) (g : D) (Q : VK), Same F H -> Reps K F vs ds -> f ds = some g -> (∀ v F' H', Ext F H F' H' -> Rep K F' v g -> Q v H') -> r vs H Q
theorem xy8 {r : List V -> Hp -> VK -> Prop} {f : List D -> Option D} {m : ML} (hf : xa1 X.K r f) {σ : St} {H : Hp} {Q : VK} (h : TD X.K (D1 f m) σ H Q) : tCB r (TAs X.K m) σ H Q := by
 obtain ⟨F0, H0, F, ρ, g, rl, e, q⟩ := h
 unfold D1 at e
 cases h1 : m ρ with
 | none => rw [h1] at e; cases e
 | some ds =>
  rw [h1] at e
  exact ⟨F0, H0, F, ρ, ds, rl, h1, fun vs F1 H1 x1 r1 => hf F1 H1 vs ds g Q x1.fh r1 e fun v F' H' x2 => q v F' H' (x1.trans x2)⟩
theorem v4 {e : Expr} {p : Pos} {m : ML} (hg : Gl X "len") (hm : X.mg "len" = none) (ha : PB X e m) (hs : starEach (e :: []) X.env = (false, eval e X.env) :: starEach [] X.env := by rfl) (he : starEach [e] X.env = (false, eval e X.env) :: starEach [] X.env := by rfl) (hpl : (backTo pos (starEach [] X.env)).any (·.1) = false := by rfl) : PD X (.Call (.Name "len" p) [e] [] pos) (mlen m) :=
 (O6 zi7 hg hm PySem.boot_len (f7 ha pa_nil hs) (by decide) (by decide) he hpl).imp fun σ H Q hpat => by
  obtain ⟨F0, H0, F, ρ, g, rl, e, q⟩ := hpat
  unfold mlen at e
  cases h1 : m ρ with
  | none => rw [h1] at e; cases e
  | some ds =>
   rw [h1] at e; cases e
   refine ⟨F0, H0, F, ρ, ds, rl, h1, fun p xs F1 H1 x1 s1 r1 => ⟨p, xs, rfl, .inl s1, ?_⟩⟩
   rw [r1.length]
   exact q _ F1 H1 x1 (.int _)
def two2 (k : Int -> Int -> Int) : List D -> Option D
 | [.int i, .int j] => some (.int (k i j))
 | _ => none
theorem yh4 {k : Int -> Int -> Int} {ds : List D} {g : D} (h : two2 k ds = some g) : ∃ i j, ds = [.int i, .int j] /\ g = .int (k i j) := by
 cases ds with
 | nil => cases h
 | cons d ds =>
  cases ds with
  | nil => cases d <;> cases h
  | cons e ds =>
   cases ds with
   | cons f ds => cases d <;> first | (cases h; done) | (cases e <;> cases h)
   | nil =>
    cases d with
    | int i =>
     cases e with
     | int j => cases h; exact ⟨i, j, rfl, rfl⟩
     | _ => cases h
    | _ => cases h
theorem zi5 {K : W.Frag} {k : Int -> Int -> Int} : xa1 K (fun xs H Q => ∃ i j, xs = [.int i, .int j] /\ Q (.int (k i j)) H) (two2 k) := by
 intro F H vs ds g Q s r h q
 obtain ⟨i, j, rfl, rfl⟩ := yh4 h
 cases r with
 | cons r rr =>
  cases rr with
  | cons r2 rr =>
   cases rr
   rw [r.i', r2.i']
   exact ⟨_, _, rfl, q _ F H (.refl s) (.int _)⟩
def yd4 : List D -> Option D := two2 fun i j => if j > i then j else i
def zf7 : List D -> Option D := two2 fun i j => if j < i then j else i
theorem xt9 {x y : Expr} {p : Pos} {m : ML} (hc : X.calm = true) (hg : Gl X "max") (hm : X.mg "max" = none) (ha : PAs X [x, y] m) (he : starEach [x, y] X.env = (false, eval x X.env) :: starEach [y] X.env := by rfl) (hpl : (backTo pos (starEach [y] X.env)).any (·.1) = false := by rfl) : PD X (.Call (.Name "max" p) [x, y] [] pos) (D1 yd4 m) :=
 (O6 (yi0 hc) hg hm PyProof.Rows.boot_max ha (by decide) (by decide) he hpl).imp fun _ _ _ h => xy8 (zi5 (k := fun i j => if j > i then j else i)) h
theorem zg9 {x y : Expr} {p : Pos} {m : ML} (hc : X.calm = true) (hg : Gl X "min") (hm : X.mg "min" = none) (ha : PAs X [x, y] m) (he : starEach [x, y] X.env = (false, eval x X.env) :: starEach [y] X.env := by rfl) (hpl : (backTo pos (starEach [y] X.env)).any (·.1) = false := by rfl) : PD X (.Call (.Name "min" p) [x, y] [] pos) (D1 zf7 m) :=
 (O6 (yj8 hc) hg hm PyProof.Rows.boot_min ha (by decide) (by decide) he hpl).imp fun _ _ _ h => xy8 (zi5 (k := fun i j => if j < i then j else i)) h
def intF : List D -> Option D
 | [.int i] => some (.int i)
 | [.bl k] => some (.int (if k then 1 else 0))
 | _ => none
theorem yp2 {e : Expr} {p : Pos} {m : ML} (hg : Gl X "list") (hm : X.mg "list" = none) (ha : PB X e m) (hv : bootBuiltins "list" = some (.type "list")) (hs : starEach (e :: []) X.env = (false, eval e X.env) :: starEach [] X.env := by rfl) (hpl : (backTo pos (starEach [] X.env)).any (·.1) = false := by rfl) : PF X (.Call (.Name "list" p) [e] [] pos) m :=
 (zm4 zi6 hg hm hv (f7 ha pa_nil hs) (by decide) (by decide) hs hpl).imp fun σ H Q hpat => by
  obtain ⟨F0, H0, F, ρ, ds, rl, e, q⟩ := hpat
  refine ⟨F0, H0, F, ρ, ds, rl, e, fun p xs F1 H1 x1 s1 r1 => ⟨p, xs, rfl, .inl s1, fun w hw => ?_⟩⟩
  exact q w _ F1 _ (x1.trans (Ext.own x1.fh hw)) (x1.hh.free hw) (x1.fh.free hw) y8 r1
end
end
section
inductive Out where
 | nx (ρ : Ro) | bk (ρ : Ro) | ct (ρ : Ro) | rt (d : D) | rf (ds : List D) | rp (d : D) (ds : List D) | rg (d : D) (p : Addr) (r : List D) | rgf (ds : List D) (p : Addr) (r : List D)
abbrev MS := Ro -> Option Out
def okO (K : W.Frag) (F0 H0 Fb : Hp) (Dn : Ends) : Out -> Prop
 | .nx ρ => ∀ F H σ, Rl K F0 H0 F H σ ρ -> Same Fb F -> Dn.nx σ H
 | .bk ρ => ∀ F H σ, Rl K F0 H0 F H σ ρ -> Same Fb F -> Dn.bk σ H
 | .ct ρ => ∀ F H σ, Rl K F0 H0 F H σ ρ -> Same Fb F -> Dn.ct σ H
 | .rt d => ∀ v F H, Ext F0 H0 F H -> Rep K F v d -> Dn.rt v H
 | .rf ds => ∀ p xs F H, Ext F0 H0 F H -> H0 p = none -> F p = none -> H p = some (.lst xs) -> Reps K F xs ds -> Dn.rt (.ref p) H
 | .rp d ds => ∀ t v p xs F H, Ext F0 H0 F H -> H0 t = none -> H0 p = none -> t ≠ p -> F t = none -> F p = none -> H t = some (.tup [v, .ref p]) -> H p = some (.lst xs) -> Rep K F v d -> Reps K F xs ds -> Dn.rt (.ref t) H
 | .rg d p r => ∀ v F H xs, Ext F0 H0 F H -> Rep K F v d -> F p = none -> H p = some (.lst xs) -> Reps K F xs r -> Dn.rt v H
 | .rgf ds p r => ∀ q ys F H xs, Ext F0 H0 F H -> H0 q = none -> F q = none -> q ≠ p -> H q = some (.lst ys) -> Reps K F ys ds -> F p = none -> H p = some (.lst xs) -> Reps K F xs r -> Dn.rt (.ref q) H
def TSd (K : W.Frag) (m : MS) : TS := fun Dn σ H => ∃ F0 H0 F ρ o, Rl K F0 H0 F H σ ρ /\ m ρ = some o /\ okO K F0 H0 F Dn o
theorem okO.mono {K : W.Frag} {F0 H0 Fb Fb' : Hp} {Dn : Ends} (s : Same Fb Fb') : ∀ {o : Out}, okO K F0 H0 Fb Dn o -> okO K F0 H0 Fb' Dn o
 | .nx _, h => fun F H σ rl q => h F H σ rl (s.trans q)
 | .bk _, h => fun F H σ rl q => h F H σ rl (s.trans q)
 | .ct _, h => fun F H σ rl q => h F H σ rl (s.trans q)
 | .rt _, h => h
 | .rf _, h => h
 | .rp _ _, h => h
 | .rg _ _ _, h => h
 | .rgf _ _ _, h => h
def PSd (X : Cx) (st : Stmt) (m : MS) : Prop := PS X st (TSd X.K m)
def PSsd (X : Cx) (st : List Stmt) (m : MS) : Prop := PSs X st (TSd X.K m)
section
variable {X : Cx} {a b c e : Expr} {ma mb : ME} {pos : Pos} {st : Stmt} {rest : List Stmt} {m1 m2' : MS}
theorem PS.imp {t t' : TS} (h : PS X st t) (i : ∀ D σ H, t' D σ H -> t D σ H) : PS X st t' := fun pins s σ H D I q => h pins s σ H D I (i D σ H q)
theorem PSs.imp {sts : List Stmt} {t t' : TS} (h : PSs X sts t) (i : ∀ D σ H, t' D σ H -> t D σ H) : PSs X sts t' := fun pins s σ H D I q => h pins s σ H D I (i D σ H q)
def d7 : MS := fun ρ => some (.nx ρ)
def mseq (x y : MS) : MS := fun ρ => match x ρ with | some (.nx ρ') => y ρ' | o => o
theorem t8 : PSsd X [] d7 := pss_nil.imp fun D σ H hpat => by obtain ⟨F0, H0, F, ρ, o, rl, e, ok⟩ := hpat; cases e; exact ok F H σ rl (Same.refl _)
theorem y2 (h1 : PSd X st m1) (h2 : PSsd X rest m2') : PSsd X (st :: rest) (mseq m1 m2') := (B9 h1 h2).imp fun D σ H hpat => by
 obtain ⟨F0, H0, F, ρ, o, rl, e, ok⟩ := hpat
 unfold mseq at e
 cases h : m1 ρ with
 | none => rw [h] at e; cases e
 | some o1 =>
  rw [h] at e
  cases o1 with
  | nx ρ1 => exact ⟨F0, H0, F, ρ, _, rl, h, fun F' H' σ' rl' sf => ⟨F0, H0, F', ρ1, o, rl', e, ok.mono sf⟩⟩
  | bk ρ1 => cases e; exact ⟨F0, H0, F, ρ, _, rl, h, ok⟩
  | ct ρ1 => cases e; exact ⟨F0, H0, F, ρ, _, rl, h, ok⟩
  | rt d => cases e; exact ⟨F0, H0, F, ρ, _, rl, h, ok⟩
  | rf d => cases e; exact ⟨F0, H0, F, ρ, _, rl, h, ok⟩
  | rp d ds => cases e; exact ⟨F0, H0, F, ρ, _, rl, h, ok⟩
  | rg d p r => cases e; exact ⟨F0, H0, F, ρ, _, rl, h, ok⟩
  | rgf d p r => cases e; exact ⟨F0, H0, F, ρ, _, rl, h, ok⟩
theorem y9 (h1 : PSd X st m1) : PSsd X [st] m1 := zr4 h1
def mif (c : MB) (x y : MS) : MS := fun ρ => match c ρ with | some true => x ρ | some false => y ρ | none => none
theorem Z5 {ca : MB} {x y : List Stmt} {mx my : MS} (hc : PC' X c ca) (hx : PSsd X x mx) (hy : PSsd X y my) : PSd X (.If c x y pos) (mif ca mx my) := (yf2 hc hx hy).imp fun D σ H hpat => by
 obtain ⟨F0, H0, F, ρ, o, rl, e, ok⟩ := hpat
 unfold mif at e
 split at e
 ·rename_i h1
  refine ⟨F0, H0, F, ρ, _, rl, h1, fun F1 H1 x1 => iteT ⟨F0, H0, F1, ρ, o, rl.go x1, e, ok.mono x1.ff⟩⟩
 ·rename_i h1
  refine ⟨F0, H0, F, ρ, _, rl, h1, fun F1 H1 x1 => iteF ⟨F0, H0, F1, ρ, o, rl.go x1, e, ok.mono x1.ff⟩⟩
 ·cases e
def zt6 : MS := fun _ => none
theorem K9 : PSd X st zt6 := ps_never.imp fun D σ H hpat => by obtain ⟨F0, H0, F, ρ, o, rl, e, ok⟩ := hpat; cases e
def mset (i : Nat) (x : ME) : MS := fun ρ => (x ρ).map fun d => .nx (ρ.set i (some (.sh d)))
def Y6 (i : Nat) (x : ML) : MS := fun ρ => (x ρ).map fun ds => .nx (ρ.set i (some (.own ds)))
theorem xc9 {t : TE} {i : Nat} (h : PS X st (tAsg t (V2 i))) (ht : ∀ σ H Q, TD X.K ma σ H Q -> t σ H Q) : PSd X st (mset i ma) := h.imp fun D σ H hpat => by
 obtain ⟨F0, H0, F, ρ, o, rl, e, ok⟩ := hpat
 unfold mset at e
 cases h1 : ma ρ with
 | none => rw [h1] at e; cases e
 | some d =>
  rw [h1] at e; cases e
  exact ht _ _ _ ⟨F0, H0, F, ρ, d, rl, h1, fun v F1 H1 x1 r1 => ok F1 H1 _ ((rl.go x1).set r1) x1.ff⟩
theorem xc8 {t : TE} {i : Nat} {mf : ML} (h : PS X st (tAsg t (V2 i))) (ht : ∀ σ H Q, TF X.K mf σ H Q -> t σ H Q) : PSd X st (Y6 i mf) := h.imp fun D σ H hpat => by
 obtain ⟨F0, H0, F, ρ, o, rl, e, ok⟩ := hpat
 unfold Y6 at e
 cases h1 : mf ρ with
 | none => rw [h1] at e; cases e
 | some ds =>
  rw [h1] at e; cases e
  refine ht _ _ _ ⟨F0, H0, F, ρ, ds, rl, h1, fun p xs F1 H1 x1 hp hF hH r1 => ok F1 H1 _ ?_ x1.ff⟩
  refine (rl.go x1).setOwn hF hH r1 (rl.ext.hh.free hp) (fun j es hj e1 e2 => ?_) fun j q es e1 z => ?_
  ·obtain ⟨q, ys, a1, a2, a3, _⟩ := rl.own j es e1
   rw [a1] at e2; cases e2
   rw [hp] at a3; cases a3
  ·obtain ⟨_, _, _, ys, a3, _⟩ := rl.ob j q es e1
   rw [z, hp] at a3; cases a3
theorem n9 {i : Nat} {x : Str} {pos' : Pos} (hN : X.N.Nodup) (hi : X.N[i]? = some x) (hx : Loc X.env.scope x) (he : PD X e ma) (hs : swapsWith e (some (.Name x pos')) pos.line X.env = pure false := by rfl) (hf : X.fn x = true \/ X.env.scope.names.lookup x = some .local := by first | exact .inl rfl | exact .inr rfl | assumption) :
  PSd X (.Assign [.Name x pos'] e pos) (mset i ma) := xc9 (zt2 hN hi hx he hs hf) fun _ _ _ h => h
theorem X7 {i : Nat} {x : Str} {pos' : Pos} {mf : ML} (hN : X.N.Nodup) (hi : X.N[i]? = some x) (hx : Loc X.env.scope x) (he : PF X e mf) (hs : swapsWith e (some (.Name x pos')) pos.line X.env = pure false := by rfl) (hf : X.fn x = true \/ X.env.scope.names.lookup x = some .local := by first | exact .inl rfl | exact .inr rfl | assumption) :
  PSd X (.Assign [.Name x pos'] e pos) (Y6 i mf) := xc8 (zt2 hN hi hx he hs hf) fun _ _ _ h => h
def N5 (x : ME) : MS := fun ρ => (x ρ).map fun _ => .nx ρ
theorem U2 (he : PD X e ma) (hs : swapsWith e none pos.line X.env = pure false := by rfl) : PSd X (.Expr e pos) (N5 ma) := (Q5 he hs).imp fun D σ H hpat => by
 obtain ⟨F0, H0, F, ρ, o, rl, e, ok⟩ := hpat
 unfold N5 at e
 cases h1 : ma ρ with
 | none => rw [h1] at e; cases e
 | some d =>
  rw [h1] at e; cases e
  exact ⟨F0, H0, F, ρ, d, rl, h1, fun v F1 H1 x1 r1 => ok F1 H1 _ (rl.go x1) x1.ff⟩
def mret (x : ME) : MS := fun ρ => (x ρ).map .rt
def zf5 (x : ML) : MS := fun ρ => (x ρ).map .rf
def yo7 (i : Nat) : MS := fun ρ => match ρ[i]? with | some (some (.own ds)) => some (.rf ds) | some (some (.sh d)) => some (.rt d) | _ => none
theorem m6 (he : PD X e ma) : PSd X (.Return (some e) pos) (mret ma) := (Q4 he).imp fun D σ H hpat => by
 obtain ⟨F0, H0, F, ρ, o, rl, e, ok⟩ := hpat
 unfold mret at e
 cases h1 : ma ρ with
 | none => rw [h1] at e; cases e
 | some d =>
  rw [h1] at e; cases e
  exact ⟨F0, H0, F, ρ, d, rl, h1, fun v F1 H1 x1 r1 => ok v F1 H1 (rl.ext.trans x1) r1⟩
theorem za2 {mf : ML} (he : PF X e mf) : PSd X (.Return (some e) pos) (zf5 mf) := (Q4 he).imp fun D σ H hpat => by
 obtain ⟨F0, H0, F, ρ, o, rl, e, ok⟩ := hpat
 unfold zf5 at e
 cases h1 : mf ρ with
 | none => rw [h1] at e; cases e
 | some ds =>
  rw [h1] at e; cases e
  exact ⟨F0, H0, F, ρ, ds, rl, h1, fun p xs F1 H1 x1 hp hF hH r1 => ok p xs F1 H1 (rl.ext.trans x1) (rl.ext.hh.free hp) hF hH r1⟩
theorem za1 (i : Nat) {x : Str} {pos' : Pos} (h : PE X (.Name x pos') (tVar i)) : PSd X (.Return (some (.Name x pos')) pos) (yo7 i) := (Q4 h).imp fun D σ H hpat => by
 obtain ⟨F0, H0, F, ρ, o, rl, e, ok⟩ := hpat
 unfold yo7 at e
 split at e
 ·rename_i ds h1
  cases e
  obtain ⟨p, xs, e1, e2, e3, e4, e5⟩ := rl.own i _ h1
  exact ⟨_, e1, ok p xs F H rl.ext e5 e2 e3 e4⟩
 ·rename_i d h1
  cases e
  obtain ⟨v, e1, e2⟩ := rl.sh i _ h1
  exact ⟨_, e1, ok v F H rl.ext e2⟩
 ·cases e
def mapp (i : Nat) (x : ME) : MS := fun ρ => match ρ[i]? with | some (some (.own ds)) => (x ρ).bind fun d => if ds.length < sizeLine then some (.nx (ρ.set i (some (.own (ds ++ [d]))))) else none | _ => none
theorem T3 {i : Nat} {x : Str} {e : Expr} {px apos cpos : Pos} (hv : PE X (.Name x px) (tVar i)) (he : PD X e ma)
  (hE : ∀ t, PA X [e] t -> PE X (.Call (.Attribute (.Name x px) "append" apos) [e] [] cpos) (tBM X.K "list" zz8 (tVar i) t)) (hA : PAs X [e] (z8 ma anil)) (hs : swapsWith (.Call (.Attribute (.Name x px) "append" apos) [e] [] cpos) none pos.line X.env = pure false := by rfl) :
  PSd X (.Expr (.Call (.Attribute (.Name x px) "append" apos) [e] [] cpos) pos) (mapp i ma) := (Q5 (hE _ hA) hs).imp fun D σ H hpat => by
 obtain ⟨F0, H0, F, ρ, o, rl, e, ok⟩ := hpat
 unfold mapp at e
 split at e
 ·rename_i ds h1
  obtain ⟨p, xs, e1, e2, e3, e4, e5⟩ := rl.own i _ h1
  cases h2 : ma ρ with
  | none => rw [h2] at e; cases e
  | some d =>
   rw [h2] at e
   have e : (if ds.length < sizeLine then some (Out.nx (ρ.set i (some (.own (ds ++ [d]))))) else none) = some o := e
   split at e
   ·rename_i hz
    cases e
    refine ⟨_, e1, .inl ⟨rfl, _, SqL.of e3⟩, F0, H0, F, ρ, [d], rl, by unfold z8 anil; rw [h2]; rfl, fun vs F1 H1 x1 r1 => ?_⟩
    cases r1 with
    | cons r rr =>
     cases rr
     have hp : H1 p = some (.lst xs) := x1.hh _ _ e3
     exact ⟨p, xs, _, rfl, rfl, hp, by rw [e4.length]; exact hz, ok F1 _ σ ((rl.go x1).write h1 e1 ((e4.mono x1.ff).append (.cons r .nil))) x1.ff⟩
   ·cases e
 ·cases e
def a9 (i : Nat) (ix v : ME) : MS := fun ρ => (v ρ).bind fun d => match ρ[i]? with
 | some (some (.own ds)) => (ix ρ).bind (fun x => match x with | .int k => (ixN ds.length k).map fun j => .nx (ρ.set i (some (.own (ds.set j d)))) | _ => none)
 | some (some (.ob p ds)) => (ix ρ).bind (fun x => match x with | .int k => (ixN ds.length k).map fun j => .nx (ρ.set i (some (.ob p (ds.set j d)))) | _ => none)
 | _ => none
theorem a8 {i : Nat} (hE : PS X st (tAsg (TD X.K mb) (gSub (tVar i) (TD X.K ma) xj7))) : PSd X st (a9 i ma mb) := hE.imp fun D σ H hpat => by
 obtain ⟨F0, H0, F, ρ, o, rl, e, ok⟩ := hpat
 unfold a9 at e
 cases h1 : mb ρ with
 | none => rw [h1] at e; cases e
 | some d =>
  rw [h1] at e
  refine ⟨F0, H0, F, ρ, d, rl, h1, fun y F1 H1 x1 r1 => ?_⟩
  dsimp only [Option.bind] at e
  split at e
  ·rename_i ds h2
   obtain ⟨p, xs, e1, e2, e3, e4, e5⟩ := (rl.go x1).own i _ h2
   cases h3 : ma ρ with
   | none => rw [h3] at e; cases e
   | some k' =>
    rw [h3] at e
    refine ⟨_, e1, F0, H0, F1, ρ, k', rl.go x1, h3, fun z F2 H2 x2 r2 => ?_⟩
    cases r2 <;> first | (cases e; done) | skip
    rename_i k
    have e : (ixN ds.length k).map (fun j => Out.nx (ρ.set i (some (.own (ds.set j d))))) = some o := e
    cases h4 : ixN ds.length k with
    | none => rw [h4] at e; cases e
    | some j =>
     rw [h4] at e; cases e
     have rl2 := (rl.go x1).go x2
     refine ⟨p, xs, k, j, rfl, rfl, x2.hh _ _ e3, by rw [e4.length]; exact h4, ok F2 _ σ (rl2.write h2 e1 (Reps.set (r1.mono x2.ff) j (e4.mono x2.ff))) (x1.ff.trans x2.ff)⟩
  ·rename_i p ds h2
   obtain ⟨e1, e2, e5, xs, e3, e4⟩ := (rl.go x1).ob i p _ h2
   cases h3 : ma ρ with
   | none => rw [h3] at e; cases e
   | some k' =>
    rw [h3] at e
    refine ⟨_, e1, F0, H0, F1, ρ, k', rl.go x1, h3, fun z F2 H2 x2 r2 => ?_⟩
    cases r2 <;> first | (cases e; done) | skip
    rename_i k
    have e : (ixN ds.length k).map (fun j => Out.nx (ρ.set i (some (.ob p (ds.set j d))))) = some o := e
    cases h4 : ixN ds.length k with
    | none => rw [h4] at e; cases e
    | some j =>
     rw [h4] at e; cases e
     have rl2 := (rl.go x1).go x2
     refine ⟨p, xs, k, j, rfl, rfl, x2.hh _ _ e3, by rw [e4.length]; exact h4, ok F2 _ σ (rl2.writeB h2 (Reps.set (r1.mono x2.ff) j (e4.mono x2.ff))) (x1.ff.trans x2.ff)⟩
  ·cases e
def Z0 (i : Nat) (m : MS) : MS := fun ρ => match ρ[i]? with | some (some (.own ds)) => m (ρ.set i (some (.sh (.lst ds)))) | _ => m ρ
theorem k7 (i : Nat) {sts : List Stmt} {m : MS} (h : PSsd X sts m) : PSsd X sts (Z0 i m) := h.imp fun D σ H hpat => by
 obtain ⟨F0, H0, F, ρ, o, rl, e, ok⟩ := hpat
 unfold Z0 at e
 split at e
 ·rename_i ds h1
  obtain ⟨F', rl', sf⟩ := rl.freeze h1
  exact ⟨F0, H0, F', _, o, rl', e, ok.mono sf⟩
 ·exact ⟨F0, H0, F, ρ, o, rl, e, ok⟩
inductive Tg where
 | nm (i : Nat) | tp (is : List Nat) | nt (i : Nat) (is : List Nat)
def zz4 : List Nat -> List D -> Ro -> Option Ro
 | [], [], ρ => some ρ
 | i :: is, d :: ds, ρ => zz4 is ds (ρ.set i (some (.sh d)))
 | _, _, _ => none
def tgD : Tg -> D -> Ro -> Option Ro
 | .nm i, d, ρ => some (ρ.set i (some (.sh d)))
 | .tp is, .tup ds, ρ => zz4 is ds ρ
 | .nt i is, .tup [d, .tup ds], ρ => zz4 is ds (ρ.set i (some (.sh d)))
 | _, _, _ => none
def TGd (K : W.Frag) (g : Tg) : TG := fun v σ H Q => ∃ F0 H0 F ρ d ρ', Rl K F0 H0 F H σ ρ /\ Rep K F v d /\ tgD g d ρ = some ρ' /\ ∀ F' H' σ', Rl K F0 H0 F' H' σ' ρ' -> Ext F H F' H' -> Q σ' H'
def PGd (X : Cx) (tg : Expr) (g : Tg) : Prop := PG X tg (TGd X.K g)
theorem PG.imp {tg : Expr} {t t' : TG} (h : PG X tg t) (i : ∀ v σ H Q, t' v σ H Q -> t v σ H Q) : PG X tg t' := fun pins s σ H v u Q I r q => h pins s σ H v u Q I r (i v σ H Q q)
theorem t9 {i : Nat} {x : Str} {pos : Pos} (h : PG X (.Name x pos) (V2 i)) : PGd X (.Name x pos) (.nm i) := PG.imp h fun v σ H Q hpat => by
 obtain ⟨F0, H0, F, ρ, d, ρ', rl, r, e, q⟩ := hpat
 cases e; exact q F H _ (rl.set r) (.refl rl.fh)
def gAll : List Nat -> TGs
 | [] => gNil
 | i :: is => yc7 (V2 i) (gAll is)
theorem yk3 {K : W.Frag} {F0 H0 F H : Hp} {Q : St -> Hp -> Prop} : ∀ (is : List Nat) (vs : List V) (ds : List D) (σ : St) (ρ ρ' : Ro), Rl K F0 H0 F H σ ρ -> Reps K F vs ds -> zz4 is ds ρ = some ρ' -> (∀ σ', Rl K F0 H0 F H σ' ρ' -> Q σ' H) -> gAll is vs σ H Q
 | [], _, [], σ, ρ, ρ', rl, r, e, q => by cases r; cases e; exact ⟨rfl, q σ rl⟩
 | [], _, _ :: _, _, _, _, _, _, e, _ => by cases e
 | _ :: _, _, [], _, _, _, _, _, e, _ => by cases e
 | i :: is, _, d :: ds, σ, ρ, ρ', rl, r, e, q => by
  cases r with
  | cons r rr => exact ⟨_, _, rfl, yk3 is _ ds _ _ ρ' (rl.set r) rr e q⟩
theorem zu9 : ∀ (is : List Nat) (ds : List D) (ρ ρ' : Ro), zz4 is ds ρ = some ρ' -> ds.length = is.length
 | [], [], _, _, _ => rfl
 | [], _ :: _, _, _, e => by cases e
 | _ :: _, [], _, _, e => by cases e
 | _ :: is, _ :: ds, ρ, ρ', e => congrArg (· + 1) (zu9 is ds _ ρ' e)
theorem c9 {es : List Expr} {k n : Nat} {is : List Nat} {pos : Pos} (h : PG X (.Tuple es k pos) (gTup X.K n (gAll is))) (hn : is.length = n := by rfl) : PGd X (.Tuple es k pos) (.tp is) := PG.imp h fun v σ H Q hpat => by
 obtain ⟨F0, H0, F, ρ, d, ρ', rl, r, e, q⟩ := hpat
 cases r with
 | tup s t => exact ⟨_, _, rfl, rl.fh.seqT s, by rw [t.length, zu9 _ _ _ _ e, hn], yk3 is _ _ σ ρ ρ' rl t e fun σ' rl' => q F H σ' rl' (.refl rl.fh)⟩
 | _ => cases e
def masg (g : Tg) (x : ME) : MS := fun ρ => (x ρ).bind fun d => (tgD g d ρ).map .nx
theorem S3 {g : Tg} (h : PS X st (tAsg (TD X.K ma) (TGd X.K g))) : PSd X st (masg g ma) := h.imp fun D σ H hpat => by
 obtain ⟨F0, H0, F, ρ, o, rl, e, ok⟩ := hpat
 unfold masg at e
 cases h1 : ma ρ with
 | none => rw [h1] at e; cases e
 | some d =>
  rw [h1] at e
  have e : (tgD g d ρ).map Out.nx = some o := e
  cases h2 : tgD g d ρ with
  | none => rw [h2] at e; cases e
  | some ρ' =>
   rw [h2] at e; cases e
   exact ⟨F0, H0, F, ρ, d, rl, h1, fun v F1 H1 x1 r1 => ⟨F0, H0, F1, ρ, d, ρ', rl.go x1, r1, h2, fun F' H' σ' rl' x2 => ok F' H' σ' rl' (x1.ff.trans x2.ff)⟩⟩
structure ItD (K : W.Frag) (F : Hp) (J : It) (its : List D) : Prop where
 go : ∀ (i : Nat) F1 H1, Same F F1 -> Same F1 H1 -> i < its.length -> J.go i H1
 yld : ∀ (i : Nat) F1 H1 x H2 d, Same F F1 -> Same F1 H1 -> its[i]? = some d -> J.yld i H1 x H2 -> ∃ F2, Ext F1 H1 F2 H2 /\ Rep K F2 x d
 stop : ∀ F1 H1, Same F F1 -> Same F1 H1 -> J.stop its.length H1
def TId (K : W.Frag) (mi : ML) : TI := fun σ H R => ∃ F0 H0 F ρ its, Rl K F0 H0 F H σ ρ /\ mi ρ = some its /\ ∀ J F' H', Ext F H F' H' -> ItD K F' J its -> R J H'
def PId (X : Cx) (tg iter : Expr) (mi : ML) : Prop := PI X tg iter (TId X.K mi)
theorem PI.imp {tg it : Expr} {t t' : TI} (h : PI X tg it t) (i : ∀ σ H R, t' σ H R -> t σ H R) : PI X tg it t' := fun pins s σ H R I q => h pins s σ H R I (i σ H R q)
theorem yc2 {K : W.Frag} {F : Hp} {p : Addr} {xs : List V} {ds : List D} (s : SqL K F p xs) (r : Reps K F xs ds) : ItD K F (Itl K p) ds where
 go := fun i F1 H1 a b hi => by
  obtain ⟨v, e, _⟩ := r.get (getElem?_eq_getElem hi)
  exact ⟨xs, v, b.seq (a.seq s), e⟩
 yld := fun i F1 H1 x H2 d a b e y => by
  obtain ⟨rfl, y⟩ := y
  obtain ⟨v, e1, e2⟩ := r.get e
  have := y xs (b.seq (a.seq s))
  rw [e1] at this; cases this
  exact ⟨F1, .refl b, e2.mono a⟩
 stop := fun F1 H1 a b => ⟨xs, b.seq (a.seq s), by rw [r.length]; exact Nat.le_refl _⟩
theorem X1 {tg : Expr} (hd : PD X e ma) : PId X tg e (v7 ma) := PI.imp (xt1 hd) fun σ H R hpat => by
 obtain ⟨F0, H0, F, ρ, its, rl, e, q⟩ := hpat
 unfold v7 at e
 split at e
 ·rename_i ds h1
  cases e
  refine ⟨F0, H0, F, ρ, _, rl, h1, fun v F1 H1 x1 r1 => ?_⟩
  cases r1 with
  | lst s t => exact ⟨_, rfl, ⟨_, x1.fh.seq s⟩, q _ F1 H1 x1 (yc2 s t)⟩
 ·cases e
def T2 (lo : Int) (n : Nat) : List D := (List.range n).map fun (i : Nat) => D.int (lo + (i : Int))
theorem K5 (lo : Int) (n : Nat) : (T2 lo n).length = n := by unfold T2; simp
theorem zx4 {K : W.Frag} {F : Hp} {lo : Int} {n : Nat} : ItD K F (Itr lo n) (T2 lo n) where
 go := fun i F1 H1 a b hi => by rw [K5] at hi; exact hi
 yld := fun i F1 H1 x H2 d a b e y => by
  obtain ⟨rfl, rfl⟩ := y
  unfold T2 at e
  rw [getElem?_map] at e
  have hi : i < n := by
   rcases Nat.lt_or_ge i n with h | h
   ·exact h
   ·rw [getElem?_eq_none (by simpa using h)] at e; cases e
  rw [getElem?_range hi] at e
  cases e
  exact ⟨F1, .refl b, .int _⟩
 stop := fun F1 H1 a b => by rw [K5]; exact Nat.le_refl n
def okR (j : Int) : Bool := decide (-(2 ^ 62) <= j) && decide (j < 2 ^ 62)
def rng1 : List D -> Option (List D)
 | [.int j] => if okR j = true then some (T2 0 j.toNat) else none
 | _ => none
def rng2 : List D -> Option (List D)
 | [.int i, .int j] => if (okR i && okR j) = true then some (T2 i (j - i).toNat) else none
 | _ => none
@[irreducible] def j8 (f : List D -> Option (List D)) (m : ML) : ML := fun ρ => (m ρ).bind f
theorem O7 {f : List D -> Option (List D)} {m : ML} {ρ : Ro} {gs : List D} (h : j8 f m ρ = some gs) : ∃ ds, m ρ = some ds /\ f ds = some gs := by
 unfold j8 at h
 cases h1 : m ρ with
 | none => rw [h1] at h; cases h
 | some ds => rw [h1] at h; exact ⟨ds, rfl, h⟩
theorem T4 {tg a : Expr} {m : ML} {p pos : Pos} (hg : Gl X "range") (hm : X.mg "range" = none) (ha : PAs X [a] m) (hs : starEach [a] X.env = [(false, eval a X.env)] := by rfl) : PId X tg (.Call (.Name "range" p) [a] [] pos) (j8 rng1 m) := PI.imp (zm2 hg hm ha hs) fun σ H R hpat => by
 obtain ⟨F0, H0, F, ρ, its, rl, e, q⟩ := hpat
 obtain ⟨ds, h1, h2⟩ := O7 e
 refine ⟨F0, H0, F, ρ, ds, rl, h1, fun vs F1 H1 x1 r1 => ?_⟩
 unfold rng1 at h2
 split at h2
 ·rename_i j
  split at h2
  ·rename_i hk
   cases h2
   unfold okR at hk
   simp only [Bool.and_eq_true, decide_eq_true_eq] at hk
   cases r1 with
   | cons r rr =>
    cases rr; cases r
    exact ⟨j, rfl, hk.1, hk.2, q _ F1 H1 x1 zx4⟩
  ·cases h2
 ·cases h2
theorem W4 {tg a b : Expr} {m : ML} {p pos : Pos} (hg : Gl X "range") (hm : X.mg "range" = none) (ha : PAs X [a, b] m) (hs : starEach [a, b] X.env = [(false, eval a X.env), (false, eval b X.env)] := by rfl) (hs2 : starEach [b] X.env = [(false, eval b X.env)] := by rfl) : PId X tg (.Call (.Name "range" p) [a, b] [] pos) (j8 rng2 m) := PI.imp (yq9 hg hm ha hs hs2) fun σ H R hpat => by
 obtain ⟨F0, H0, F, ρ, its, rl, e, q⟩ := hpat
 obtain ⟨ds, h1, h2⟩ := O7 e
 refine ⟨F0, H0, F, ρ, ds, rl, h1, fun vs F1 H1 x1 r1 => ?_⟩
 unfold rng2 at h2
 split at h2
 ·rename_i i j
  split at h2
  ·rename_i hk
   cases h2
   unfold okR at hk
   simp only [Bool.and_eq_true, decide_eq_true_eq] at hk
   cases r1 with
   | cons r rr =>
    cases rr with
    | cons r2 rr =>
     cases rr; cases r; cases r2
     exact ⟨i, j, rfl, ⟨hk.1.1, hk.1.2, hk.2.1, hk.2.2⟩, q _ F1 H1 x1 zx4⟩
  ·cases h2
 ·cases h2
def zw2 : Nat -> List D -> List D
 | _, [] => []
 | i, d :: ds => .tup [.int i, d] :: zw2 (i + 1) ds
theorem P7 : ∀ i ds, (zw2 i ds).length = ds.length
 | _, [] => rfl
 | i, _ :: ds => by simp [zw2, P7 (i + 1) ds]
theorem zi0 : ∀ (k : Nat) ds (i : Nat) d, ds[i]? = some d -> (zw2 k ds)[i]? = some (.tup [.int ((k + i : Nat) : Int), d])
 | _, [], _, _, h => by simp at h
 | k, _ :: ds, 0, d, h => by simp at h; subst h; rfl
 | k, _ :: ds, i + 1, d, h => by
  have := zi0 (k + 1) ds i d (by simpa using h)
  have e : k + 1 + i = k + (i + 1) := by omega
  rw [e] at this
  simpa [zw2] using this
def zd5 : List D -> Option (List D)
 | [.lst ds] => some (zw2 0 ds)
 | _ => none
theorem yc3 {K : W.Frag} {F : Hp} {p : Addr} {xs : List V} {ds : List D} (s : SqL K F p xs) (r : Reps K F xs ds) : ItD K F (Ite K p) (zw2 0 ds) where
 go := fun i F1 H1 a b hi => by
  rw [P7] at hi
  obtain ⟨v, e, _⟩ := r.get (getElem?_eq_getElem hi)
  exact ⟨xs, v, b.seq (a.seq s), e⟩
 yld := fun i F1 H1 x H2 d a b e y => by
  obtain ⟨t, u, rfl, ht, rfl, y1⟩ := y
  have y1 := y1 xs (b.seq (a.seq s))
  obtain ⟨d1, e1, r1⟩ := r.get' y1
  rw [zi0 0 ds i d1 e1, Nat.zero_add] at e
  cases e
  refine ⟨upd F1 t (.tup [.int i, u]), Ext.laid b ht, .tup (SqT.of y8) ?_⟩
  have mm : Same F (upd F1 t (.tup [.int i, u])) := a.trans ((Same.refl F1).put (b.free ht))
  exact .cons (.int _) (.cons (r1.mono mm) .nil)
 stop := fun F1 H1 a b => ⟨xs, b.seq (a.seq s), by rw [r.length, P7]; exact Nat.le_refl _⟩
theorem za3 {es : List Expr} {tk : Nat} {tp : Pos} {a : Expr} {m : ML} {p pos : Pos} (hg : Gl X "enumerate") (hm : X.mg "enumerate" = none) (ha : PAs X [a] m) (hs : starEach [a] X.env = [(false, eval a X.env)] := by rfl) : PId X (.Tuple es tk tp) (.Call (.Name "enumerate" p) [a] [] pos) (j8 zd5 m) := PI.imp (yp0 hg hm ha hs) fun σ H R hpat => by
 obtain ⟨F0, H0, F, ρ, its, rl, e, q⟩ := hpat
 obtain ⟨ds, h1, h2⟩ := O7 e
 refine ⟨F0, H0, F, ρ, ds, rl, h1, fun vs F1 H1 x1 r1 => ?_⟩
 unfold zd5 at h2
 split at h2
 ·cases h2
  cases r1 with
  | cons r rr =>
   cases rr
   cases r with
   | lst s t => exact ⟨_, _, rfl, x1.fh.seq s, q _ F1 H1 x1 (yc3 s t)⟩
 ·cases h2
end
end
section
def forD (g : Tg) (body : MS) : List D -> MS
 | [], ρ => some (.nx ρ)
 | d :: ds, ρ => match tgD g d ρ with
  | some ρ1 => match body ρ1 with
   | some (.nx ρ2) => forD g body ds ρ2
   | some (.ct ρ2) => forD g body ds ρ2
   | some (.bk ρ2) => some (.nx ρ2)
   | o => o
  | none => none
def mfor (mi : ML) (g : Tg) (body : MS) : MS := fun ρ => (mi ρ).bind fun its => forD g body its ρ
theorem W1 {α : Type} {xs : List α} {i : Nat} {d : α} (h : xs[i]? = some d) : xs.drop i = d :: xs.drop (i + 1) := by
 obtain ⟨hl, e⟩ := List.getElem?_eq_some_iff.mp h
 rw [drop_eq_getElem_cons hl, e]
section
variable {X : Cx} {a b c e : Expr} {ma mb : ME} {pos : Pos} {st : Stmt} {rest : List Stmt}
theorem M6 {tg iter : Expr} {body : List Stmt} {mi : ML} {g : Tg} {mb : MS} (hp : PassesOwn (model X.prog X.w) X.A X.env X.xe) (hc : X.calm = true) (hi : PId X tg iter mi) (hg : PGd X tg g) (hb : PSsd X body mb)
  (hs : ∀ x, foldedSetIterable iter X.env x = pure x := by intro _; rfl) : PSd X (.For tg iter body [] pos) (mfor mi g mb) := (yq6 hp hc hi hg hb hs).imp fun Dn σ H hpat => by
 obtain ⟨F0, H0, F, ρ, o, rl, e, ok⟩ := hpat
 unfold mfor at e
 cases h1 : mi ρ with
 | none => rw [h1] at e; cases e
 | some its =>
  rw [h1] at e
  have e : forD g mb its ρ = some o := e
  refine ⟨F0, H0, F, ρ, its, rl, h1, fun J F1 H1 x1 I => ?_⟩
  refine ⟨fun i m σ' H' => ∃ F' ρ', Rl X.K F0 H0 F' H' σ' ρ' /\ Same F1 F' /\ i <= its.length /\ m = its.length - i /\ forD g mb (its.drop i) ρ' = some o, ⟨_, F1, ρ, rl.go x1, Same.refl _, Nat.zero_le _, rfl, e⟩, ?_⟩
  rintro i m σ' H' ⟨F', ρ', rl', sf, hi', rfl, e'⟩
  by_cases hlt : i < its.length
  ·right
   have hd := getElem?_eq_getElem hlt
   refine ⟨I.go i F' H' sf rl'.fh hlt, fun σ2 H2 => ∃ F2 ρ2, Rl X.K F0 H0 F2 H2 σ2 ρ2 /\ Same F1 F2 /\ forD g mb (its.drop (i + 1)) ρ2 = some o, ?_, fun x H2 y => ?_⟩
   ·rintro σ2 H2 ⟨F2, ρ2, rl2, sf2, e2⟩
    exact ⟨its.length - (i + 1), by omega, F2, ρ2, rl2, sf2, hlt, rfl, e2⟩
   ·obtain ⟨F2, x2, r2⟩ := I.yld i F' H' x H2 _ sf rl'.fh hd y
    rw [W1 hd] at e'
    unfold forD at e'
    cases h2 : tgD g its[i] ρ' with
    | none => simp only [h2] at e'; cases e'
    | some ρ1 =>
     simp only [h2] at e'
     refine ⟨F0, H0, F2, ρ', _, ρ1, rl'.go x2, r2, h2, fun F3 H3 σ3 rl3 x3 => ?_⟩
     have s3 : Same F1 F3 := (sf.trans x2.ff).trans x3.ff
     cases h3 : mb ρ1 with
     | none => simp only [h3] at e'; cases e'
     | some o1 =>
      simp only [h3] at e'
      refine ⟨F0, H0, F3, ρ1, o1, rl3, h3, ?_⟩
      cases o1 with
      | nx ρ2 => exact fun F4 H4 σ4 rl4 s4 => ⟨F4, ρ2, rl4, s3.trans s4, e'⟩
      | ct ρ2 => exact fun F4 H4 σ4 rl4 s4 => ⟨F4, ρ2, rl4, s3.trans s4, e'⟩
      | bk ρ2 =>
       cases e'
       exact fun F4 H4 σ4 rl4 s4 => ok F4 H4 σ4 rl4 ((x1.ff.trans s3).trans s4)
      | rt d => cases e'; exact ok
      | rf d => cases e'; exact ok
      | rp d ds => cases e'; exact ok
      | rg d p r => cases e'; exact ok
      | rgf d p r => cases e'; exact ok
  ·left
   have hieq : i = its.length := by omega
   subst hieq
   rw [drop_length] at e'
   have e' : some (Out.nx ρ') = some o := e'
   cases e'
   exact ⟨I.stop F' H' sf rl'.fh, ok F' H' σ' rl' (x1.ff.trans sf)⟩
end
end
section
def g5 (src : List (Option Nat)) (ρ : Ro) : Ro := src.map fun o => o.bind fun i => match ρ[i]? with | some (some (.sh d)) => some (.sh d) | _ => none
def V4 (g : Tg) (c : MB) (elt : ME) : List D -> Ro -> List D -> Option (List D)
 | [], _, acc => some acc
 | d :: ds, ρ, acc => match tgD g d ρ with
  | some ρ1 => match c ρ1 with
   | some true => match elt ρ1 with
    | some x => if acc.length < sizeLine then V4 g c elt ds ρ1 (acc ++ [x]) else none
    | none => none
   | some false => V4 g c elt ds ρ1 acc
   | none => none
  | none => none
@[irreducible] def V0 (src : List (Option Nat)) (mi : ML) (g : Tg) (c : MB) (elt : ME) : ML := fun ρ => (mi ρ).bind fun its => V4 g c elt its (g5 src ρ) []
def NoOwn (ρ : Ro) : Prop := ∀ (i : Nat) ds, ρ[i]? ≠ some (some (.own ds)) /\ ∀ p, ρ[i]? ≠ some (some (.ob p ds))
theorem NoOwn.set {ρ : Ro} (h : NoOwn ρ) (i : Nat) (d : D) : NoOwn (ρ.set i (some (.sh d))) := fun j ds => ⟨fun e => by
 by_cases hj : i = j
 ·subst hj
  have hl : i < ρ.length := by
   rcases Nat.lt_or_ge i ρ.length with z | z
   ·exact z
   ·rw [getElem?_eq_none (by simpa using z)] at e; cases e
  rw [getElem?_set_self hl] at e; cases e
 ·rw [getElem?_set_ne hj] at e; exact (h j ds).1 e, fun p e => (h j ds).2 p (j9 e).2⟩
theorem NoOwn.all : ∀ (is : List Nat) (ds : List D) {ρ ρ' : Ro}, NoOwn ρ -> zz4 is ds ρ = some ρ' -> NoOwn ρ'
 | [], [], ρ, ρ', h, e => by cases e; exact h
 | [], _ :: _, _, _, _, e => by cases e
 | _ :: _, [], _, _, _, e => by cases e
 | i :: is, d :: ds, ρ, ρ', h, e => NoOwn.all is ds (h.set i d) e
theorem NoOwn.tg {g : Tg} {d : D} {ρ ρ' : Ro} (h : NoOwn ρ) (e : tgD g d ρ = some ρ') : NoOwn ρ' := by
 cases g with
 | nm i => cases e; exact h.set i d
 | tp is => cases d <;> first | (cases e; done) | exact NoOwn.all is _ h e
 | nt i is =>
  cases d with
  | tup ds =>
   match ds, e with
   | [d, .tup ds], e => exact NoOwn.all is _ (h.set i d) e
  | _ => cases e
theorem Rl.blk {K : W.Frag} {F0 H0 F H : Hp} {σ : St} {ρ : Ro} (r : Rl K F0 H0 F H σ ρ) (src : List (Option Nat)) : Rl K F H F H (blk0 src σ) (g5 src ρ) /\ NoOwn (g5 src ρ) := by
 have no1 : ∀ (i : Nat) x, (g5 src ρ)[i]? = some (some x) -> ∃ d, x = S.sh d := fun i x e => by
  unfold g5 at e
  rw [getElem?_map] at e
  cases h : src[i]? with
  | none => rw [h] at e; cases e
  | some o =>
   rw [h] at e
   cases o with
   | none => cases e
   | some k =>
    simp only [Option.map_some, Option.bind_some] at e
    split at e
    ·cases e; exact ⟨_, rfl⟩
    ·cases e
 have no : NoOwn (g5 src ρ) := fun i ds => ⟨fun e => (by obtain ⟨d, z⟩ := no1 i _ e; cases z), fun p e => (by obtain ⟨d, z⟩ := no1 i _ e; cases z)⟩
 refine ⟨⟨.refl r.fh, by unfold blk0 g5; simp, fun i d e => ?_, fun i ds e => absurd e (no i ds).1, fun i j p ds es _ e => absurd e (no i ds).1, fun i p ds e => absurd e ((no i ds).2 p), fun i j p ds es e => absurd e ((no i ds).2 p), fun i j p q ds es e => absurd e ((no i ds).2 p)⟩, no⟩
 unfold g5 at e
 unfold blk0
 rw [getElem?_map] at e ⊢
 cases h : src[i]? with
 | none => rw [h] at e; cases e
 | some o =>
  rw [h] at e
  cases o with
  | none => cases e
  | some k =>
   simp only [Option.map_some, Option.bind_some] at e ⊢
   split at e
   ·rename_i d' h'
    cases e
    obtain ⟨v, e1, e2⟩ := r.sh k _ h'
    exact ⟨v, by rw [e1]; rfl, e2⟩
   ·cases e
theorem Rl.other {K : W.Frag} {F0 H0 F H : Hp} {σ : St} {ρ : Ro} (r : Rl K F0 H0 F H σ ρ) (no : NoOwn ρ) {p : Addr} {o : HO} (h0 : H0 p = none) (hF : F p = none) : Rl K F0 H0 F (upd H p o) σ ρ :=
 ⟨⟨r.ext.ff, r.ext.hh.put h0, r.ext.fh.put hF, r.ext.new, r.ext.nf⟩, r.len, r.sh, fun i ds e => absurd e (no i ds).1, r.inj, fun i p ds e => absurd e ((no i ds).2 p), r.obn, r.ob1⟩
theorem Rl.rebase {K : W.Frag} {F1 F H : Hp} {σ : St} {ρ : Ro} {p : Addr} {xs ys : List V} (r : Rl K F1 (upd F1 p (.lst xs)) F H σ ρ) (hF : F p = none) (hF1 : F1 p = none) : Rl K F1 (upd F1 p (.lst ys)) F (upd H p (.lst ys)) σ ρ := by
 have ne : ∀ q, upd F1 p (.lst xs) q = none -> q ≠ p := fun q z w => by rw [w, y8] at z; cases z
 refine ⟨⟨r.ext.ff, fun b u e => ?_, r.fh.put hF, fun b e n => ?_, r.ext.nf⟩, r.len, r.sh, fun i ds e => ?_, r.inj, fun i q ds e => ?_, r.obn, r.ob1⟩
 ·by_cases hb : b = p
  ·subst hb; rw [y8] at e ⊢; exact e
  ·rw [x6 hb] at e ⊢
   exact r.ext.hh b u (by rw [x6 hb]; exact e)
 ·have hb : b ≠ p := fun w => by rw [w, hF] at n; exact n rfl
  rw [x6 hb]; exact e
 ·obtain ⟨q, zs, a, b, c, d, z⟩ := r.own i ds e
  have hq := ne q z
  rw [x6 hq] at z
  exact ⟨q, zs, a, b, by rw [x6 hq]; exact c, d, by rw [x6 hq]; exact z⟩
 ·obtain ⟨a, b, z, zs, c, d⟩ := r.ob i q ds e
  have hq := ne q z
  rw [x6 hq] at z
  exact ⟨a, b, by rw [x6 hq]; exact z, zs, by rw [x6 hq]; exact c, d⟩
theorem Ext.acc {F H F' H' : Hp} {p : Addr} {o : HO} (x : Ext F H F' H') (hp : H p = none) (hF : F' p = none) : Ext F H F' (upd H' p o) := ⟨x.ff, x.hh.put hp, x.fh.put hF, x.new, x.nf⟩
theorem Ext.stay {F' H' F3 H3 : Hp} {p : Addr} {o : HO} (x3 : Ext F' H' F3 H3) (hF' : F' p = none) (hH' : H' p = some o) : F3 p = none := by
 cases qq : F3 p with
 | none => rfl
 | some u => have := x3.new p hF' (by rw [qq]; simp); rw [this] at hH'; cases hH'
theorem Rl.noB {K : W.Frag} {F H : Hp} {σ : St} {ρ : Ro} {p : Addr} (r : Rl K F H F H σ ρ) (no : NoOwn ρ) (hp : H p = none) : Rl K F (upd F p (.lst [])) F (upd H p (.lst [])) σ ρ :=
 ⟨⟨Same.refl F, r.fh.put2, r.fh.put (r.fh.free hp), fun b e n => absurd e n, fun _ _ _ z => z⟩, r.len, r.sh, fun i ds e => absurd e (no i ds).1, r.inj, fun i p ds e => absurd e ((no i ds).2 p), r.obn, r.ob1⟩
theorem yt2 {g : Tg} {c : MB} {elt : ME} {d : D} {ds acc out : List D} {ρ : Ro} (h : V4 g c elt (d :: ds) ρ acc = some out) : ∃ ρ1, tgD g d ρ = some ρ1 /\ ((c ρ1 = some false /\ V4 g c elt ds ρ1 acc = some out) \/ ∃ x, c ρ1 = some true /\ elt ρ1 = some x /\ acc.length < sizeLine /\ V4 g c elt ds ρ1 (acc ++ [x]) = some out) := by
 rw [V4] at h
 cases h2 : tgD g d ρ with
 | none => rw [h2] at h; cases h
 | some ρ1 =>
  rw [h2] at h
  simp only at h
  refine ⟨ρ1, rfl, ?_⟩
  cases h3 : c ρ1 with
  | none => rw [h3] at h; cases h
  | some k =>
   rw [h3] at h
   cases k with
   | false => exact .inl ⟨rfl, h⟩
   | true =>
    simp only at h
    cases h4 : elt ρ1 with
    | none => rw [h4] at h; cases h
    | some x =>
     rw [h4] at h
     simp only at h
     by_cases hz : acc.length < sizeLine
     ·rw [if_pos hz] at h; exact .inr ⟨x, rfl, rfl, hz, h⟩
     ·rw [if_neg hz] at h; cases h
theorem zw6 {K : PySem.W.Frag} {src : List (Option Nat)} {g : Tg} {c : MB} {elt : ME} {its out : List D} {F1 H1 : Hp} {σ : St} {ρb : Ro} {p : Addr} {J : It} {Q : VK} (f1 : Same F1 H1) (hp : H1 p = none) (rb : Rl K F1 (upd F1 p (.lst [])) F1 (upd H1 p (.lst [])) (blk0 src σ) ρb) (I : ItD K F1 J its) (e : V4 g c elt its ρb [] = some out)
  (q : ∀ xs F' H', Ext F1 H1 F' H' -> F' p = none -> H' p = some (.lst xs) -> Reps K F' xs out -> Q (.ref p) H') :
  ∃ W : Nat -> Nat -> St -> Hp -> Prop, (∃ m, W 0 m (blk0 src σ) (upd H1 p (.lst []))) /\ ∀ i m σ' H', W i m σ' H' ->
   (J.stop i H' /\ Q (.ref p) H') \/ (J.go i H' /\ ∃ N : St -> Hp -> Prop, (∀ σ2 H2, N σ2 H2 -> ∃ m', m' < m /\ W (i + 1) m' σ2 H2) /\ ∀ x H2, J.yld i H' x H2 -> TGd K g x σ' H2 fun σ3 H3 => TC K c σ3 H3 fun b H4 =>
    if b = true then TD K elt σ3 H4 fun y H5 => ∃ xs, H5 p = some (.lst xs) /\ xs.length < sizeLine /\ N σ3 (upd H5 p (.lst (xs ++ [y]))) else N σ3 H4) := by
 have hF1 : F1 p = none := f1.free hp
 refine ⟨fun i m σ' H' => ∃ F' ρ' acc xs, Rl K F1 (upd F1 p (.lst xs)) F' H' σ' ρ' /\ Ext F1 H1 F' H' /\ H' p = some (.lst xs) /\ F' p = none /\ Reps K F' xs acc /\ i <= its.length /\ m = its.length - i /\ V4 g c elt (its.drop i) ρ' acc = some out,
  ⟨_, F1, ρb, [], [], rb, (Ext.refl f1).acc hp hF1, y8, hF1, .nil, Nat.zero_le _, rfl, e⟩, ?_⟩
 clear rb e
 rintro i m σ' H' ⟨F', ρ', acc, xs, rl', xe, hH', hF', ra, hi', rfl, e'⟩
 by_cases hlt : i < its.length
 ·right
  have hd := getElem?_eq_getElem hlt
  refine ⟨I.go i F' H' xe.ff rl'.fh hlt, fun σ2 H2 => ∃ F2 ρ2 acc2 xs2, Rl K F1 (upd F1 p (.lst xs2)) F2 H2 σ2 ρ2 /\ Ext F1 H1 F2 H2 /\ H2 p = some (.lst xs2) /\ F2 p = none /\ Reps K F2 xs2 acc2 /\ V4 g c elt (its.drop (i + 1)) ρ2 acc2 = some out, ?_, fun x H2 y => ?_⟩
  ·rintro σ2 H2 ⟨F2, ρ2, acc2, xs2, b1, b2, b3, b4, b5, b6⟩
   exact ⟨its.length - (i + 1), Nat.sub_lt_sub_left hlt (Nat.lt_succ_self i), F2, ρ2, acc2, xs2, b1, b2, b3, b4, b5, hlt, rfl, b6⟩
  ·obtain ⟨F2, x2, r2⟩ := I.yld i F' H' x H2 _ xe.ff rl'.fh hd y
   rw [W1 hd] at e'
   obtain ⟨ρ1, h2, e3⟩ := yt2 e'
   clear e' I q y hd
   refine ⟨F1, _, F2, ρ', _, ρ1, rl'.go x2, r2, h2, fun F3 H3 σ3 rl3 x3 => ?_⟩
   have x23 := x2.trans x3
   rcases e3 with ⟨h3, e4⟩ | ⟨d, h3, h4, hz, e4⟩
   ·refine ⟨F1, _, F3, ρ1, false, rl3, h3, fun F4 H4 x4 => ?_⟩
    have x24 := x23.trans x4
    exact iteF ⟨F4, ρ1, acc, xs, rl3.go x4, xe.trans x24, x24.hh _ _ hH', x24.stay hF' hH', ra.mono x24.ff, e4⟩
   ·refine ⟨F1, _, F3, ρ1, true, rl3, h3, fun F4 H4 x4 => iteT ⟨F1, _, F4, ρ1, d, rl3.go x4, h4, fun v F5 H5 x5 r5 => ?_⟩⟩
    have x25 := (x23.trans x4).trans x5
    have pn := x25.stay hF' hH'
    exact ⟨xs, x25.hh _ _ hH', by rw [ra.length]; exact hz, F5, ρ1, acc ++ [d], xs ++ [v], ((rl3.go x4).go x5).rebase pn hF1, (xe.trans x25).acc hp pn, y8, pn, (ra.mono x25.ff).append (.cons r5 .nil), e4⟩
 ·left
  have hieq : i = its.length := Nat.le_antisymm hi' (Nat.le_of_not_lt hlt)
  subst hieq
  rw [drop_length] at e'
  have e' : some acc = some out := e'
  cases e'
  exact ⟨I.stop F' H' xe.ff rl'.fh, q xs F' H' xe hF' hH' ra⟩
section
variable {X : Cx} {a b c e : Expr} {ma mb : ME} {pos : Pos} {st : Stmt} {rest : List Stmt}
def PTsd (X : Cx) (ifs : List Expr) (c : MB) : Prop := PTs X ifs (TC X.K c)
def cyes : MB := fun _ => some true
theorem a7 : PTsd X [] cyes := fun pins s σ H Q I hpat => by
 obtain ⟨F0, H0, F, ρ, b, rl, e, q⟩ := hpat
 cases e
 exact zz9 pins s σ H Q I (q F H (.refl rl.fh))
theorem O5 {ca : MB} (h : PC' X c ca) : PTsd X [c] ca := xu1 h
theorem zc0 {K : W.Frag} {src : List (Option Nat)} {mi : ML} {g : Tg} {c : MB} {elt : ME} {σ : St} {H : Hp} {Q : VK} (h : TF K (V0 src mi g c elt) σ H Q) : C4 src (TId K mi) (TGd K g) (TC K c) (TD K elt) σ H Q := by
 obtain ⟨F0, H0, F, ρ, out, rl, e, q⟩ := h
 unfold V0 at e
 cases h1 : mi ρ with
 | none => rw [h1] at e; cases e
 | some its =>
  rw [h1] at e
  refine ⟨F0, H0, F, ρ, its, rl, h1, fun J F1 H1 x1 I p hp => ?_⟩
  obtain ⟨rb, no⟩ := (rl.go x1).blk src
  exact zw6 x1.fh hp (rb.noB no hp) I e fun xs F' H' xe hF' hH' ra => q p xs F' H' (x1.trans xe) (x1.hh.free hp) hF' hH' ra
theorem Q6 {sc : Scope} {N : List Str} {src : List (Option Nat)} {tg elt iter : Expr} {ifs : List Expr} {mi : ML} {g : Tg} {cc : MB} {me : ME} (B : Blk X sc N src) (hc : X.calm = true)
  (hi : PId X tg iter mi) (hg : ∀ C fp s H, PGd (Y8 X sc C N fp s H) tg g) (ht : ∀ C fp s H, PTsd (Y8 X sc C N fp s H) ifs cc) (he : ∀ C fp s H, PD (Y8 X sc C N fp s H) elt me)
  (hs : ∀ x, foldedSetIterable iter X.env x = pure x := by intro _; rfl) :
  PF X (.ListComp elt [⟨tg, iter, ifs, 0⟩] sc pos) (V0 src mi g cc me) := (zr7 (g := TGd X.K g) (tc := TC X.K cc) (te := TD X.K me) B hc hi (fun C fp s H => hg C fp s H) (fun C fp s H => ht C fp s H) (fun C fp s H => he C fp s H) hs).imp fun _ _ _ h => zc0 h
theorem xi3 {mf : ML} {σ : St} {H : Hp} {Q : VK} (h : TD X.K (mlst mf) σ H Q) : TF X.K mf σ H Q := by
 obtain ⟨F0, H0, F, ρ, d, r, e, q⟩ := h
 unfold mlst at e
 cases hm : mf ρ with
 | none => rw [hm] at e; cases e
 | some ds =>
  rw [hm] at e; cases e
  refine ⟨F0, H0, F, ρ, ds, r, hm, fun p xs F' H' x hp hF hH rs => ?_⟩
  exact q _ (upd F' p (.lst xs)) H' (x.freeze hF hp hH) (.lst (SqL.of y8) (rs.mono ((Same.refl F').put hF)))
theorem za0 {i : Nat} {src : List (Option Nat)} {mi : ML} {g : Tg} {cc : MB} {me : ME} (h : PS X st (tAsg (C4 src (TId X.K mi) (TGd X.K g) (TC X.K cc) (TD X.K me)) (V2 i))) : PSd X st (Y6 i (V0 src mi g cc me)) := xc8 h fun _ _ _ q => zc0 q
theorem yq3 {i : Nat} {src : List (Option Nat)} {mi : ML} {g : Tg} {cc : MB} {me : ME} (h : PS X st (tAsg (C4 src (TId X.K mi) (TGd X.K g) (TC X.K cc) (TD X.K me)) (V2 i))) : PSd X st (mset i (mlst (V0 src mi g cc me))) := xc9 h fun _ _ _ q => zc0 (xi3 q)
def K2 (c : MB) (body : MS) : Nat -> MS
 | 0, _ => none
 | n + 1, ρ => match c ρ with
  | some true => match body ρ with
   | some (.nx ρ2) => K2 c body n ρ2
   | some (.ct ρ2) => K2 c body n ρ2
   | some (.bk ρ2) => some (.nx ρ2)
   | o => o
  | some false => some (.nx ρ)
  | none => none
theorem yq2 {body : List Stmt} {ca : MB} {mb : MS} (n : Nat) (hp : PassesOwn (model X.prog X.w) X.A X.env X.xe) (hc : PC' X c ca) (hb : PSsd X body mb) : PSd X (.While c body [] pos) (K2 ca mb n) := (yf1 hp hc hb).imp fun Dn σ H hpat => by
 obtain ⟨F0, H0, F, ρ, o, rl, e, ok⟩ := hpat
 refine ⟨fun m σ' H' => ∃ F' ρ', Rl X.K F0 H0 F' H' σ' ρ' /\ Same F F' /\ K2 ca mb m ρ' = some o, ⟨n, F, ρ, rl, Same.refl _, e⟩, ?_⟩
 rintro m σ' H' ⟨F', ρ', rl', sf, e'⟩
 cases m with
 | zero => cases e'
 | succ m =>
  unfold K2 at e'
  cases h1 : ca ρ' with
  | none => simp only [h1] at e'; cases e'
  | some k =>
   refine ⟨F0, H0, F', ρ', k, rl', h1, fun F1 H1 x1 => ?_⟩
   cases k with
   | false =>
    simp only [h1] at e'
    cases e'
    exact iteF (ok F1 H1 σ' (rl'.go x1) (sf.trans x1.ff))
   | true =>
    simp only [h1] at e'
    refine iteT ⟨fun σ2 H2 => ∃ F2 ρ2, Rl X.K F0 H0 F2 H2 σ2 ρ2 /\ Same F F2 /\ K2 ca mb m ρ2 = some o, fun σ2 H2 ⟨F2, ρ2, a1, a2, a3⟩ => ⟨m, Nat.lt_succ_self m, F2, ρ2, a1, a2, a3⟩, ?_⟩
    cases h2 : mb ρ' with
    | none => simp only [h2] at e'; cases e'
    | some o1 =>
     simp only [h2] at e'
     refine ⟨F0, H0, F1, ρ', o1, rl'.go x1, h2, ?_⟩
     have s1 := sf.trans x1.ff
     cases o1 with
     | nx ρ2 => exact fun F4 H4 σ4 rl4 s4 => ⟨F4, ρ2, rl4, s1.trans s4, e'⟩
     | ct ρ2 => exact fun F4 H4 σ4 rl4 s4 => ⟨F4, ρ2, rl4, s1.trans s4, e'⟩
     | bk ρ2 => cases e'; exact fun F4 H4 σ4 rl4 s4 => ok F4 H4 σ4 rl4 (s1.trans s4)
     | rt d => cases e'; exact ok
     | rf d => cases e'; exact ok
     | rp d ds => cases e'; exact ok
     | rg d p r => cases e'; exact ok
     | rgf d p r => cases e'; exact ok
inductive Rt where
 | sh (d : D) | fr (ds : List D) | pr (d : D) (ds : List D)
abbrev MF := List D -> Option Rt
def okT (K : W.Frag) (F H : Hp) (Q : VK) : Rt -> Prop
 | .sh d => ∀ v F' H', Ext F H F' H' -> Rep K F' v d -> Q v H'
 | .fr ds => ∀ p xs F' H', Ext F H F' H' -> H p = none -> F' p = none -> H' p = some (.lst xs) -> Reps K F' xs ds -> Q (.ref p) H'
 | .pr d ds => ∀ t v p xs F' H', Ext F H F' H' -> H t = none -> H p = none -> t ≠ p -> F' t = none -> F' p = none -> H' t = some (.tup [v, .ref p]) -> H' p = some (.lst xs) -> Rep K F' v d -> Reps K F' xs ds -> Q (.ref t) H'
def spR (K : W.Frag) (n : Nat) (m : MF) : Sp := fun vs H Q _ => vs.length = n /\ ∃ F ds r, Same F H /\ Reps K F vs ds /\ m ds = some r /\ okT K F H Q r
def u5 (n : Nat) (ds : List D) : Ro := ds.map (fun d => some (.sh d)) ++ List.replicate (n - ds.length) none
def runB (n : Nat) (m : MS) : MF := fun ds => match m (u5 n ds) with
 | some (.nx _) => some (.sh .non)
 | some (.rt d) => some (.sh d)
 | some (.rf es) => some (.fr es)
 | some (.rp d es) => some (.pr d es)
 | _ => none
theorem B6 {K : W.Frag} {F H : Hp} {N : List Str} {vs : List V} {ds : List D} (s : Same F H) (r : Reps K F vs ds) : Rl K F H F H (start N vs) (u5 N.length ds) := by
 have get : ∀ (i : Nat) x, (u5 N.length ds)[i]? = some (some x) -> ∃ d, x = S.sh d /\ ds[i]? = some d := fun i x e => by
  unfold u5 at e
  by_cases hi : i < ds.length
  ·rw [getElem?_append_left (by simpa using hi), getElem?_map] at e
   cases q : ds[i]? with
   | none => rw [q] at e; cases e
   | some d => rw [q] at e; cases e; exact ⟨d, rfl, rfl⟩
  ·rw [getElem?_append_right (by simpa using hi), getElem?_replicate] at e
   split at e <;> cases e
 refine ⟨.refl s, ?_, fun i d e => ?_, fun i ds e => ?_, fun i j p ds es _ e => ?_, fun i p ds e => ?_, fun i j p ds es e => ?_, fun i j p q ds es e => ?_⟩
 ·unfold start u5; simp [r.length]
 ·obtain ⟨d', e1, e2⟩ := get i _ e
  cases e1
  obtain ⟨v, e3, e4⟩ := r.get e2
  have hl : i < vs.length := (List.getElem?_eq_some_iff.mp e3).1
  refine ⟨v, ?_, e4⟩
  unfold start
  rw [getElem?_append_left (by simpa using hl), getElem?_map, e3]; rfl
 ·obtain ⟨d', e1, _⟩ := get i _ e
  cases e1
 ·obtain ⟨d', e1, _⟩ := get i _ e
  cases e1
 ·obtain ⟨d', e1, _⟩ := get i _ e
  cases e1
 ·obtain ⟨d', e1, _⟩ := get i _ e
  cases e1
 ·obtain ⟨d', e1, _⟩ := get i _ e
  cases e1
theorem Fun.okD {P : Program} {w : World} {K : W.Frag} {mg : Str -> Option Value} {base : Heap} {x qual : Str} {st : Stmt} {f : Addr} {fd : FuncData} {N ps : List Str} {k : Nat} {m : MS} (Fn : Fun K x qual st f fd) (Sc : FnScope N ps (y4 st))
  (hbody : ∀ (cdv : Value) (A : Around) (outer : List Env) (s : Shared) (H : Hp) (E : XK), Room k (A.deeper (envOfC qual (y4 st) s.heap.objs.size f cdv)) -> PSsd (cxOf CX0 P w K mg base N qual (y4 st) f cdv A outer s H E).nox (b9 st) m) :
  FnOk P w K mg base CX0 (k + 1) f fd ps (spR K ps.length (runB N.length m)) := by
 refine Fn.ok Sc (fun vs H Q E h => h.1) fun cdv A outer s H vs Q E hr h => ?_
 obtain ⟨hl, F, ds, r, sf, rs, e, ok⟩ := h
 unfold runB at e
 cases h1 : m (u5 N.length ds) with
 | none => rw [h1] at e; cases e
 | some o =>
  rw [h1] at e
  refine ⟨_, hbody cdv A outer s H E hr, F, H, F, u5 N.length ds, o, B6 sf rs, h1, ?_⟩
  cases o with
  | nx ρ => cases e; exact fun F' H' σ' rl _ => ok .non F' H' rl.ext .non
  | rt d => cases e; exact ok
  | rf es => cases e; exact ok
  | rp d es => cases e; exact ok
  | rg d p r => cases e
  | rgf d p r => cases e
  | bk ρ => cases e
  | ct ρ => cases e
@[irreducible] def t7 (f : MF) (m : ML) : ME := fun ρ => (m ρ).bind fun ds => match f ds with | some (.sh d) => some d | some (.fr es) => some (.lst es) | some (.pr d es) => some (.tup [d, .lst es]) | none => none
variable {E : XK} {es : List Expr} {mf : MF} {m : ML}
theorem v5 {n : Nat} (h : ∀ t, PA X es t -> PE X e (yw3 (spR X.K n mf) [] E t)) (hl : es.length = n) (ha : PAs X es m) (hm : ∀ ρ ds, m ρ = some ds -> ds.length = es.length) : PD X e (t7 mf m) := (h _ ha).imp fun σ H Q hpat => by
 obtain ⟨F0, H0, F, ρ, d, rl, e, q⟩ := hpat
 unfold t7 at e
 cases h1 : m ρ with
 | none => rw [h1] at e; cases e
 | some ds =>
  rw [h1] at e
  refine ⟨F0, H0, F, ρ, ds, rl, h1, fun vs F1 H1 x1 r1 => ?_⟩
  dsimp only [Option.bind] at e
  show spR X.K n mf (vs ++ []) H1 Q E
  rw [append_nil]
  refine ⟨by rw [r1.length, hm ρ ds h1, hl], F1, ds, ?_⟩
  split at e
  ·rename_i d' h2
   cases e
   exact ⟨_, x1.fh, r1, h2, fun v F2 H2 x2 r2 => q v F2 H2 (x1.trans x2) r2⟩
  ·rename_i es' h2
   cases e
   exact ⟨_, x1.fh, r1, h2, fun p xs F2 H2 x2 hp hF hH r2 => q _ (upd F2 p (.lst xs)) H2 (x1.trans (x2.freeze hF hp hH)) (.lst (SqL.of y8) (r2.mono ((Same.refl F2).put hF)))⟩
  ·rename_i d' es' h2
   cases e
   refine ⟨_, x1.fh, r1, h2, fun t v p xs F2 H2 x2 ht hp hne hFt hFp hHt hHp rv rs => ?_⟩
   have x3 := x2.freeze hFp hp hHp
   have hFt' : upd F2 p (.lst xs) t = none := by rw [x6 hne]; exact hFt
   have s2 : Same F2 (upd F2 p (.lst xs)) := (Same.refl F2).put hFp
   have s3 : Same (upd F2 p (.lst xs)) (upd (upd F2 p (.lst xs)) t (.tup [v, .ref p])) := (Same.refl _).put hFt'
   exact q _ (upd (upd F2 p (.lst xs)) t (.tup [v, .ref p])) H2 (x1.trans (x3.freeze hFt' ht hHt)) (.tup (SqT.of y8) (.cons (rv.mono (s2.trans s3)) (.cons (.lst (SqL.of (by rw [x6 (Ne.symm hne)]; exact y8)) (rs.mono (s2.trans s3))) .nil)))
  ·cases e
theorem G9 (ρ : Ro) (ds : List D) (h : anil ρ = some ds) : ds.length = 0 := by cases h; rfl
theorem F6 {x : ME} {r : ML} {n : Nat} (hr : ∀ ρ ds, r ρ = some ds -> ds.length = n) (ρ : Ro) (ds : List D) (h : z8 x r ρ = some ds) : ds.length = n + 1 := by
 obtain ⟨d, es, _, h2, rfl⟩ := zs7 h
 rw [length_cons, hr ρ es h2]
end
end
section
section
variable {X : Cx} {a b c e : Expr} {ma mb : ME} {pos : Pos}
def bl2 (g : Bool -> Bool -> Bool) : D -> D -> Option D
 | .bl i, .bl j => some (.bl (g i j))
 | _, _ => none
def wz4 : List V -> Hp -> VK -> Prop := fun vs H Q => ∃ j : Int, vs = [.int j] /\ ∀ p, H p = none -> Q (.ref p) (upd H p (.rng 0 j))
theorem yj7 : zu4 X (.type "range") wz4 := by
 intro pins s σ H xs us Q I r h
 obtain ⟨j, rfl, q⟩ := h
 obtain ⟨u, rfl, t, rfl⟩ := C3 r
 refine call_range_1 ⟨.ref s.heap.objs.size, _, I.laid (o := .rng 0 j) (fun b o e => Heap.get?_push_of_some _ e) (Nat.le_refl _) ⟨_, _, _, Heap.get?_push_size _ rfl⟩, rfl, q _ I.fresh⟩
theorem zz6 {K : W.Frag} {F : Hp} : ∀ ns : List Int, Reps K F (ns.map V.int) (ns.map D.int)
 | [] => .nil
 | n :: ns => .cons (.int n) (zz6 ns)
theorem xk9 {K : W.Frag} {m : MF} (h : ∀ ns : List Int, ns.length <= 63 -> m [.lst (ns.map .int)] = some (.sh (.bl true))) (H : Hp) (a : Addr) (ns : List Int) (hl : ns.length <= 63) (hS : SqL K H a (ns.map V.int)) (E : XK) :
  spR K 1 m [.ref a] H (fun v _ => v = .bl true) E :=
 ⟨rfl, H, _, _, Same.refl H, .cons (.lst hS (zz6 ns)) .nil, h ns hl, fun v F' H' _ r => by cases r; rfl⟩
end
end
section
def xc6 (fsc : Scope) (fN : List Str) (sc : Scope) (N : List Str) (src : List (Option Nat)) : Bool :=
 (sc.kind == .function) && sc.names.all (fun y => y.2 != .cell) && sc.names.all (fun y => y.2 != .local || sc.names.lookup y.1 == some .local)
  && sc.names.all (fun y => y.2 != .free || (fsc.names.lookup y.1 == some .cell || fsc.names.lookup y.1 == some .free)) && (src.length == N.length)
  && (List.range src.length).all fun j => match src[j]? with
   | some (some i) => match N[j]? with
    | some x => fN[i]? == some x && sc.names.lookup x == some .free
    | none => false
   | _ => true
theorem d9 {X : Cx} {sc : Scope} {N : List Str} {src : List (Option Nat)} (fsc : Scope) (fN : List Str) (h1 : X.env.scope = fsc) (h2 : X.N = fN) (h : xc6 fsc fN sc N src = true) : Blk X sc N src := by
 unfold xc6 at h
 simp only [Bool.and_eq_true, all_eq_true, beq_iff_eq, Bool.or_eq_true, bne_iff_ne, ne_eq] at h
 obtain ⟨⟨⟨⟨⟨a1, a2⟩, a3⟩, a4⟩, a5⟩, a6⟩ := h
 refine ⟨a1, a2, fun y hy hk => ?_, fun y hy hk => ?_, fun j i e => ?_, a5⟩
 ·rcases a3 y hy with z | z
  ·exact absurd hk z
  ·exact z
 ·have k : ∀ x, X.env.kindOf x = fsc.names.lookup x := fun x => by rw [<- h1]; rfl
  rw [k]
  rcases a4 y hy with z | z
  ·exact absurd hk z
  ·exact z
 ·have hj : j < src.length := (List.getElem?_eq_some_iff.mp e).1
  have := a6 j (List.mem_range.mpr hj)
  rw [e] at this
  simp only at this
  cases hx : N[j]? with
  | none => rw [hx] at this; cases this
  | some x =>
   rw [hx] at this
   simp only [Bool.and_eq_true, beq_iff_eq] at this
   exact ⟨x, rfl, by rw [h2]; exact this.1, this.2⟩
end
section
theorem S5 {X : Cx} {a : Expr} {ml : ML} {lo hi : Option Expr} {l h : MO} {p2 pos : Pos} (ha : PB X a ml) (hl : POs X lo l) (hh : POs X hi h) : PF X (.Subscript a (.Slice lo hi none p2) pos) (mcut ml l h) := xi4 ha hl hh (yf3 xw0 ha hl hh)
end
section
def zipE (f : D -> D -> Option Bool) : List D -> List D -> Option Bool
 | d :: ds, e :: es => (f d e).bind fun a => (zipE f ds es).bind fun b => some (a && b)
 | _, _ => some true
def eqF : Nat -> D -> D -> Option Bool
 | 0, _, _ => none
 | n + 1, .lst ds, .lst es => if ds.length = es.length then zipE (eqF n) ds es else some false
 | n + 1, .tup ds, .tup es => (zipE (eqF n) ds es).map fun b => b && ds.length == es.length
 | _ + 1, d, e => eqS d e
theorem zr0 {f : D -> D -> Option Bool} : ∀ {ds es : List D} {k : Bool}, zipE f ds es = some k -> ∃ g : Nat -> Bool, (∀ j d e, ds[j]? = some d -> es[j]? = some e -> f d e = some (g j)) /\ k = (List.range (min ds.length es.length)).all g
 | [], es, k, h => by
  have h : some true = some k := by simpa [zipE] using h
  cases h
  exact ⟨fun _ => true, by simp, by simp⟩
 | _ :: _, [], k, h => by
  have h : some true = some k := by simpa [zipE] using h
  cases h
  exact ⟨fun _ => true, by simp, by simp⟩
 | d :: ds, e :: es, k, h => by
  unfold zipE at h
  cases h1 : f d e with
  | none => rw [h1] at h; cases h
  | some a =>
   rw [h1] at h
   cases h2 : zipE f ds es with
   | none => rw [h2] at h; cases h
   | some b =>
    rw [h2] at h
    have h : some (a && b) = some k := h
    cases h
    obtain ⟨g, q1, q2⟩ := zr0 h2
    refine ⟨fun j => match j with | 0 => a | j + 1 => g j, ?_, ?_⟩
    ·intro j d' e' hd he
     cases j with
     | zero => simp at hd he; subst hd he; exact h1
     | succ j => exact q1 j d' e' (by simpa using hd) (by simpa using he)
    ·rw [q2, length_cons, length_cons, Nat.add_min_add_right, range_succ_eq_map, all_cons, all_map]
     rfl
section
variable {X : Cx} {pins : List (Addr × Obj)} {σ : St} {H : Hp} {s : Shared}
theorem A8 {f : D -> D -> Option Bool} (hf : ∀ {v : V} {d e : D} {k : Bool}, Rep X.K H v d -> Rep X.K H v e -> f d e = some k -> k = true) : ∀ {vs : List V} {ds es : List D} {k : Bool}, Reps X.K H vs ds -> Reps X.K H vs es -> zipE f ds es = some k -> k = true
 | _, _, _, _, .nil, .nil, h => by simp [zipE] at h; exact h
 | _ :: _, d :: ds, e :: es, k, .cons r1 s1, .cons r2 s2, h => by
  unfold zipE at h
  cases h1 : f d e with
  | none => rw [h1] at h; cases h
  | some a =>
   rw [h1] at h
   cases h2 : zipE f ds es with
   | none => rw [h2] at h; cases h
   | some b =>
    rw [h2] at h
    have h : some (a && b) = some k := h
    cases h
    rw [hf r1 r2 h1, A8 hf s1 s2 h2]; rfl
theorem Rep.eqT (I : Inv X pins σ H s) : ∀ (n : Nat) {v : V} {d e : D} {k : Bool}, Rep X.K H v d -> Rep X.K H v e -> eqF n d e = some k -> k = true
 | 0, _, _, _, _, _, _, h => by simp [eqF] at h
 | n + 1, v, d, e, k, r1, r2, h => by
  cases r1 with
  | non => cases r2; simp [eqF, eqS] at h; exact h
  | bl b => cases r2; simp [eqF, eqS] at h; exact h
  | int b => cases r2; simp [eqF, eqS] at h; exact h
  | str b => cases r2; simp [eqF, eqS] at h; exact h
  | lst sq rs =>
   cases r2 with
   | lst sq2 rs2 =>
    have e := I.list_inj sq sq2
    subst e
    simp only [eqF] at h
    split at h
    ·exact A8 (fun a b c => Rep.eqT I n a b c) rs rs2 h
    ·rename_i hl; exact absurd (rs.length.symm.trans rs2.length) hl
   | _ => cases h
  | tup sq rs =>
   cases r2 with
   | tup sq2 rs2 =>
    have e := I.tuple_inj sq sq2
    subst e
    simp only [eqF] at h
    cases hz : zipE (eqF n) _ _ with
    | none => rw [hz] at h; cases h
    | some kk =>
     rw [hz] at h
     have h := Option.some.inj h
     rw [<- h, A8 (fun a b c => Rep.eqT I n a b c) rs rs2 hz, rs.length.symm.trans rs2.length]
     simp
   | _ => cases h
  | _ => cases h
open PySem.SeqAt in
theorem xc1 {K : W.Frag} {H : Hp} {A : Around} {s : Shared} {x y : V} {v u : Value} {d e : D} {k : Bool} (r1 : Rep K H x d) (r2 : Rep K H y e) (q1 : RelV x v) (q2 : RelV y u) (h : eqS d e = some k) : EqAt A s v u k /\ RcAt A s v u k /\ RcNeAt A s v u (!k) := by
 obtain ⟨k', hk'⟩ := zd4 d e k h
 rw [yt0 h r1] at q1
 rw [yt0 hk' r2] at q2
 clear r1 r2 hk'
 cases d with
 | non =>
  cases q1
  cases e with
  | non => cases q2; cases h; exact ⟨EqAt.same _, .none_none, .none_none⟩
  | bl b => cases q2; cases h; exact ⟨.none_bool _, .none_bool _, .none_bool _⟩
  | int b => obtain ⟨t, rfl⟩ := q2; cases h; exact ⟨.none_int _ _, .none_int _ _, .none_int _ _⟩
  | str b => obtain ⟨t, rfl⟩ := q2; cases h; exact ⟨.none_str _ _, .none_str _ _, .none_str _ _⟩
  | _ => cases h
 | bl i =>
  cases q1
  cases e with
  | non => cases q2; cases h; exact ⟨.bool_none _, .bool_none _, .bool_none _⟩
  | bl b => cases q2; cases h; exact ⟨.bool_bool _ _, .bool_bool _ _, .bool_bool _ _⟩
  | str b => obtain ⟨t, rfl⟩ := q2; cases h; exact ⟨.bool_str _ _ _, .bool_str _ _ _, .bool_str _ _ _⟩
  | _ => cases h
 | int i =>
  obtain ⟨t0, rfl⟩ := q1
  cases e with
  | non => cases q2; cases h; exact ⟨.int_none _ _, .int_none _ _, .int_none _ _⟩
  | int b => obtain ⟨t, rfl⟩ := q2; cases h; exact ⟨.int_int _ _ _ _, .int_int _ _ _ _, .int_int _ _ _ _⟩
  | str b => obtain ⟨t, rfl⟩ := q2; cases h; exact ⟨.int_str _ _ _ _, .int_str _ _ _ _, .int_str _ _ _ _⟩
  | _ => cases h
 | str i =>
  obtain ⟨t0, rfl⟩ := q1
  cases e with
  | non => cases q2; cases h; exact ⟨.str_none _ _, .str_none _ _, .str_none _ _⟩
  | bl b => cases q2; cases h; exact ⟨.str_bool _ _ _, .str_bool _ _ _, .str_bool _ _ _⟩
  | int b => obtain ⟨t, rfl⟩ := q2; cases h; exact ⟨.str_int _ _ _ _, .str_int _ _ _ _, .str_int _ _ _ _⟩
  | str b => obtain ⟨t, rfl⟩ := q2; cases h; exact ⟨.str_str _ _ _ _, .str_str _ _ _ _, .str_str _ _ _ _⟩
  | _ => cases h
 | _ => cases h
theorem xp3 {n : Nat} {d e : D} {k : Bool} (h : eqF (n + 1) d e = some k) : eqS d e = some k \/ (∃ ds es, d = .lst ds /\ e = .lst es /\ (if ds.length = es.length then zipE (eqF n) ds es else some false) = some k) \/ ∃ ds es kk, d = .tup ds /\ e = .tup es /\ zipE (eqF n) ds es = some kk /\ (kk && ds.length == es.length) = k := by
 cases d with
 | lst ds =>
  cases e with
  | lst es => exact .inr (.inl ⟨ds, es, rfl, rfl, h⟩)
  | _ => exact .inl h
 | tup ds =>
  cases e with
  | tup es =>
   have h : ((zipE (eqF n) ds es).map fun b => b && ds.length == es.length) = some k := h
   cases hz : zipE (eqF n) ds es with
   | none => rw [hz] at h; cases h
   | some kk => rw [hz] at h; exact .inr (.inr ⟨ds, es, kk, rfl, rfl, hz, Option.some.inj h⟩)
  | _ => exact .inl h
 | _ => exact .inl h
theorem yy4 {K : W.Frag} {H : Hp} {A : Around} {s : Shared} {n : Nat} {xs ys : List V} {ds es : List D} {its its2 : List Value} {g : Nat -> Bool} (ih : ∀ {x y : V} {v u : Value} {d e : D} {k : Bool}, Rep K H x d -> Rep K H y e -> RelV x v -> RelV y u -> eqF n d e = some k -> PySem.SeqAt.EqAt A s v u k) (rs : Reps K H xs ds) (rs2 : Reps K H ys es) (vr : Vals xs its) (vr2 : Vals ys its2)
  (g1 : ∀ (j : Nat) d e, ds[j]? = some d -> es[j]? = some e -> eqF n d e = some (g j)) (j : Nat) (h1 : j < its.toArray.size) (h2 : j < its2.toArray.size) : PySem.SeqAt.EqAt A s its.toArray[j] its2.toArray[j] (g j) := by
 have z1 : its.length = ds.length := by rw [<- vr.length, rs.length]
 have z2 : its2.length = es.length := by rw [<- vr2.length, rs2.length]
 simp only [size_toArray] at h1 h2
 obtain ⟨d', hd'⟩ : ∃ d', ds[j]? = some d' := ⟨_, getElem?_eq_getElem (z1 ▸ h1)⟩
 obtain ⟨e', he'⟩ : ∃ e', es[j]? = some e' := ⟨_, getElem?_eq_getElem (z2 ▸ h2)⟩
 obtain ⟨v', hv', rv'⟩ := rs.get hd'
 obtain ⟨u', hu', ru'⟩ := rs2.get he'
 obtain ⟨p, hp, rp⟩ := vr.get hv'
 obtain ⟨p2, hp2, rp2⟩ := vr2.get hu'
 have e1 : its.toArray[j] = p := by
  rw [getElem?_eq_getElem h1] at hp
  simpa using hp
 have e2 : its2.toArray[j] = p2 := by
  rw [getElem?_eq_getElem h2] at hp2
  simpa using hp2
 rw [e1, e2]
 exact ih rv' ru' rp rp2 (g1 j d' e' hd' he')
open PySem.SeqAt in
theorem yk8 (I : Inv X pins σ H s) : ∀ (n : Nat) {A : Around} {x y : V} {v u : Value} {d e : D} {k : Bool}, A.units + n < cLine -> Rep X.K H x d -> Rep X.K H y e -> RelV x v -> RelV y u -> eqF n d e = some k -> EqAt A s v u k /\ RcAt A s v u k /\ RcNeAt A s v u (!k)
 | 0, A, x, y, v, u, d, e, k, hu, r1, r2, q1, q2, h => by simp [eqF] at h
 | n + 1, A, x, y, v, u, d, e, k, hu, r1, r2, q1, q2, h => by
  have hu0 : A.units < cLine := by omega
  have hu1 : A.in1.units + n < cLine := by show A.units + 1 + n < cLine; omega
  rcases xp3 h with h1 | ⟨ds, es, rfl, rfl, h1⟩ | ⟨ds, es, kk, rfl, rfl, hz, hk⟩
  ·exact xc1 r1 r2 q1 q2 h1
  ·obtain ⟨a, xs, rfl, sq, rs⟩ := r1.l'
   obtain ⟨b, ys, rfl, sq2, rs2⟩ := r2.l'
   cases q1; cases q2
   obtain ⟨its, vr, ⟨o, m, ho, hc, _, hd⟩, _⟩ := I.list sq
   obtain ⟨its2, vr2, ⟨o2, m2, ho2, hc2, _, hd2⟩, _⟩ := I.list sq2
   have L1 : s.heap.IsList a its.toArray := ⟨o, ho, hc, m, hd⟩
   have L2 : s.heap.IsList b its2.toArray := ⟨o2, ho2, hc2, m2, hd2⟩
   clear ho hc hd ho2 hc2 hd2
   have z1 : its.length = ds.length := by rw [<- vr.length, rs.length]
   have z2 : its2.length = es.length := by rw [<- vr2.length, rs2.length]
   have main : RcAt A s (.ref a) (.ref b) k /\ RcNeAt A s (.ref a) (.ref b) (!k) := by
    by_cases hl : ds.length = es.length
    ·rw [if_pos hl] at h1
     obtain ⟨g, g1, g2⟩ := zr0 h1
     have he := yy4 (fun a b c d e => (yk8 I n hu1 a b c d e).1) rs rs2 vr vr2 g1
     have hz : its.toArray.size = its2.toArray.size := by simp only [size_toArray]; rw [z1, z2, hl]
     have hk : k = (List.range its.toArray.size).all g := by
      rw [g2]; simp only [size_toArray]; rw [z1, hl, Nat.min_self]
     rw [hk]
     exact ⟨.lists L1 L2 hz hu0 he, .lists L1 L2 hz hu0 he⟩
    ·rw [if_neg hl] at h1
     cases h1
     have hz : (its.toArray.size != its2.toArray.size) = true := by simp only [size_toArray]; rw [z1, z2]; exact bne_iff_ne.mpr hl
     exact ⟨.lists_lengths L1 L2 hz hu0, .lists_lengths L1 L2 hz hu0⟩
   refine ⟨?_, main⟩
   by_cases hab : a = b
   ·subst hab
    rw [Rep.eqT I (n + 1) (.lst sq rs) (.lst sq2 rs2) h]
    exact EqAt.same _
   ·exact .of_refs hab main.1
  ·obtain ⟨a, xs, rfl, sq, rs⟩ := r1.t'
   obtain ⟨b, ys, rfl, sq2, rs2⟩ := r2.t'
   cases q1; cases q2
   obtain ⟨its, vr, ⟨o, ho, hc, m, hd⟩, _⟩ := I.tuple sq
   obtain ⟨its2, vr2, ⟨o2, ho2, hc2, m2, hd2⟩, _⟩ := I.tuple sq2
   have L1 : s.heap.IsTuple a its.toArray := ⟨o, ho, hc, m, hd⟩
   have L2 : s.heap.IsTuple b its2.toArray := ⟨o2, ho2, hc2, m2, hd2⟩
   clear ho hc hd ho2 hc2 hd2
   have z1 : its.length = ds.length := by rw [<- vr.length, rs.length]
   have z2 : its2.length = es.length := by rw [<- vr2.length, rs2.length]
   have main : RcAt A s (.ref a) (.ref b) k /\ RcNeAt A s (.ref a) (.ref b) (!k) := by
    obtain ⟨g, g1, g2⟩ := zr0 hz
    have he := yy4 (fun a b c d e => (yk8 I n hu1 a b c d e).1) rs rs2 vr vr2 g1
    have hk : k = ((List.range (min its.toArray.size its2.toArray.size)).all g && its.toArray.size == its2.toArray.size) := by
     rw [<- hk, g2]; simp only [size_toArray]; rw [z1, z2]
    rw [hk]
    exact ⟨.tuples L1 L2 hu0 he, .tuples L1 L2 hu0 he⟩
   refine ⟨?_, main⟩
   by_cases hab : a = b
   ·subst hab
    rw [Rep.eqT I (n + 1) (.tup sq rs) (.tup sq2 rs2) h]
    exact EqAt.same _
   ·exact .of_refs hab main.1
end
end
section
section
variable {X : Cx} {a b c e : Expr} {ma mb : ME} {la lb : ML} {pos : Pos}
def rEqF (K : W.Frag) (neg : Bool) : R2 := fun x y H Q => ∃ d e k, Rep K H x d /\ Rep K H y e /\ eqF 8 d e = some k /\ Q (.bl (if neg then !k else k)) H
theorem xy0 (hu : X.A.units + 64 < cLine) : OpR X (compareOp .Eq) (rEqF X.K false) := by
 intro pins s σ H x y v u Q I rx ry h
 obtain ⟨d, e, k, r1, r2, h, q⟩ := h
 exact (yk8 I 8 (by omega) r1 r2 rx ry h).2.1 X.prog X.w _ _ ⟨.bl k, H, I, rfl, q⟩
theorem zy5 (hu : X.A.units + 64 < cLine) : OpR X (compareOp .NotEq) (rEqF X.K true) := by
 intro pins s σ H x y v u Q I rx ry h
 obtain ⟨d, e, k, r1, r2, h, q⟩ := h
 exact (yk8 I 8 (by omega) r1 r2 rx ry h).2.2 X.prog X.w _ _ ⟨.bl (!k), H, I, rfl, q⟩
def eqFD (neg : Bool) (d e : D) : Option D := (eqF 8 d e).map fun k => .bl (if neg then !k else k)
theorem zr9 {K : W.Frag} {neg : Bool} : OpD K (rEqF K neg) (eqFD neg) := by
 intro F H x y d e w Q s r1 r2 h q
 unfold eqFD at h
 cases hk : eqF 8 d e with
 | none => rw [hk] at h; cases h
 | some k =>
  rw [hk] at h; cases h
  exact ⟨d, e, k, r1.mono s, r2.mono s, hk, q _ F H (.refl s) (.bl _)⟩
@[irreducible] def meqB (neg : Bool) (x y : ML) : ME := fun ρ => (x ρ).bind fun ds => (y ρ).bind fun es => eqFD neg (.lst ds) (.lst es)
theorem xc2 {neg : Bool} {σ : St} {H : Hp} {Q : VK} (h : TD X.K (meqB neg la lb) σ H Q) : tOp (rEqF X.K neg) (TB X.K la) (TB X.K lb) σ H Q := by
 obtain ⟨F0, H0, F, ρ, g, rl, e, q⟩ := h
 unfold meqB at e
 cases h1 : la ρ with
 | none => rw [h1] at e; cases e
 | some ds =>
  cases h2 : lb ρ with
  | none => rw [h1, h2] at e; cases e
  | some es =>
   rw [h1, h2] at e
   have e : eqFD neg (.lst ds) (.lst es) = some g := e
   refine ⟨F0, H0, F, ρ, ds, rl, h1, fun p xs F1 H1 x1 s1 r1 => ⟨F0, H0, F1, ρ, es, rl.go x1, h2, fun p2 xs2 F2 H2 x2 s2 r2 => ?_⟩⟩
   unfold eqFD at e
   cases hk : eqF 8 (.lst ds) (.lst es) with
   | none => rw [hk] at e; cases e
   | some k =>
    rw [hk] at e; cases e
    exact ⟨_, _, k, .lst (x2.hh.seq s1) (r1.mono (x2.ff.trans x2.fh)), .lst s2 (r2.mono x2.fh), hk, q _ F2 H2 (x1.trans x2) (.bl _)⟩
theorem xh2 {op : CmpOp} {neg : Bool} (ho : OpR X (compareOp op) (rEqF X.K neg)) (ha : PB X a la) (hb : PB X b lb) (hm : behindInMarks op b = false) : PD X (.Compare a [op] [b] pos) (meqB neg la lb) := (yp4 ho ha hb hm).imp fun _ _ _ h => xc2 h
theorem za7 {op : CmpOp} {neg : Bool} (ho : OpR X (compareOp op) (rEqF X.K neg)) (ha : PB X a la) (hb : PB X b lb) (hm : behindInMarks op b = false) : PC' X (.Compare a [op] [b] pos) (v3 (meqB neg la lb)) := (zg4 ho ha hb hm).imp fun σ H Q hpat => by
 obtain ⟨F0, H0, F, ρ, g, rl, e, q⟩ := hpat
 unfold v3 at e
 split at e
 ·rename_i k hk
  cases e
  refine xc2 ⟨F0, H0, F, ρ, .bl g, rl, hk, fun v F' H' x r => ?_⟩
  cases r
  exact ⟨_, rfl, q F' H' x⟩
 ·cases e
end
end
section
section
variable {X : Cx} {a b c e k : Expr} {te : TE} {ma mb : ME} {la lb : ML} {pos p2 : Pos} {st : Stmt}
end
end
section
section
variable {X : Cx} {a b c e : Expr} {ma mb : ME} {la lb : ML} {pos : Pos} {st : Stmt}
end
end
section
section
variable {K : W.Frag} {F0 H0 F H : Hp} {σ : St} {ρ : Ro}
end
def isSc : D -> Bool
 | .lst _ => false
 | .tup _ => false
 | .exc _ => false
 | .ptr _ => false
 | .obj _ _ _ => false
 | _ => true
theorem ya6 {K : W.Frag} {F G : Hp} {v : V} {d : D} (h : isSc d = true) (r : Rep K F v d) : Rep K G v d := by
 cases r with
 | non => exact .non
 | bl b => exact .bl b
 | int i => exact .int i
 | str x => exact .str x
 | lst _ _ => cases h
 | tup _ _ => cases h
 | exc _ _ => cases h
 | ptr _ => cases h
 | obj _ _ _ _ _ => cases h
end
section
section
variable {X : Cx} {a b c e : Expr} {ma mb mz : ME} {la lb : ML} {pos : Pos}
def ixTD : D -> D -> Option D
 | .tup ds, .int k => atI ds k
 | _, _ => none
theorem xs8 {K : W.Frag} : OpD K (rIxT K) ixTD := by
 intro F H x y d e w Q s r1 r2 h q
 cases d with
 | tup ds =>
  cases e with
  | int k =>
   obtain ⟨a, xs, e1, sq, rs⟩ := r1.t'
   obtain ⟨v, h3, h4⟩ := zp8 rs (show atI _ k = some w from h)
   exact ⟨_, _, k, v, e1, r2.i', s.seqT sq, h3, q v F H (.refl s) h4⟩
  | _ => cases h
 | _ => cases h
theorem xh1 (ha : PD X a ma) (hb : PD X b mb) (hs : zv2 b := by exact fun _ _ => rfl) : PD X (.Subscript a b pos) (m2 ixTD ma mb) := (yf6 xe7 ha hb hs).imp fun σ H Q h => op_d xs8 h
def maxI : List Int -> Int
 | [] => 0
 | a :: r => r.foldl (fun x y => if y > x then y else x) a
theorem zd2 : ∀ (r : List Int) (a : Int), (r.foldl (fun x y => if y > x then y else x) a ∈ a :: r) /\ ∀ y ∈ a :: r, y <= r.foldl (fun x y => if y > x then y else x) a
 | [], a => ⟨by simp, fun y hy => by simp at hy; subst hy; exact Int.le_refl _⟩
 | b :: r, a => by
  obtain ⟨h1, h2⟩ := zd2 r (if b > a then b else a)
  rw [foldl_cons]
  refine ⟨?_, fun y hy => ?_⟩
  ·rcases List.mem_cons.mp h1 with h | h
   ·rw [h]; split <;> simp
   ·exact mem_cons_of_mem _ (mem_cons_of_mem _ h)
  ·have h0 := h2 _ mem_cons_self
   rcases List.mem_cons.mp hy with h | h
   ·subst h; refine Int.le_trans ?_ h0; split <;> omega
   ·rcases List.mem_cons.mp h with h | h
    ·subst h; refine Int.le_trans ?_ h0; split <;> omega
    ·exact h2 y (mem_cons_of_mem _ h)
theorem yy0 {ns : List Int} (h : ns ≠ []) : maxI ns ∈ ns := by
 cases ns with
 | nil => exact absurd rfl h
 | cons a r => exact (zd2 r a).1
theorem yn7 {ns : List Int} {y : Int} (h : y ∈ ns) : y <= maxI ns := by
 cases ns with
 | nil => cases h
 | cons a r => exact (zd2 r a).2 y h
theorem S0 : ∀ {ns : List Int} {its : List Value}, Vals (ns.map V.int) its -> ∃ xs : List (Int × Tok), its.toArray = intItems xs.toArray /\ xs.map (·.1) = ns
 | [], _, .nil => ⟨[], by unfold intItems; simp, rfl⟩
 | n :: ns, _, .cons r t => by
  obtain ⟨k, rfl⟩ := r
  obtain ⟨xs, h1, h2⟩ := S0 t
  refine ⟨(n, k) :: xs, ?_, by rw [map_cons, h2]⟩
  have := congrArg Array.toList h1
  unfold intItems at this ⊢
  simp at this ⊢
  exact this
theorem zm9 (xs : List (Int × Tok)) {i : Nat} (h : i < xs.length) : numAt xs.toArray i = (xs[i]).1 := by
 unfold numAt
 simp [h]
def wz5 (K : W.Frag) : List V -> Hp -> VK -> Prop := fun vs H Q => ∃ p ns, vs = [.ref p] /\ SqL K H p (ns.map V.int) /\ ns ≠ [] /\ Q (.int (maxI ns)) H
theorem yj9 (hc : X.calm = true) : zu4 X (.builtin "max") (wz5 X.K) := by
 intro pins s σ H xs us Q I r h
 obtain ⟨p, ns, rfl, sq, hne, q⟩ := h
 obtain ⟨u, rfl, rx⟩ := C3 r
 cases rx
 obtain ⟨its, vr, pl, hz⟩ := I.list sq
 obtain ⟨ts, h1, h2⟩ := S0 vr
 have hp := pl.isList
 rw [h1] at hp
 have hlen : 0 < ts.length := by
  cases ts with
  | nil => simp at h2; exact absurd h2.symm (by simpa using hne)
  | cons _ _ => simp
 refine max_intList (I.ok.hd hc) hp (by simpa using hlen) fun v h' tk e k => ?_
 obtain ⟨b1, b2⟩ := argBest_gt (numAt ts.toArray) (ts.toArray.size - 1)
 rw [size_toArray] at b1 b2 e
 generalize hi : argBest (fun i j => decide (numAt ts.toArray i > numAt ts.toArray j)) (ts.length - 1) = i at b1 b2 e
 have hil : i < ts.length := by omega
 have hv : v = Value.int (ts[i]).1 (ts[i]).2 := by
  unfold intItems at e
  simp [hil] at e
  exact e.symm
 have hm : (ts[i]).1 = maxI ns := by
  have m1 : (ts[i]).1 ∈ ns := by rw [<- h2]; exact mem_map_of_mem (getElem_mem hil)
  refine Int.le_antisymm (yn7 m1) ?_
  have m2 := yy0 hne
  rw [<- h2] at m2
  obtain ⟨t, ht, e2⟩ := List.mem_map.mp m2
  obtain ⟨j, hj, e3⟩ := getElem_of_mem ht
  have := b2 j (by omega)
  rw [zm9 ts hj, zm9 ts hil, e3, e2, h2] at this
  exact this
 subst hv
 exact ⟨.int (maxI ns), H, I.kept k, ⟨_, by rw [hm]⟩, q⟩
def L0 : List D -> Option (List Int)
 | [] => some []
 | .int i :: r => match L0 r with | some ns => some (i :: ns) | none => none
 | _ => none
theorem N1 {K : W.Frag} {F : Hp} : ∀ {vs : List V} {ds : List D} {ns : List Int}, Reps K F vs ds -> L0 ds = some ns -> vs = ns.map V.int
 | _, _, _, .nil, h => by cases h; rfl
 | _, _, _, .cons (d := d) (ds := ds) r t, h => by
  cases r with
  | int i =>
   unfold L0 at h
   cases h1 : L0 ds with
   | none => simp only [h1] at h; cases h
   | some ns => simp only [h1] at h; cases h; rw [N1 t h1]; rfl
  | _ => cases h
theorem G2 : ∀ ns : List Int, L0 (ns.map D.int) = some ns
 | [] => rfl
 | n :: ns => by show (match L0 (ns.map D.int) with | some ns => some (n :: ns) | none => none) = _; rw [G2 ns]
@[irreducible] def yn1 (m : ML) : ME := fun ρ => match m ρ with | some ds => (match L0 ds with | some (n :: ns) => some (.int (maxI (n :: ns))) | _ => none) | none => none
theorem xt7 {p : Pos} {m : ML} (hc : X.calm = true) (hg : Gl X "max") (hm : X.mg "max" = none) (ha : PB X e m) (hs : starEach (e :: []) X.env = (false, eval e X.env) :: starEach [] X.env := by rfl) (he : starEach [e] X.env = (false, eval e X.env) :: starEach [] X.env := by rfl) (hpl : (backTo pos (starEach [] X.env)).any (·.1) = false := by rfl) : PD X (.Call (.Name "max" p) [e] [] pos) (yn1 m) :=
 (O6 (yj9 hc) hg hm PyProof.Rows.boot_max (f7 ha pa_nil hs) (by decide) (by decide) he hpl).imp fun σ H Q hpat => by
  obtain ⟨F0, H0, F, ρ, g, rl, e, q⟩ := hpat
  unfold yn1 at e
  cases h1 : m ρ with
  | none => rw [h1] at e; cases e
  | some ds =>
   rw [h1] at e
   cases h2 : L0 ds with
   | none => simp only [h2] at e; cases e
   | some ns =>
    cases ns with
    | nil => simp only [h2] at e; cases e
    | cons n ns =>
     simp only [h2] at e; cases e
     refine ⟨F0, H0, F, ρ, ds, rl, h1, fun p xs F1 H1 x1 s1 r1 => ⟨p, n :: ns, rfl, ?_, by simp, q _ F1 H1 x1 (.int _)⟩⟩
     rw [<- N1 r1 h2]; exact s1
def ys5 : List (Str × Str) -> List DictEntry -> Prop
 | [], [] => True
 | (k, v) :: r, e :: es => (∃ t, e.key = .str k t) /\ (∃ t, e.val = .str v t) /\ ys5 r es
 | _, _ => False
structure KTab (w : World) (K : W.Frag) (a : Addr) (tab : List (Str × Str)) : Prop where
 ns : (a == sysModules) = false
 nd : (tab.map (·.1)).Nodup
 obj : ∃ es ep, K.lookup a = some ⟨.type "dict", none, .dict es ep, #[]⟩ /\ ys5 tab es.toList /\ ∀ e ∈ es.toList, ∀ k t, e.key = .str k t -> e.hash = hashStr w k
theorem zo5 {P : Program} {w : World} : ∀ {tab : List (Str × Str)} {es : List DictEntry}, ys5 tab es -> ∃ kvs : List (Key × Value), Pairs (zy7 P w) es kvs /\ kvs.map (·.1) = tab.map (fun p => Sum.inr p.1) /\ ∀ k, (∀ v, tab.lookup k = some v -> ∃ t, valueAt kvs (Sum.inr k) = some (.str v t)) /\ (tab.lookup k = none -> valueAt kvs (Sum.inr k) = none)
 | [], [], _ => ⟨[], .nil, rfl, fun k => ⟨fun v h => by simp at h, fun _ => rfl⟩⟩
 | [], _ :: _, h => h.elim
 | _ :: _, [], h => h.elim
 | (k, v) :: r, e :: es, ⟨⟨t1, h1⟩, ⟨t2, h2⟩, h3⟩ => by
  obtain ⟨kvs, a1, a2, a3⟩ := zo5 (P := P) (w := w) h3
  refine ⟨(Sum.inr k, .str v t2) :: kvs, .cons (by rw [h1]; exact zx3 k t1) h2 a1, by rw [map_cons, map_cons, a2], fun k' => ?_⟩
  unfold valueAt
  by_cases hk : k' = k
  ·subst hk
   refine ⟨fun v' h => ?_, fun h => ?_⟩
   ·rw [lookup_cons_self] at h; cases h
    exact ⟨t2, by simp⟩
   ·rw [lookup_cons_self] at h; cases h
  ·have hb : (k' == k) = false := by simpa using hk
   have hb2 : ¬ ((Sum.inr k : Key) = Sum.inr k') := fun z => hk (Sum.inr.inj z).symm
   obtain ⟨c1, c2⟩ := a3 k'
   refine ⟨fun v' h => ?_, fun h => ?_⟩
   ·rw [lookup_cons, hb] at h
    obtain ⟨t, ht⟩ := c1 v' h
    unfold valueAt at ht
    exact ⟨t, by simpa [hb2] using ht⟩
   ·rw [lookup_cons, hb] at h
    have := c2 h
    unfold valueAt at this
    simpa [hb2] using this
theorem KTab.dict {t : Addr} {tab : List (Str × Str)} {pins : List (Addr × Obj)} {σ : St} {H : Hp} {s : Shared} (T : KTab X.w X.K t tab) (I : Inv X pins σ H s) : ∃ kvs : List (Key × Value), s.heap.DictOf (zy7 X.prog X.w) t kvs /\ ∀ k, (∀ v, tab.lookup k = some v -> ∃ t, valueAt kvs (Sum.inr k) = some (.str v t)) /\ (tab.lookup k = none -> valueAt kvs (Sum.inr k) = none) := by
 obtain ⟨es, ep, h1, h2, h3⟩ := T.obj
 obtain ⟨kvs, a1, a2, a3⟩ := zo5 (P := X.prog) (w := X.w) h2
 refine ⟨kvs, ⟨_, es, ep, I.kIn t _ h1, ⟨rfl, rfl, rfl⟩, rfl, fun e he => ?_, a1, ?_⟩, a3⟩
 ·have key : ∀ {tab : List (Str × Str)} {es : List DictEntry}, ys5 tab es -> ∀ e ∈ es, ∃ k t, e.key = .str k t := by
   intro tab
   induction tab with
   | nil => intro es h e he; cases es with
    | nil => cases he
    | cons _ _ => exact h.elim
   | cons p r ih =>
    intro es h e he
    cases es with
    | nil => cases he
    | cons e0 es =>
     obtain ⟨⟨t1, g1⟩, _, g3⟩ := h
     rcases List.mem_cons.mp he with z | z
     ·subst z; exact ⟨_, t1, g1⟩
     ·exact ih g3 e z
  obtain ⟨k, tk, hk⟩ := key h2 e (by simpa using he)
  exact ⟨Sum.inr k, by rw [hk]; exact zx3 k tk, h3 e (by simpa using he) k tk hk⟩
 ·rw [a2]
  have := T.nd
  rw [show tab.map (fun p => (Sum.inr p.1 : Key)) = (tab.map (·.1)).map Sum.inr by rw [map_map]; rfl]
  exact List.Pairwise.map _ (fun _ _ h z => h (Sum.inr.inj z)) this
def rTab (t : Addr) (tab : List (Str × Str)) : R2 := fun x y H Q => ∃ k v, x = .ref t /\ y = .str k /\ tab.lookup k = some v /\ Q (.str v) H
theorem xe8 {t : Addr} {tab : List (Str × Str)} (T : KTab X.w X.K t tab) : IxR X (rTab t tab) := by
 intro value slice pins s σ H x y v u Q I rx ry h hs
 obtain ⟨k, z, rfl, rfl, hl, q⟩ := h
 cases rx
 obtain ⟨tk, rfl⟩ := ry
 obtain ⟨kvs, dd, hk⟩ := T.dict I
 obtain ⟨t2, hv⟩ := (hk k).1 z hl
 exact subscriptTail_builtinR (x := .str z t2) dd.typeIs slot_dict_getitem.lookup
  (wpAny_getItem_of (Q := fun r s' => r = .str z t2 /\ EP X pins σ Q r s') (zx3 k tk) dd.mapOf hv ⟨rfl, .str z, H, I.tok _, ⟨_, rfl⟩, q⟩) hs
def tabD (tab : List (Str × Str)) : D -> Option D
 | .str k => (tab.lookup k).map .str
 | _ => none
theorem xi9 {x : Str} {t : Addr} {tab : List (Str × Str)} {p : Pos} (T : KTab X.w X.K t tab) (hg : Gl X x) (hm : X.mg x = some (.ref t)) (hb : PD X b mb) (hs : zv2 b := by exact fun _ _ => rfl) (hd : (x == ("__debug__" : Str)) = false := by decide) : PD X (.Subscript (.Name x p) b pos) (m1 (tabD tab) mb) :=
 (yf6 (xe8 T) (zg7 (v := .ref t) hg hm rfl hd) hb hs).imp fun σ H Q hpat => by
  obtain ⟨F0, H0, F, ρ, g, rl, e, q⟩ := hpat
  obtain ⟨d, h1, h2⟩ := ym2 e
  refine ⟨F0, H0, F, ρ, d, rl, h1, fun v F1 H1 x1 r1 => ?_⟩
  cases r1 with
  | str k =>
   have h2 : (tab.lookup k).map D.str = some g := h2
   cases h3 : tab.lookup k with
   | none => rw [h3] at h2; cases h2
   | some z => rw [h3] at h2; cases h2; exact ⟨k, z, rfl, rfl, h3, q _ F1 H1 x1 (.str _)⟩
  | _ => cases h2
end
end
section
section
variable {prog : Program} {w : World} {A : Around} {E : Value -> Shared -> Prop} {s : Shared}
structure ApT (z TO i1 i2 l : Addr) : Prop where
 lz : l ≠ z
 lTO : l ≠ TO
 l1 : l ≠ i1
 l2 : l ≠ i2
end
end
section
section
variable {prog : Program} {w : World} {A : Around} {E : Value -> Shared -> Prop} {s : Shared}
end
section
variable {X : Cx}
end
end
section
section
variable {X : Cx} {a b c e : Expr} {ma mb : ME} {la lb : ML} {pos : Pos}
end
section
variable {K : W.Frag} {F0 H0 F H H' : Hp} {σ : St} {ρ : Ro}
end
section
variable {X : Cx} {a b c e3 : Expr} {ma mb : ME} {la lb : ML} {pos : Pos} {E : XK} {es : List Expr} {mf : MF} {m : ML} {rb : List Stmt} {mx : MS} {cc : MB} {y : D}
end
end
section
abbrev MEm := Ro -> Option (D × Ro)
abbrev MLm := Ro -> Option (List D × Ro)
def TDm (K : W.Frag) (m : MEm) : TE := fun σ H Q => ∃ F0 H0 F ρ d ρ', Rl K F0 H0 F H σ ρ /\ m ρ = some (d, ρ') /\ ∀ v F' H', Rl K F0 H0 F' H' σ ρ' -> Same F F' -> Rep K F' v d -> Q v H'
def TAm (K : W.Frag) (m : MLm) : TA := fun σ H Q => ∃ F0 H0 F ρ ds ρ', Rl K F0 H0 F H σ ρ /\ m ρ = some (ds, ρ') /\ ∀ vs F' H', Rl K F0 H0 F' H' σ ρ' -> Same F F' -> Reps K F' vs ds -> Q vs H'
def PDm (X : Cx) (e : Expr) (m : MEm) : Prop := PE X e (TDm X.K m)
def PAm (X : Cx) (es : List Expr) (m : MLm) : Prop := PA X es (TAm X.K m)
section
variable {X : Cx} {a b c e : Expr} {ma mb : ME} {na nb : MEm} {pos : Pos} {es : List Expr}
@[irreducible] def mpu (m : ME) : MEm := fun ρ => match m ρ with | some d => some (d, ρ) | none => none
@[irreducible] def apu (m : ML) : MLm := fun ρ => match m ρ with | some d => some (d, ρ) | none => none
theorem p8 (h : PD X e ma) : PDm X e (mpu ma) := h.imp fun σ H Q hpat => by
 obtain ⟨F0, H0, F, ρ, d, ρ', rl, e, q⟩ := hpat
 unfold mpu at e
 split at e
 ·rename_i d' hm; cases e; exact ⟨F0, H0, F, ρ, d, rl, hm, fun v F' H' x r => q v F' H' (rl.go x) x.ff r⟩
 ·cases e
theorem w8 {m : ML} (h : PAs X es m) : PAm X es (apu m) := h.imp fun σ H Q hpat => by
 obtain ⟨F0, H0, F, ρ, d, ρ', rl, e, q⟩ := hpat
 unfold apu at e
 split at e
 ·rename_i d' hm; cases e; exact ⟨F0, H0, F, ρ, d, rl, hm, fun v F' H' x r => q v F' H' (rl.go x) x.ff r⟩
 ·cases e
@[irreducible] def m2m (f : D -> D -> Option D) (x y : MEm) : MEm := fun ρ => match x ρ with
 | some (d, ρ1) => (match y ρ1 with | some (e, ρ2) => (match f d e with | some g => some (g, ρ2) | none => none) | none => none)
 | none => none
theorem xs4 {r : R2} {f : D -> D -> Option D} (hf : OpD X.K r f) {σ : St} {H : Hp} {Q : VK} (h : TDm X.K (m2m f na nb) σ H Q) : tOp r (TDm X.K na) (TDm X.K nb) σ H Q := by
 obtain ⟨F0, H0, F, ρ, g, ρ', rl, e, q⟩ := h
 unfold m2m at e
 split at e
 ·rename_i d ρ1 h1
  split at e
  ·rename_i d2 ρ2 h2
   split at e
   ·rename_i g' h3
    cases e
    refine ⟨F0, H0, F, ρ, d, ρ1, rl, h1, fun x F1 H1 rl1 s1 r1 => ⟨F0, H0, F1, ρ1, d2, ρ', rl1, h2, fun y F2 H2 rl2 s2 r2 => ?_⟩⟩
    exact hf F2 H2 x y d d2 g Q rl2.fh (r1.mono s2) r2 h3 fun v F' H' x3 r3 => q v F' H' (rl2.go x3) (s1.trans (s2.trans x3.ff)) r3
   ·cases e
  ·cases e
 ·cases e
theorem N8 {op : Operator} {r : R2} {f : D -> D -> Option D} (ho : OpR X (binaryOp op) r) (hf : OpD X.K r f) (ha : PDm X a na) (hb : PDm X b nb) : PDm X (.BinOp a op b pos) (m2m f na nb) := (yf4 ho ha hb).imp fun _ _ _ h => xs4 hf h
def ixLD : D -> D -> Option D
 | .lst ds, .int k => atI ds k
 | _, _ => none
theorem xs9 {K : W.Frag} : OpD K (rIxL K) ixLD := by
 intro F H x y d e w Q s r1 r2 h q
 cases d with
 | lst ds =>
  cases e with
  | int k =>
   obtain ⟨a, xs, e1, sq, rs⟩ := r1.l'
   obtain ⟨v, h3, h4⟩ := zp8 rs (show atI _ k = some w from h)
   exact ⟨_, _, k, v, e1, r2.i', s.seq sq, h3, q v F H (.refl s) h4⟩
  | _ => cases h
 | _ => cases h
theorem zm5 (ha : PDm X a na) (hb : PDm X b nb) (hs : zv2 b := by exact fun _ _ => rfl) : PDm X (.Subscript a b pos) (m2m ixLD na nb) := (yf6 ym7 ha hb hs).imp fun σ H Q h => xs4 xs9 h
@[irreducible] def l0 (x : MEm) (r : MLm) : MLm := fun ρ => match x ρ with | some (d, ρ1) => (match r ρ1 with | some (ds, ρ2) => some (d :: ds, ρ2) | none => none) | none => none
theorem g7 {m : MLm} (ha : PDm X a na) (hr : PAm X es m) (hs : starEach (a :: es) X.env = (false, eval a X.env) :: starEach es X.env := by rfl) : PAm X (a :: es) (l0 na m) := (f7 ha hr hs).imp fun σ H Q hpat => by
 obtain ⟨F0, H0, F, ρ, g, ρ', rl, e, q⟩ := hpat
 unfold l0 at e
 split at e
 ·rename_i d ρ1 h1
  split at e
  ·rename_i ds ρ2 h2
   cases e
   refine ⟨F0, H0, F, ρ, d, ρ1, rl, h1, fun x F1 H1 rl1 s1 r1 => ⟨F0, H0, F1, ρ1, ds, ρ', rl1, h2, fun xs F2 H2 rl2 s2 r2 => ?_⟩⟩
   exact q _ F2 H2 rl2 (s1.trans s2) (.cons (r1.mono s2) r2)
  ·cases e
 ·cases e
@[irreducible] def zv9 (m : MLm) : MEm := fun ρ => match m ρ with | some (ds, ρ1) => if ds.length <= sizeLine then some (.lst ds, ρ1) else none | none => none
theorem zg8 {m : MLm} (h : PAm X es m) : PDm X (.List es pos) (zv9 m) := (yp3 h).imp fun σ H Q hpat => by
 obtain ⟨F0, H0, F, ρ, g, ρ', rl, e, q⟩ := hpat
 unfold zv9 at e
 split at e
 ·rename_i ds ρ1 h1
  split at e
  ·rename_i hz
   cases e
   refine ⟨F0, H0, F, ρ, ds, ρ', rl, h1, fun vs F1 H1 rl1 s1 r1 => ⟨by rw [r1.length]; exact hz, fun p hp => ?_⟩⟩
   have x := Ext.laid (o := .lst vs) rl1.fh hp
   exact q _ _ _ (rl1.go x) (s1.trans x.ff) (.lst (SqL.of y8) (r1.mono x.ff))
  ·cases e
 ·cases e
variable {st : Stmt}
@[irreducible] def X9 (i : Nat) (x : MEm) : MS := fun ρ => match x ρ with | some (d, ρ1) => some (.nx (ρ1.set i (some (.sh d)))) | none => none
theorem U1 {i : Nat} {x : Str} {pos' : Pos} (hN : X.N.Nodup) (hi : X.N[i]? = some x) (hx : Loc X.env.scope x) (he : PDm X e na) (hs : swapsWith e (some (.Name x pos')) pos.line X.env = pure false := by rfl) (hf : X.fn x = true \/ X.env.scope.names.lookup x = some .local := by first | exact .inl rfl | exact .inr rfl | assumption) :
  PSd X (.Assign [.Name x pos'] e pos) (X9 i na) := (zt2 hN hi hx he hs hf).imp fun D σ H hpat => by
 obtain ⟨F0, H0, F, ρ, o, rl, e, ok⟩ := hpat
 unfold X9 at e
 split at e
 ·rename_i d ρ1 h1
  cases e
  exact ⟨F0, H0, F, ρ, d, ρ1, rl, h1, fun v F1 H1 rl1 s1 r1 => ok F1 H1 _ (rl1.set r1) s1⟩
 ·cases e
@[irreducible] def N4 (i : Nat) (x : MEm) : MS := fun ρ => match x ρ with
 | some (d, ρ1) => (match ρ1[i]? with | some (some (.ob p r)) => some (.rg d p r) | _ => none)
 | none => none
theorem X8 (i : Nat) (he : PDm X e na) : PSd X (.Return (some e) pos) (N4 i na) := (Q4 he).imp fun D σ H hpat => by
 obtain ⟨F0, H0, F, ρ, o, rl, e, ok⟩ := hpat
 unfold N4 at e
 split at e
 ·rename_i d ρ1 h1
  split at e
  ·rename_i p r h2
   cases e
   refine ⟨F0, H0, F, ρ, d, ρ1, rl, h1, fun v F1 H1 rl1 s1 r1 => ?_⟩
   obtain ⟨o1, o2, o3, xs, o4, o5⟩ := rl1.ob i p r h2
   exact ok v F1 H1 xs rl1.ext r1 o2 o4 o5
  ·cases e
 ·cases e
end
abbrev MG := Addr -> List D -> List D -> Option (Rt × List D)
def del (H : Hp) (p : Addr) : Hp := fun b => if b = p then none else H b
theorem N2 {H : Hp} {p : Addr} : del H p p = none := by unfold del; rw [if_pos rfl]
theorem T8 {H : Hp} {p b : Addr} (h : b ≠ p) : del H p b = H b := by unfold del; rw [if_neg h]
def okG (K : W.Frag) (F H : Hp) (p : Addr) (Q : VK) (r' : List D) : Rt -> Prop
 | .sh d => ∀ v F' H' xs, Ext F (del H p) F' H' -> Rep K F' v d -> F' p = none -> H' p = some (.lst xs) -> Reps K F' xs r' -> Q v H'
 | .fr ds => ∀ q ys F' H' xs, Ext F (del H p) F' H' -> H q = none -> F' q = none -> H' q = some (.lst ys) -> Reps K F' ys ds -> F' p = none -> H' p = some (.lst xs) -> Reps K F' xs r' -> Q (.ref q) H'
 | .pr _ _ => False
def spG (K : W.Frag) (n : Nat) (m : MG) : Sp := fun vs H Q _ => vs.length = n /\ ∃ p ws F r0 ds r r1 xs, vs = .ref p :: ws /\ H p = some (.lst xs) /\ F p = none /\ Same F H /\ Reps K F xs r0 /\ Reps K F ws ds /\ m p r0 ds = some (r, r1) /\ okG K F H p Q r1 r
def T0 (n : Nat) (p : Addr) (r : List D) (ds : List D) : Ro := some (.ob p r) :: u5 (n - 1) ds
def runG (n : Nat) (m : MS) : MG := fun p r ds => match m (T0 n p r ds) with
 | some (.rg d q r') => if q = p then some (.sh d, r') else none
 | some (.rgf es q r') => if q = p then some (.fr es, r') else none
 | _ => none
theorem zn3 {K : W.Frag} {F H : Hp} {N : List Str} {p : Addr} {xs ws : List V} {r ds : List D} (hn : 0 < N.length) (s : Same F H) (hF : F p = none) (hH : H p = some (.lst xs)) (hr : Reps K F xs r) (rs : Reps K F ws ds) : Rl K F (del H p) F H (start N (.ref p :: ws)) (T0 N.length p r ds) := by
 have e0 : start N (.ref p :: ws) = some (.ref p) :: start N.tail ws := by
  unfold start
  rw [map_cons, cons_append, length_cons, length_tail]
  congr 2
  congr 1
  omega
 have e1 : T0 N.length p r ds = some (.ob p r) :: u5 N.tail.length ds := by unfold T0; rw [length_tail]
 have base := B6 (N := N.tail) s rs
 have only : ∀ (j : Nat) x, (u5 N.tail.length ds)[j]? = some (some x) -> ∃ d, x = S.sh d := fun j x e => by
  unfold u5 at e
  by_cases hi : j < ds.length
  ·rw [getElem?_append_left (by simpa using hi), getElem?_map] at e
   cases q : ds[j]? with
   | none => rw [q] at e; cases e
   | some d => rw [q] at e; cases e; exact ⟨d, rfl⟩
  ·rw [getElem?_append_right (by simpa using hi), getElem?_replicate] at e
   split at e <;> cases e
 rw [e0, e1]
 refine ⟨⟨Same.refl F, fun b o e => ?_, s, fun b e n => absurd e n, fun _ _ _ z => z⟩, by rw [length_cons, length_cons, base.len], fun i d e => ?_, fun i es e => ?_, fun i j q es es' _ e => ?_, fun i q es e => ?_, fun i j q es es' e e2 => ?_, fun i j q q' es es' e e2 => ?_⟩
 ·by_cases hb : b = p
  ·subst hb; rw [N2] at e; cases e
  ·rw [T8 hb] at e; exact e
 ·cases i with
  | zero => cases e
  | succ i => exact base.sh i d e
 ·cases i with
  | zero => cases e
  | succ i => obtain ⟨d, z⟩ := only i _ e; cases z
 ·cases i with
  | zero => cases e
  | succ i => obtain ⟨d, z⟩ := only i _ e; cases z
 ·cases i with
  | zero => cases e; exact ⟨rfl, hF, N2, xs, hH, hr⟩
  | succ i => obtain ⟨d, z⟩ := only i _ e; cases z
 ·cases j with
  | zero => cases e2
  | succ j => obtain ⟨d, z⟩ := only j _ e2; cases z
 ·cases i with
  | zero =>
   cases j with
   | zero => rfl
   | succ j => obtain ⟨d, z⟩ := only j _ e2; cases z
  | succ i => obtain ⟨d, z⟩ := only i _ e; cases z
theorem Fun.okGl {P : Program} {w : World} {K : W.Frag} {mg : Str -> Option Value} {base : Heap} {x qual : Str} {st : Stmt} {f : Addr} {fd : FuncData} {N ps : List Str} {k : Nat} {m : MS} (Fn : Fun K x qual st f fd) (Sc : FnScope N ps (y4 st)) (hn : 0 < N.length)
  (hbody : ∀ (cdv : Value) (A : Around) (outer : List Env) (s : Shared) (H : Hp) (E : XK), Room k (A.deeper (envOfC qual (y4 st) s.heap.objs.size f cdv)) -> PSsd (cxOf CX0 P w K mg base N qual (y4 st) f cdv A outer s H E).nox (b9 st) m) :
  FnOk P w K mg base CX0 (k + 1) f fd ps (spG K ps.length (runG N.length m)) := by
 refine Fn.ok Sc (fun vs H Q E h => h.1) fun cdv A outer s H vs Q E hr h => ?_
 obtain ⟨hl, p, ws, F, r0, ds, r, r1, xs, rfl, hH, hF, sf, rx, rs, e, ok⟩ := h
 unfold runG at e
 cases h1 : m (T0 N.length p r0 ds) with
 | none => rw [h1] at e; cases e
 | some o =>
  rw [h1] at e
  refine ⟨_, hbody cdv A outer s H E hr, F, del H p, F, T0 N.length p r0 ds, o, zn3 hn sf hF hH rx rs, h1, ?_⟩
  cases o with
  | rg d q r' =>
   have e : (if q = p then some (Rt.sh d, r') else none) = some (r, r1) := e
   by_cases hq : q = p
   ·rw [if_pos hq] at e
    cases e
    subst hq
    exact fun v F' H' xs' x rv f1 h1 rr => ok v F' H' xs' x rv f1 h1 rr
   ·rw [if_neg hq] at e; cases e
  | rgf es q r' =>
   have e : (if q = p then some (Rt.fr es, r') else none) = some (r, r1) := e
   by_cases hq : q = p
   ·rw [if_pos hq] at e
    cases e
    subst hq
    exact fun q' ys F' H' xs' x h0 f0 hne hq' rq f1 h1 rr => ok q' ys F' H' xs' x (by rw [T8 hne] at h0; exact h0) f0 hq' rq f1 h1 rr
   ·rw [if_neg hq] at e; cases e
  | nx _ => cases e
  | bk _ => cases e
  | ct _ => cases e
  | rt _ => cases e
  | rf _ => cases e
  | rp _ _ => cases e
end
section
section
variable {K : W.Frag} {F0 H0 F H F' H' : Hp} {σ : St} {ρ : Ro}
theorem Ext.lent (a : Ext F0 H0 F H) {p : Addr} (h0 : H0 p = none) (x : Ext F (del H p) F' H') : Ext F0 H0 F' H' :=
 ⟨a.ff.trans x.ff, fun b o e => by
  have hb : b ≠ p := fun z => by rw [z, h0] at e; cases e
  exact x.hh b o (by rw [T8 hb]; exact a.hh b o e), x.fh, fun b e n => by
  by_cases hf : F b = none
  ·by_cases hb : b = p
   ·rw [hb]; exact h0
   ·have := x.new b hf n
    rw [T8 hb] at this
    exact a.hh.free this
  ·exact a.new b e hf, fun b o u z => a.nf b o u (x.nf b o u z)⟩
theorem Rl.lent (r : Rl K F0 H0 F H σ ρ) {i : Nat} {p : Addr} {xs : List V} {r0 r1 : List D} (h : ρ[i]? = some (some (.own r0))) (hp : σ[i]? = some (some (.ref p))) (x : Ext F (del H p) F' H') (hF : F' p = none) (hH : H' p = some (.lst xs)) (hr : Reps K F' xs r1) : Rl K F0 H0 F' H' σ (ρ.set i (some (.own r1))) := by
 obtain ⟨p', xs', a, b, c, d, z⟩ := r.own i r0 h
 rw [hp] at a; cases a
 have hl : i < ρ.length := (List.getElem?_eq_some_iff.mp h).1
 have keepF : ∀ q, q ≠ p -> F q = none -> (∃ o, H q = some o) -> F' q = none := fun q hq f hpat => by
  obtain ⟨o, ho⟩ := hpat
  cases w : F' q with
  | none => rfl
  | some u => have := x.new q f (by rw [w]; simp); rw [T8 hq, ho] at this; cases this
 have keepH : ∀ q o, q ≠ p -> H q = some o -> H' q = some o := fun q o hq ho => x.hh q o (by rw [T8 hq]; exact ho)
 have back : ∀ (j : Nat) fs, (ρ.set i (some (S.own r1)))[j]? = some (some (.own fs)) -> (j = i /\ fs = r1) \/ (i ≠ j /\ ρ[j]? = some (some (.own fs))) := fun j fs e => by
  by_cases hj : i = j
  ·subst hj; rw [getElem?_set_self hl] at e; cases e; exact .inl ⟨rfl, rfl⟩
  ·rw [getElem?_set_ne hj] at e; exact .inr ⟨hj, e⟩
 refine ⟨r.ext.lent z x, by simp [r.len], fun j d' q => ?_, fun j fs q => ?_, fun j k q fs fs' hjk e1 e2 e3 e4 => ?_, fun j q fs e1 => ?_, fun j k q fs fs' e1 e2 e3 => ?_, fun j k q q' es es' e1 e2 => r.ob1 j k q q' es es' (j9 e1).2 (j9 e2).2⟩
 ·by_cases hj : i = j
  ·subst hj; rw [getElem?_set_self hl] at q; cases q
  ·rw [getElem?_set_ne hj] at q
   obtain ⟨v, v1, v2⟩ := r.sh j d' q
   exact ⟨v, v1, v2.mono x.ff⟩
 ·rcases back j fs q with ⟨rfl, rfl⟩ | ⟨n, e⟩
  ·exact ⟨p, xs, hp, hF, hH, hr, z⟩
  ·obtain ⟨p2, xs2, a2, b2, c2, d2, z2⟩ := r.own j fs e
   have hpp : p2 ≠ p := fun w => r.inj i j p r0 fs n h e hp (by rw [<- w]; exact a2)
   exact ⟨p2, xs2, a2, keepF p2 hpp b2 ⟨_, c2⟩, keepH _ _ hpp c2, d2.mono x.ff, z2⟩
 ·have b1 : ∃ g, ρ[j]? = some (some (.own g)) := by
   rcases back j fs e1 with ⟨rfl, _⟩ | ⟨_, w⟩
   ·exact ⟨_, h⟩
   ·exact ⟨_, w⟩
  have b2 : ∃ g, ρ[k]? = some (some (.own g)) := by
   rcases back k fs' e2 with ⟨rfl, _⟩ | ⟨_, w⟩
   ·exact ⟨_, h⟩
   ·exact ⟨_, w⟩
  obtain ⟨g1, w1⟩ := b1
  obtain ⟨g2, w2⟩ := b2
  exact r.inj j k q g1 g2 hjk w1 w2 e3 e4
 ·obtain ⟨n, e1⟩ := j9 e1
  obtain ⟨o1, o2, o3, zs, o4, o5⟩ := r.ob j q fs e1
  have hpp : q ≠ p := fun w => r.obn j i q fs r0 e1 h (by rw [w]; exact hp)
  exact ⟨o1, keepF q hpp o2 ⟨_, o4⟩, o3, zs, keepH _ _ hpp o4, o5.mono x.ff⟩
 ·obtain ⟨n, e5⟩ := j9 e1
  rcases back k fs' e2 with ⟨e6, _⟩ | ⟨_, w⟩
  ·rw [e6] at e3; exact r.obn j i q fs r0 e5 h e3
  ·exact r.obn j k q fs fs' e5 w e3
theorem Rl.lentB (r : Rl K F0 H0 F H σ ρ) {i : Nat} {p : Addr} {xs : List V} {r0 r1 : List D} (h : ρ[i]? = some (some (.ob p r0))) (x : Ext F (del H p) F' H') (hF : F' p = none) (hH : H' p = some (.lst xs)) (hr : Reps K F' xs r1) : Rl K F0 H0 F' H' σ (ρ.set i (some (.ob p r1))) := by
 obtain ⟨a, b, z, xs', c, d⟩ := r.ob i p r0 h
 have hl : i < ρ.length := (List.getElem?_eq_some_iff.mp h).1
 have keepF : ∀ q, q ≠ p -> F q = none -> (∃ o, H q = some o) -> F' q = none := fun q hq f hpat => by
  obtain ⟨o, ho⟩ := hpat
  cases w : F' q with
  | none => rfl
  | some u => have := x.new q f (by rw [w]; simp); rw [T8 hq, ho] at this; cases this
 have keepH : ∀ q o, q ≠ p -> H q = some o -> H' q = some o := fun q o hq ho => x.hh q o (by rw [T8 hq]; exact ho)
 have back : ∀ (j : Nat) q fs, (ρ.set i (some (S.ob p r1)))[j]? = some (some (.ob q fs)) -> j = i /\ q = p /\ fs = r1 := fun j q fs e => by
  by_cases hj : i = j
  ·subst hj; rw [getElem?_set_self hl] at e; cases e; exact ⟨rfl, rfl, rfl⟩
  ·rw [getElem?_set_ne hj] at e; exact absurd (r.ob1 i j p q r0 fs h e) hj
 have other : ∀ (j : Nat) fs, (ρ.set i (some (S.ob p r1)))[j]? = some (some (.own fs)) -> i ≠ j /\ ρ[j]? = some (some (.own fs)) := fun j fs e => by
  by_cases hj : i = j
  ·subst hj; rw [getElem?_set_self hl] at e; cases e
  ·rw [getElem?_set_ne hj] at e; exact ⟨hj, e⟩
 refine ⟨r.ext.lent z x, by simp [r.len], fun j d' q => ?_, fun j fs q => ?_, fun j k q fs fs' hjk e1 e2 e3 e4 => r.inj j k q fs fs' hjk (other j fs e1).2 (other k fs' e2).2 e3 e4, fun j q fs e1 => ?_, fun j k q fs fs' e1 e2 e3 => ?_, fun j k q q' fs fs' e1 e2 => ?_⟩
 ·by_cases hj : i = j
  ·subst hj; rw [getElem?_set_self hl] at q; cases q
  ·rw [getElem?_set_ne hj] at q
   obtain ⟨v, v1, v2⟩ := r.sh j d' q
   exact ⟨v, v1, v2.mono x.ff⟩
 ·obtain ⟨n, e⟩ := other j fs q
  obtain ⟨p2, xs2, a2, b2, c2, d2, z2⟩ := r.own j fs e
  have hpp : p2 ≠ p := fun w => r.obn i j p r0 fs h e (by rw [<- w]; exact a2)
  exact ⟨p2, xs2, a2, keepF p2 hpp b2 ⟨_, c2⟩, keepH _ _ hpp c2, d2.mono x.ff, z2⟩
 ·obtain ⟨e2, e3, e4⟩ := back j q fs e1
  subst e2 e3 e4
  exact ⟨a, hF, z, xs, hH, hr⟩
 ·obtain ⟨e4, e5, _⟩ := back j q fs e1
  subst e4 e5
  exact r.obn j k q r0 fs' h (other k fs' e2).2 e3
 ·rw [(back j q fs e1).1, (back k q' fs' e2).1]
end
open Classical in
noncomputable def anyP {α : Type} (f : Addr -> Option α) : Option α := if h : ∃ x, ∀ p, f p = some x then some (Classical.choose h) else none
theorem yi8 {α : Type} {f : Addr -> Option α} {x : α} (h : anyP f = some x) : ∀ p, f p = some x := by
 unfold anyP at h
 split at h
 ·rename_i hx
  cases h
  exact Classical.choose_spec hx
 ·cases h
theorem xn2 {α : Type} {f : Addr -> Option α} {x : α} (h : ∀ p, f p = some x) : anyP f = some x := by
 unfold anyP
 have hx : ∃ x, ∀ p, f p = some x := ⟨x, h⟩
 rw [dif_pos hx]
 have := Classical.choose_spec hx 0
 rw [h 0] at this
 exact this.symm
def rtD : Rt -> Option D
 | .sh d => some d
 | .fr es => some (.lst es)
 | .pr _ _ => none
@[irreducible] noncomputable def w4 (f : MG) (i : Nat) (m : MLm) : MEm := fun ρ => match ρ[i]? with
 | some (some (.own _)) => (match m ρ with
  | some (ds, ρ1) => (match ρ1[i]? with
   | some (some (.own r0)) => (match anyP (fun p => f p r0 ds) with
    | some (t, r1) => (match rtD t with | some d => some (d, ρ1.set i (some (.own r1))) | none => none)
    | none => none)
   | _ => none)
  | none => none)
 | some (some (.ob _ _)) => (match m ρ with
  | some (ds, ρ1) => (match ρ1[i]? with
   | some (some (.ob p r0)) => (match f p r0 ds with
    | some (t, r1) => (match rtD t with | some d => some (d, ρ1.set i (some (.ob p r1))) | none => none)
    | none => none)
   | _ => none)
  | none => none)
 | _ => none
theorem t4 {m : ML} {n : Nat} (h : ∀ ρ ds, m ρ = some ds -> ds.length = n) (ρ : Ro) (ds : List D) (ρ' : Ro) (e : apu m ρ = some (ds, ρ')) : ds.length = n := by
 unfold apu at e
 split at e
 ·rename_i d hm; cases e; exact h ρ _ hm
 ·cases e
theorem yt5 {x : MEm} {r : MLm} {n : Nat} (hr : ∀ ρ ds ρ', r ρ = some (ds, ρ') -> ds.length = n) (ρ : Ro) (ds : List D) (ρ' : Ro) (h : l0 x r ρ = some (ds, ρ')) : ds.length = n + 1 := by
 unfold l0 at h
 split at h
 ·rename_i d ρ1 h1
  split at h
  ·rename_i ds' ρ2 h2; cases h; rw [length_cons, hr ρ1 ds' _ h2]
  ·cases h
 ·cases h
section
variable {X : Cx} {e : Expr} {pos : Pos} {es : List Expr} {E : XK} {mf : MG} {m : MLm}
theorem w6 {n i : Nat} {x : Str} {px : Pos} (h : ∀ t, PA X (.Name x px :: es) t -> PE X e (yw3 (spG X.K n mf) [] E t)) (hl : es.length + 1 = n) (hv : PE X (.Name x px) (tVar i)) (ha : PAm X es m) (hm : ∀ ρ ds ρ', m ρ = some (ds, ρ') -> ds.length = es.length)
  (hs : starEach (.Name x px :: es) X.env = (false, eval (.Name x px) X.env) :: starEach es X.env := by rfl) : PDm X e (w4 mf i m) := (h _ (f7 hv ha hs)).imp fun σ H Q hpat => by
 obtain ⟨F0, H0, F, ρ, d, ρ', rl, e, q⟩ := hpat
 unfold w4 at e
 split at e
 ·rename_i r00 h0
  obtain ⟨p, xs, a1, a2, a3, a4, a5⟩ := rl.own i r00 h0
  split at e
  ·rename_i ds ρ1 h1
   split at e
   ·rename_i r0 h2
    split at e
    ·rename_i t r1 h3
     split at e
     ·rename_i d' h4
      cases e
      have h3 := yi8 h3
      refine ⟨_, a1, F0, H0, F, ρ, ds, ρ1, rl, h1, fun vs F1 H1 rl1 s1 rv => ?_⟩
      obtain ⟨p', ys, b1, b2, b3, b4, b5⟩ := rl1.own i r0 h2
      rw [a1] at b1; cases b1
      show spG X.K n mf ((.ref p :: vs) ++ []) H1 Q E
      rw [append_nil]
      refine ⟨by rw [length_cons, rv.length, hm ρ ds ρ1 h1, hl], p, vs, F1, r0, ds, t, r1, ys, rfl, b3, b2, rl1.fh, b4, rv, h3 p, ?_⟩
      cases t with
      | sh g =>
       cases h4
       exact fun v F' H' zs x rg f1 g1 rz => q v F' H' (rl1.lent h2 a1 x f1 g1 rz) (s1.trans x.ff) rg
      | fr gs =>
       cases h4
       intro w zs F' H' us x hw fw hw' rw' f1 g1 rz
       have hne : w ≠ p := fun z => by rw [z, b3] at hw; cases hw
       have rl2 := rl1.lent h2 a1 x f1 g1 rz
       have fz : Ext F' H' (upd F' w (.lst zs)) H' -> True := fun _ => True.intro
       have x2 : Ext F1 (del H1 p) (upd F' w (.lst zs)) H' := x.freeze fw (by rw [T8 hne]; exact hw) hw'
       have s2 : Same F' (upd F' w (.lst zs)) := (Same.refl F').put fw
       exact q _ (upd F' w (.lst zs)) H' (rl1.lent h2 a1 x2 (by rw [x6 (Ne.symm hne)]; exact f1) g1 (rz.mono s2)) (s1.trans x2.ff) (.lst (SqL.of y8) (rw'.mono s2))
      | pr _ _ => cases h4
     ·cases e
    ·cases e
   ·cases e
  ·cases e
 ·rename_i p00 r00 h0
  obtain ⟨a1, a2, a5, xs, a3, a4⟩ := rl.ob i p00 r00 h0
  split at e
  ·rename_i ds ρ1 h1
   split at e
   ·rename_i p r0 h2
    split at e
    ·rename_i t r1 h3
     split at e
     ·rename_i d' h4
      cases e
      refine ⟨_, a1, F0, H0, F, ρ, ds, ρ1, rl, h1, fun vs F1 H1 rl1 s1 rv => ?_⟩
      obtain ⟨b1, b2, b5, ys, b3, b4⟩ := rl1.ob i p r0 h2
      rw [a1] at b1; cases b1
      show spG X.K n mf ((.ref p00 :: vs) ++ []) H1 Q E
      rw [append_nil]
      refine ⟨by rw [length_cons, rv.length, hm ρ ds ρ1 h1, hl], p00, vs, F1, r0, ds, t, r1, ys, rfl, b3, b2, rl1.fh, b4, rv, h3, ?_⟩
      cases t with
      | sh g =>
       cases h4
       exact fun v F' H' zs x rg f1 g1 rz => q v F' H' (rl1.lentB h2 x f1 g1 rz) (s1.trans x.ff) rg
      | fr gs =>
       cases h4
       intro w zs F' H' us x hw fw hw' rw' f1 g1 rz
       have hne : w ≠ p00 := fun z => by rw [z, b3] at hw; cases hw
       have x2 : Ext F1 (del H1 p00) (upd F' w (.lst zs)) H' := x.freeze fw (by rw [T8 hne]; exact hw) hw'
       have s2 : Same F' (upd F' w (.lst zs)) := (Same.refl F').put fw
       exact q _ (upd F' w (.lst zs)) H' (rl1.lentB h2 x2 (by rw [x6 (Ne.symm hne)]; exact f1) g1 (rz.mono s2)) (s1.trans x2.ff) (.lst (SqL.of y8) (rw'.mono s2))
      | pr _ _ => cases h4
     ·cases e
    ·cases e
   ·cases e
  ·cases e
 ·cases e
end
end
section
section
variable {X : Cx} {a b c e : Expr} {ma mb : ME} {pos : Pos}
end
end
section
def LtAt (A : Around) (s : Shared) (v u : Value) (k : Bool) : Prop := ∀ (prog : Program) (w : World) (E : Value -> Shared -> Prop) (Q : Value -> Shared -> Prop), Q (.bool k) s -> wpAny (model prog w) A (richCompare .Lt v u) Q E s
def yt7 (A : Around) (s : Shared) : List Value -> List Value -> Bool -> Prop
 | [], [], k => k = false
 | [], _ :: _, k => k = true
 | _ :: _, [], k => k = false
 | y :: ys, x :: xs, k => ∃ e, SeqAt.EqAt A s y x e /\ ((e = true /\ yt7 A s ys xs k) \/ (e = false /\ LtAt A s y x k))
section
open PySem.SeqAt
open PySem.AutoSeq1 (wpAny_loadPart')
open PySem.MeetsSeq PySem.MeetsSeq2 PySem.MeetsSeq3
set_option maxHeartbeats 4000000 in
theorem xm8 (l b : Addr) (items items2 : Array Value) (n n2 : Nat) (dd dd2 : Option Addr) (sl sl2 : Array (Option Value)) (k : Bool) :
  Meets (Builtin.«tuple.__lt__» ⟨[.ref l, .ref b], []⟩)
   (fun A R s => s.heap.get? l = some { cls := .type "tuple", dict := dd, data := .seq items n, slots := sl } /\ s.heap.get? b = some { cls := .type "tuple", dict := dd2, data := .seq items2 n2, slots := sl2 } /\
    yt7 A.in1 s items.toList items2.toList k /\ R (.ok (.ret (.bool k))) s) :=
 .of_wp fun prog w A R s h => by
  obtain ⟨hp, g, d, tk, os⟩ := s; obtain ⟨hl, hb, hx, h⟩ := h
  have f2 := AutoSeq1.sub_tuple_tuple
  wp_walk using wpAny_loadPart' hl, wpAny_loadPart' hb, wpAny_forIn_list _ (fun rest b s' => b.1 = none /\ s' = ⟨hp, g, d, tk, os⟩ /\ ∃ (vs ws : List Value), rest = vs.zip ws /\
   vs.length + items2.size = ws.length + items.size /\ yt7 A.in1 ⟨hp, g, d, tk, os⟩ vs ws k) _
  case turn =>
   rintro ⟨y, x⟩ rest b s' ⟨hb', rfl, vs, ws, hz, hlen, hL⟩
   cases vs with
   | nil => rw [zip_nil_left] at hz; cases hz
   | cons a vs =>
    cases ws with
    | nil => rw [zip_nil_right] at hz; cases hz
    | cons c ws =>
     rw [zip_cons_cons] at hz
     injection hz with hyx hrest
     injection hyx with hy hx'
     subst hy hx'
     simp only [length_cons] at hlen
     obtain ⟨e, he, hL⟩ := hL
     refine wpAny_bind (he prog w _ _ ?_)
     rcases hL with ⟨rfl, hL⟩ | ⟨rfl, hL⟩
     ·wp_walk
      exact ⟨rfl, rfl, vs, ws, hrest, by omega, hL⟩
     ·have hri := hL prog w
      wp_walk using hri
      exact ⟨_, rfl, by simpa using h⟩
  case fin =>
   rintro ⟨b1, b2⟩ s' ⟨hb', rfl, vs, ws, hz, hlen, hL⟩
   simp only at hb'
   subst hb'
   have hv : k = decide (items.size < items2.size) := by
    cases vs with
    | nil =>
     cases ws with
     | nil =>
      simp only [length_nil] at hlen
      rw [show k = false from hL]
      exact (decide_eq_false (by omega)).symm
     | cons c ws =>
      simp only [length_nil, length_cons] at hlen
      rw [show k = true from hL]
      exact (decide_eq_true (by omega)).symm
    | cons a vs =>
     cases ws with
     | nil =>
      simp only [length_nil, length_cons] at hlen
      rw [show k = false from hL]
      exact (decide_eq_false (by omega)).symm
     | cons c ws =>
      rw [zip_cons_cons] at hz
      cases hz
   rw [hv] at h
   wp_walk
   exact ⟨_, rfl, by simpa [Builtin.Tuple.tupleCompareSizes] using h⟩
  case h =>
   exact ⟨rfl, rfl, items.toList, items2.toList, rfl, by simp; omega, hx⟩
set_option maxHeartbeats 4000000 in
theorem ze5 (l b : Addr) (items items2 : Array Value) (n n2 : Nat) (dd dd2 : Option Addr) (sl sl2 : Array (Option Value)) (r : Bool) (k : Nat) :
  ∀ i : Nat, items.size - i = k -> i <= items.size -> i <= items2.size -> Meets (Builtin.«list.__eq__.loop» ⟨[.ref l, .ref b, rawInt i, rawInt 0], []⟩)
   (fun A R s => s.heap.get? l = some { cls := .type "list", dict := dd, data := .seq items n, slots := sl } /\ s.heap.get? b = some { cls := .type "list", dict := dd2, data := .seq items2 n2, slots := sl2 } /\
    yt7 A.in1 s (items.toList.drop i) (items2.toList.drop i) r /\ R (.ok (.ret (.bool r))) s) := by
 induction k with
 | zero =>
  intro i hk h1 h2 prog w A R s h
  obtain ⟨hp, g, d, tk, os⟩ := s; obtain ⟨hl, hb, hx, h⟩ := h
  wp_walk using wpAny_loadPart' hl, wpAny_loadPart' hb
  have hi1 : items[((i : Nat) : Int).toNat]? = none := by simp; omega
  have e1 : items.toList.drop i = [] := drop_eq_nil_of_le (by simp; omega)
  rw [e1] at hx
  have hr : r = decide (items.size < items2.size) := by
   cases e2 : items2.toList.drop i with
   | nil =>
    rw [e2] at hx
    have : items2.size <= i := by simpa using e2
    rw [show r = false from hx]
    exact (decide_eq_false (by omega)).symm
   | cons c ws =>
    rw [e2] at hx
    have : i < items2.size := by
     rcases Nat.lt_or_ge i items2.size with z | z
     ·exact z
     ·rw [drop_eq_nil_of_le (by simpa using z)] at e2; cases e2
    rw [show r = true from hx]
    exact (decide_eq_true (by omega)).symm
  rw [hi1]
  wp_walk using wpAny_loadPart' hl, wpAny_loadPart' hb
  rw [hr] at h
  exact h
 | succ k ih =>
  intro i hk h1 h2 prog w A R s h
  obtain ⟨hp, g, d, tk, os⟩ := s; obtain ⟨hl, hb, hx, h⟩ := h
  have hlt : i < items.size := by omega
  have hi1 : items[((i : Nat) : Int).toNat]? = some items[i] := by simp [hlt]
  have e1 : items.toList.drop i = items[i] :: items.toList.drop (i + 1) := by rw [drop_eq_getElem_cons (by simpa using hlt)]; simp
  have hc : ((i : Int) + 1) = ((i + 1 : Nat) : Int) := by push_cast; rfl
  rw [e1] at hx
  by_cases hlt2 : i < items2.size
  ·have hi2 : items2[((i : Nat) : Int).toNat]? = some items2[i] := by simp [hlt2]
   have e2 : items2.toList.drop i = items2[i] :: items2.toList.drop (i + 1) := by rw [drop_eq_getElem_cons (by simpa using hlt2)]; simp
   rw [e2] at hx
   obtain ⟨e, he, hx⟩ := hx
   wp_walk using wpAny_loadPart' hl, wpAny_loadPart' hb
   rw [hi1, hi2]
   refine wpAny_bind (he prog w _ _ ?_)
   rcases hx with ⟨rfl, hx⟩ | ⟨rfl, hx⟩
   ·wp_walk
    rw [hc]
    exact ⟨plainId_quiet plain_eq_loop _, codeAny_builtin entry_eq_loop (by
     rw [Around.under_plainId plain_eq_loop _]
     exact ih (i + 1) (by omega) (by omega) (by omega) prog w A R _ ⟨hl, hb, hx, h⟩)⟩
   ·have hri := hx prog w
    wp_walk using wpAny_loadPart' hl, wpAny_loadPart' hb
    rw [hi1, hi2]
    wp_walk using hri
    exact h
  ·have hi2 : items2[((i : Nat) : Int).toNat]? = none := by simp; omega
   have e2 : items2.toList.drop i = [] := drop_eq_nil_of_le (by simp; omega)
   rw [e2] at hx
   have hr : r = decide (items.size < items2.size) := by
    rw [show r = false from hx]
    exact (decide_eq_false (by omega)).symm
   wp_walk using wpAny_loadPart' hl, wpAny_loadPart' hb
   rw [hi1, hi2]
   wp_walk using wpAny_loadPart' hl, wpAny_loadPart' hb
   rw [hr] at h
   exact h
set_option maxHeartbeats 4000000 in
theorem xe0 (l b : Addr) (items items2 : Array Value) (n n2 : Nat) (dd dd2 : Option Addr) (sl sl2 : Array (Option Value)) (r : Bool) :
  Meets (Builtin.«list.__lt__» ⟨[.ref l, .ref b], []⟩)
   (fun A R s => s.heap.get? l = some { cls := .type "list", dict := dd, data := .seq items n, slots := sl } /\ s.heap.get? b = some { cls := .type "list", dict := dd2, data := .seq items2 n2, slots := sl2 } /\
    yt7 A.in1 s items.toList items2.toList r /\ R (.ok (.ret (.bool r))) s) := by
 intro prog w A R s h
 obtain ⟨hp, g, d, tk, os⟩ := s; obtain ⟨hl, hb, hx, h⟩ := h
 have f3 := AutoSeq1.sub_list_list
 wp_walk using wpAny_loadPart' hl, wpAny_loadPart' hb
 exact ⟨plainId_quiet plain_eq_loop _, codeAny_builtin entry_eq_loop (by
  rw [Around.under_plainId plain_eq_loop _]
  exact ze5 l b items items2 n n2 dd dd2 sl sl2 r _ 0 rfl (Nat.zero_le _) (Nat.zero_le _) prog w A R _ ⟨hl, hb, by simpa using hx, h⟩)⟩
end
def lexF (eq lt : D -> D -> Option Bool) : List D -> List D -> Option Bool
 | [], [] => some false
 | [], _ :: _ => some true
 | _ :: _, [] => some false
 | d :: ds, e :: es => match eq d e with
  | some true => lexF eq lt ds es
  | some false => lt d e
  | none => none
def ltF : Nat -> D -> D -> Option Bool
 | 0, _, _ => none
 | n + 1, .lst ds, .lst es => lexF (eqF n) (ltF n) ds es
 | n + 1, .tup ds, .tup es => lexF (eqF n) (ltF n) ds es
 | _ + 1, .int i, .int j => some (decide (i < j))
 | _ + 1, _, _ => none
section
variable {X : Cx} {pins : List (Addr × Obj)} {σ : St} {H : Hp} {s : Shared}
theorem ym5 (I : Inv X pins σ H s) (n : Nat) {A : Around} (hu : A.units + n < cLine) (ih : ∀ {x y : V} {v u : Value} {d e : D} {k : Bool}, Rep X.K H x d -> Rep X.K H y e -> RelV x v -> RelV y u -> ltF n d e = some k -> LtAt A s v u k) :
  ∀ {xs ys : List V} {vs us : List Value} {ds es : List D} {k : Bool}, Reps X.K H xs ds -> Reps X.K H ys es -> Vals xs vs -> Vals ys us -> lexF (eqF n) (ltF n) ds es = some k -> yt7 A s vs us k
 | _, _, _, _, _, _, k, .nil, .nil, .nil, .nil, h => by cases h; exact rfl
 | _, _, _, _, _, _, k, .nil, .cons _ _, .nil, .cons _ _, h => by cases h; exact rfl
 | _, _, _, _, _, _, k, .cons _ _, .nil, .cons _ _, .nil, h => by cases h; exact rfl
 | _, _, _, _, _, _, k, .cons (d := d) r1 t1, .cons (d := e) r2 t2, .cons q1 p1, .cons q2 p2, h => by
  unfold lexF at h
  cases hq : eqF n d e with
  | none => rw [hq] at h; cases h
  | some b =>
   rw [hq] at h
   refine ⟨b, (yk8 I n hu r1 r2 q1 q2 hq).1, ?_⟩
   cases b with
   | true => exact .inl ⟨rfl, ym5 I n hu ih t1 t2 p1 p2 h⟩
   | false => exact .inr ⟨rfl, ih r1 r2 q1 q2 h⟩
theorem xq1 (I : Inv X pins σ H s) : ∀ (n : Nat) {A : Around} {x y : V} {v u : Value} {d e : D} {k : Bool}, A.units + n < cLine -> Rep X.K H x d -> Rep X.K H y e -> RelV x v -> RelV y u -> ltF n d e = some k -> LtAt A s v u k
 | 0, A, x, y, v, u, d, e, k, hu, r1, r2, q1, q2, h => by simp [ltF] at h
 | n + 1, A, x, y, v, u, d, e, k, hu, r1, r2, q1, q2, h => by
  have hu0 : A.units < cLine := by omega
  have hu1 : A.in1.units + n < cLine := by show A.units + 1 + n < cLine; omega
  cases d with
  | int i =>
   cases e with
   | int j =>
    obtain rfl := r1.i'
    obtain rfl := r2.i'
    obtain ⟨t, rfl⟩ := q1
    obtain ⟨t', rfl⟩ := q2
    cases h
    exact fun prog w E Q hQ => HT.rcLt_int A s i t j t' prog w E Q hQ
   | _ => cases h
  | lst ds1 =>
   cases e with
   | lst ds2 =>
    obtain ⟨a1, xs1, rfl, sq, rs⟩ := r1.l'
    obtain ⟨a2, xs2, rfl, sq2, rs2⟩ := r2.l'
    cases q1; cases q2
    obtain ⟨its, vr, ⟨⟨cls, dd, data, sl⟩, m, ho, hc, hdd, hd⟩, _⟩ := I.list sq
    obtain ⟨its2, vr2, ⟨⟨cls2, dd2, data2, sl2⟩, m2, ho2, hc2, hdd2, hd2⟩, _⟩ := I.list sq2
    simp only at hc hd hc2 hd2
    subst hc hd hc2 hd2
    have L := ym5 I n hu1 (fun a b c d e => xq1 I n hu1 a b c d e) rs rs2 vr vr2 (show lexF (eqF n) (ltF n) _ _ = some k from h)
    intro prog w E Q hQ
    exact richCompare_meets_room (op := .Lt) ⟨_, ho, rfl⟩ ⟨_, ho2, rfl⟩ PySem.F.slot_list_lt PySem.F.entry_list_lt (PySem.F.args_list_lt_2 _ _) (xe0 _ _ its.toArray its2.toArray m m2 dd dd2 sl sl2 k)
     ⟨ho, ho2, by simpa using L, show Value.bool k ≠ Value.notImplemented /\ Q (.bool k) s from ⟨(fun x => nomatch x), hQ⟩⟩ hu0
   | _ => cases h
  | tup ds1 =>
   cases e with
   | tup ds2 =>
    obtain ⟨a1, xs1, rfl, sq, rs⟩ := r1.t'
    obtain ⟨a2, xs2, rfl, sq2, rs2⟩ := r2.t'
    cases q1; cases q2
    obtain ⟨its, vr, ⟨⟨cls, dd, data, sl⟩, ho, hc, m, hd⟩, _⟩ := I.tuple sq
    obtain ⟨its2, vr2, ⟨⟨cls2, dd2, data2, sl2⟩, ho2, hc2, m2, hd2⟩, _⟩ := I.tuple sq2
    simp only at hc hd hc2 hd2
    subst hc hd hc2 hd2
    have L := ym5 I n hu1 (fun a b c d e => xq1 I n hu1 a b c d e) rs rs2 vr vr2 (show lexF (eqF n) (ltF n) _ _ = some k from h)
    intro prog w E Q hQ
    exact richCompare_meets_room (op := .Lt) ⟨_, ho, rfl⟩ ⟨_, ho2, rfl⟩ PySem.F.slot_tuple_lt PySem.F.entry_tuple_lt (PySem.F.args_tuple_lt_2 _ _) (xm8 _ _ its.toArray its2.toArray m m2 dd dd2 sl sl2 k)
     ⟨ho, ho2, by simpa using L, show Value.bool k ≠ Value.notImplemented /\ Q (.bool k) s from ⟨(fun x => nomatch x), hQ⟩⟩ hu0
   | _ => cases h
  | _ => cases h
end
end
section
def yt8 (X : Cx) (kv : Value) (mk : D -> Option D) : Prop := ∀ (pins : List (Addr × Obj)) (σ : St) (H F : Hp) (s : Shared) (x : V) (u : Value) (d kd : D), Inv X pins σ H s -> Same F H -> Rep X.K F x d -> RelV x u -> mk d = some kd ->
 wpAny (model X.prog X.w) X.A.in1 (call kv [u]) (fun w s' => ∃ y F' H', Inv X pins σ H' s' /\ RelV y w /\ Ext F H F' H' /\ Rep X.K F' y kd) (fun _ _ => False) s
def shOf : Option Rt -> Option D
 | some (.sh d) => some d
 | some (.fr es) => some (.lst es)
 | _ => none
theorem yy3 {X : Cx} {k : Nat} {f : Addr} {fd : FuncData} {p : Str} {m : MF} (F : FnOk X.prog X.w X.K X.mg X.base CX0 k f fd [p] (spR X.K 1 m)) (hr : Room k X.A.in1) (hb : Binds X.K fd [p] []) : yt8 X (.ref f) (fun d => shOf (m [d])) := by
 intro pins σ H Fh s x u d kd I sf r rx hm
 have hm : shOf (m [d]) = some kd := hm
 have sp : spR X.K 1 m [x] H (fun v H' => ∃ F', Ext Fh H F' H' /\ Rep X.K F' v kd) E0 := by
  cases h : m [d] with
  | none => rw [h] at hm; cases hm
  | some t =>
   rw [h] at hm
   cases t with
   | sh g => cases hm; exact ⟨rfl, Fh, [d], _, sf, .cons r .nil, h, fun v F' H' x' r' => ⟨F', x', r'⟩⟩
   | fr gs => cases hm; exact ⟨rfl, Fh, [d], _, sf, .cons r .nil, h, fun q xs F' H' x' hp hF hH rs => ⟨upd F' q (.lst xs), x'.freeze hF hp hH, .lst (SqL.of y8) (rs.mono ((Same.refl F').put hF))⟩⟩
   | pr _ _ => cases hm
 have e0 := I.env0
 have env : Env0 X.prog X.w X.K X.mg X.base X.A.in1 X.stack s H := ⟨e0.frames, e0.mod, e0.bs, e0.bsz, e0.funs, e0.frf, e0.hok, e0.bare⟩
 refine wpAny_call (codeAny_mono (F.run X.A.in1 X.stack s H ⟨[u], []⟩ [u] [x] _ E0 hr env (hb s [u] I.kIn rfl) (.cons rx .nil) sp) fun r s' hq => ?_)
 cases r with
 | error e => exact hq.elim
 | ok fl =>
  cases fl with
  | ret v =>
   obtain ⟨y, H', I', ry, F', x', r'⟩ := I.after hq
   exact ⟨y, F', H', I', ry, x', r'⟩
  | next => exact hq.elim
  | brk => exact hq.elim
  | cont => exact hq.elim
def minF (mk : D -> Option D) : List D -> D -> D -> Option D
 | [], b, _ => some b
 | d :: ds, b, kb => match mk d with
  | some kd => (match ltF 8 kd kb with | some true => minF mk ds d kd | some false => minF mk ds b kb | none => none)
  | none => none
section
variable {X : Cx} {pins : List (Addr × Obj)} {σ : St}
theorem FpOk.now {H H' : Hp} {b : Addr} (h : FpOk X pins H b) (hn : H' b = none) : FpOk X pins H' b := ⟨hn, h.2⟩
theorem Inv.pin2 {H : Hp} {s : Shared} {a b : Addr} {oa ob : Obj} (I : Inv X pins σ H s) (ha : FpOk X pins H a) (hb : FpOk X pins H b) (ea : s.heap.get? a = some oa) (eb : s.heap.get? b = some ob) (da : ∀ v, oa.data ≠ .cell v) (db : ∀ v, ob.data ≠ .cell v) : Inv X (pins ++ [(a, oa), (b, ob)]) σ H s :=
 I.pins_of fun p hp => by
  rcases List.mem_append.mp hp with hp | hp
  ·exact I.pin p (mem_append_right _ hp)
  ·simp only [mem_cons, not_mem_nil, or_false] at hp
   rcases hp with rfl | rfl
   ·exact ⟨ea, ha.1, ha.2.1, ha.2.2.1, da⟩
   ·exact ⟨eb, hb.1, hb.2.1, hb.2.2.1, db⟩
set_option maxHeartbeats 8000000 in
theorem yz5 {q : Addr} {mk : D -> Option D} (hk : yt8 X (.ref q) mk) (hc : X.calm = true) (hu : X.A.units + 64 < cLine) {l I S : Addr} {xs : List V} {ds : List D} {kw : List (Str × Value)} {dm : D} (hIS : I ≠ S) (hlI : l ≠ I) (hlS : l ≠ S) :
  ∀ (r j : Nat) (H F H0 F0 : Hp) (s : Shared) (xb yb : V) (vb kb : Value) (db kdb : D) (c : Nat) (R : Result -> Shared -> Prop),
   ds.length - (j + 1) = r -> j + 1 <= ds.length -> Inv X pins σ H s -> Ext F0 H0 F H -> SqL X.K H l xs -> Reps X.K F xs ds -> s.heap.IsListIter I l (j + 1) -> s.heap.get? S = some (seqObj "list" #[vb, kb] c) -> FpOk X pins H I -> FpOk X pins H S ->
   RelV xb vb -> Rep X.K F xb db -> RelV yb kb -> Rep X.K F yb kdb -> minF mk (ds.drop (j + 1)) db kdb = some dm ->
   (∀ x v F' H' s', Inv X pins σ H' s' -> RelV x v -> Ext F0 H0 F' H' -> Rep X.K F' x dm -> R (.ok (.ret v)) s') ->
   codeAny (model X.prog X.w) X.A (.builtin "min.loop" ⟨[.ref I, .ref q, .ref S], kw⟩) R s := by
 have hname : (toString "min" ++ toString ".loop" : String) = "min.loop" := by decide
 intro r
 induction r with
 | zero =>
  intro j H F H0 F0 s xb yb vb kb db kdb c R hr hj I' ext sq rs hit hS fI fS rb pb ry py hm hR
  have hin : j + 1 = ds.length := by omega
  obtain ⟨its, vr, pl, _⟩ := I'.list sq
  have zl : its.length = ds.length := by rw [<- vr.length, rs.length]
  rw [hin, drop_length] at hm
  have hm : some db = some dm := hm
  cases hm
  refine codeAny_builtin PySem.F.entry_min_loop ?_
  rw [Around.under_plainId PySem.F.plain_min_loop _]
  show wpAny _ X.A.in1 (seqItems? (.ref S) >>= _) _ _ _
  refine wpAny_bind (wpAny_seqItems hS rfl ?_)
  show wpAny _ X.A.in1 (tryCatch (pyNext (.ref I)) _ >>= _) _ _ _
  refine wpAny_bind (wpAny_tryCatch (wpAny_pyNext_list_end (I'.ok.hd hc) hit pl.isList (by simp; omega) fun h' hk' => ?_))
  have hS' : h'.get? S = some (seqObj "list" #[vb, kb] c) := hk' S _ (Ne.symm hIS) hS
  have s1 := Heap.SameBut.update h' S (Obj.mapSeq fun _ => (#[] : Array Value))
  show wpAny _ X.A.in1 (updateSeq S (fun _ => #[]) >>= _) _ _ _
  refine wpAny_bind ?_
  refine wpAny_updateSeq hS' rfl (wpAny_bind (wpAny_letGo (wpAny_pure ?_)))
  have I9 : Inv X pins σ H { s with heap := h'.update S (Obj.mapSeq fun _ => (#[] : Array Value)), toks := s.toks } := I'.turnedL (fp := [I, S]) (t' := s.toks) (fun b o hb e => by
   simp only [mem_cons, not_mem_nil, or_false, not_or] at hb
   exact (s1.2 b hb.2).trans (hk' b o hb.1 e)) (fun b hb => by
   simp only [mem_cons, not_mem_nil, or_false] at hb
   rcases hb with rfl | rfl <;> assumption)
  exact hR xb vb F H _ I9 rb ext pb
 | succ r ih =>
  intro j H F H0 F0 s xb yb vb kb db kdb c R hr hj I' ext sq rs hit hS fI fS rb pb ry py hm hR
  have hlt : j + 1 < ds.length := by omega
  obtain ⟨its, vr, pl, _⟩ := I'.list sq
  have zl : its.length = ds.length := by rw [<- vr.length, rs.length]
  obtain ⟨d, hd⟩ : ∃ d, ds[j + 1]? = some d := ⟨_, getElem?_eq_getElem hlt⟩
  obtain ⟨x, hx, px⟩ := rs.get hd
  obtain ⟨v, hv, rx⟩ := vr.get hx
  rw [W1 hd] at hm
  unfold minF at hm
  cases hkd : mk d with
  | none => rw [hkd] at hm; cases hm
  | some kd =>
   rw [hkd] at hm
   dsimp only at hm
   refine codeAny_builtin PySem.F.entry_min_loop ?_
   rw [Around.under_plainId PySem.F.plain_min_loop _]
   show wpAny _ X.A.in1 (seqItems? (.ref S) >>= _) _ _ _
   refine wpAny_bind (wpAny_seqItems hS rfl ?_)
   show wpAny _ X.A.in1 (tryCatch (pyNext (.ref I)) _ >>= _) _ _ _
   refine wpAny_bind (wpAny_tryCatch (wpAny_pyNext_list_item hit pl.isList (by simpa using hv) fun h1 hit1 s1 => ?_))
   have I1 : Inv X pins σ H { s with heap := h1, toks := s.toks } := I'.turnedL (fp := [I]) (fun b o hb e => s1.extBut b o (by simpa using hb) e) (fun b hb => by rw [List.mem_singleton.mp hb]; exact fI)
   have hS1 : h1.get? S = some (seqObj "list" #[vb, kb] c) := s1.extBut _ _ (Ne.symm hIS) hS
   obtain ⟨oI, eI, cI, dI⟩ := id hit1
   have Ip := I1.pin2 fI fS eI hS1 (fun v z => by rw [dI] at z; cases z) (fun v z => by cases z)
   show wpAny _ X.A.in1 (tryCatch (holding [v] (call (.ref q) [v])) _ >>= _) _ _ _
   refine wpAny_bind (wpAny_tryCatch (wpAny_holding (wpAny_mono (hk (pins ++ [(I, oI), (S, seqObj "list" #[vb, kb] c)]) σ H F _ x v d kd Ip ext.fh px rx hkd) (fun w s2 hw => ?_) fun _ _ z => z.elim)))
   obtain ⟨y, F2, H2, I2, rw2, x2, py2⟩ := hw
   have pI := I2.pin (I, oI) (by simp)
   have pS := I2.pin (S, seqObj "list" #[vb, kb] c) (by simp)
   have I2' : Inv X pins σ H2 s2 := I2.unpinned
   have fI2 : FpOk X pins H2 I := fI.now pI.2.1
   have fS2 : FpOk X pins H2 S := fS.now pS.2.1
   have hit2 : s2.heap.IsListIter I l (j + 1 + 1) := ⟨oI, pI.1, cI, dI⟩
   cases hlt8 : ltF 8 kd kdb with
   | none => rw [hlt8] at hm; cases hm
   | some bt =>
    rw [hlt8] at hm
    have hcmp := xq1 I2' 8 (A := X.A.in1) (by show X.A.units + 1 + 8 < cLine; omega) (py2.mono x2.fh) ((py.mono x2.ff).mono x2.fh) rw2 ry hlt8
    show wpAny _ X.A.in1 (tryCatch (holding [v, w] (richCompare .Lt w kb >>= _)) _ >>= _) _ _ _
    refine wpAny_bind (wpAny_tryCatch (wpAny_holding (wpAny_bind (hcmp X.prog X.w _ _ ?_))))
    refine wpAny_bind (wpAny_holding (wpAny_truthy_bool ?_))
    refine wpAny_bind (wpAny_letGo (wpAny_pure ?_))
    cases bt with
    | true =>
     have s3 := Heap.SameBut.update s2.heap S (Obj.mapSeq fun _ => #[v, w])
     obtain ⟨c2, hc2⟩ : ∃ c2, (s2.heap.update S (Obj.mapSeq fun _ => #[v, w])).get? S = some (seqObj "list" #[v, w] c2) := ⟨_, get?_update_seq pS.1 fun _ => #[v, w]⟩
     simp only [if_true]
     refine wpAny_bind ?_
     refine wpAny_updateSeq pS.1 rfl (wpAny_bind (wpAny_letGo ?_))
     rw [hname]
     have I3 : Inv X pins σ H2 { s2 with heap := s2.heap.update S (Obj.mapSeq fun _ => #[v, w]), toks := s2.toks } := I2'.turnedL (fp := [S]) (fun b o hb e => (s3.2 b (by simpa using hb)).trans e) (fun b hb => by rw [List.mem_singleton.mp hb]; exact fS2)
     refine wpAny_pure ⟨plainId_quiet PySem.F.plain_min_loop _, ih (j + 1) H2 F2 H0 F0 _ x y v w d kd c2 R (by omega) hlt I3 (ext.trans x2) (x2.hh.seq sq) (rs.mono x2.ff) ⟨oI, (s3.2 I hIS).trans pI.1, cI, dI⟩ hc2 fI2 fS2 rx (px.mono x2.ff) rw2 py2 hm hR⟩
    | false =>
     simp only [Bool.false_eq_true, if_false]
     refine wpAny_bind (wpAny_letGo ?_)
     rw [hname]
     refine wpAny_pure ⟨plainId_quiet PySem.F.plain_min_loop _, ih (j + 1) H2 F2 H0 F0 _ xb yb vb kb db kdb c R (by omega) hlt I2' (ext.trans x2) (x2.hh.seq sq) (rs.mono x2.ff) hit2 pS.1 fI2 fS2 rb (pb.mono x2.ff) ry (py.mono x2.ff) hm hR⟩
end
end
section
theorem zc7 (a v u : Value) : argsOk "min" ⟨[a], [(Str.ofString "key", v), (Str.ofString "default", u)]⟩ := by unfold argsOk; kernel_rfl
def minD (mk : D -> Option D) (ds : List D) (d0 : D) : Option D := match ds with
 | [] => some d0
 | d :: ds => (match mk d with | some kd => minF mk ds d kd | none => none)
section
variable {X : Cx} {pins : List (Addr × Obj)} {σ : St}
set_option maxHeartbeats 8000000 in
theorem xr4 {q : Addr} {mk : D -> Option D} (hk : yt8 X (.ref q) mk) (hc : X.calm = true) (hu : X.A.units + 64 < cLine) {l : Addr} {xs : List V} {ds : List D} {dm d0 : D} {H F : Hp} {s : Shared} {x0 : V} {v0 : Value} {E : Value -> Shared -> Prop} {Q : Value -> Shared -> Prop}
  (I : Inv X pins σ H s) (sf : Same F H) (sq : SqL X.K H l xs) (rs : Reps X.K F xs ds) (r0 : RelV x0 v0) (p0 : Rep X.K F x0 d0) (hm : minD mk ds d0 = some dm)
  (hQ : ∀ x v F' H' s', Inv X pins σ H' s' -> RelV x v -> Ext F H F' H' -> Rep X.K F' x dm -> Q v s') :
  wpAny (model X.prog X.w) X.A (call (.builtin "min") [.ref l] [(Str.ofString "key", .ref q), (Str.ofString "default", v0)]) Q E s := by
 have hname : (toString "min" ++ toString ".loop" : String) = "min.loop" := by decide
 obtain ⟨its, vr, pl, _⟩ := I.list sq
 have hls := pl.isList
 obtain ⟨ol, hol, _⟩ := id hls
 have hll : l < s.heap.objs.size := Heap.lt_size hol
 refine kmk_tree PySem.F.kind_min PySem.F.plain_min PySem.F.entry_min (zc7 _ _ _) ?_
 show wpAny _ X.A.in1 (Builtin.Builtins.bindParams "min" ["key", "default"] 0 ⟨[], [(Str.ofString "key", .ref q), (Str.ofString "default", v0)]⟩ >>= _) _ _ s
 refine wpAny_bind (wpAny_of_eq (show Builtin.Builtins.bindParams "min" ["key", "default"] 0 ⟨[], [(Str.ofString "key", .ref q), (Str.ofString "default", v0)]⟩ = pure [some (.ref q), some v0] from rfl) ?_)
 refine wpAny_bind (wpAny_pure ?_)
 refine wpAny_bind (wpAny_pyIter_list hls ?_)
 refine wpAny_bind (wpAny_newList ?_ (Nat.zero_le _))
 rw [hname]
 refine wpAny_pure ⟨plainId_quiet PySem.F.plain_min_loop _, ?_⟩
 generalize hIo : ({ cls := .type "list_iterator", data := .fields #[.ref l, .int 0 0] } : Obj) = oI0
 have hS : (s.heap.push oI0).objs.size = s.heap.objs.size + 1 := size_push' ..
 have hlI : l ≠ s.heap.objs.size := Nat.ne_of_lt hll
 have hlS : l ≠ (s.heap.push oI0).objs.size := by rw [hS]; exact Nat.ne_of_lt (Nat.lt_succ_of_lt hll)
 have hIS : s.heap.objs.size ≠ (s.heap.push oI0).objs.size := by rw [hS]; exact Nat.ne_of_lt (Nat.lt_succ_self _)
 have gI : ((s.heap.push oI0).push (seqObj "list" #[] 0)).get? s.heap.objs.size = some oI0 := Heap.get?_push_of_some _ (Heap.get?_push_size _ (by rw [<- hIo]; rfl))
 have gS : ((s.heap.push oI0).push (seqObj "list" #[] 0)).get? (s.heap.push oI0).objs.size = some (seqObj "list" #[] 0) := Heap.get?_push_size _ rfl
 have fI : FpOk X pins H s.heap.objs.size := I.fpOk (Nat.le_refl _) (I.hok.fresh (Nat.le_refl _))
 have fS : FpOk X pins H (s.heap.push oI0).objs.size := I.fpOk (by rw [hS]; exact Nat.le_succ _) (I.hok.fresh (by rw [hS]; exact Nat.le_succ _))
 have I0 : Inv X pins σ H { s with heap := (s.heap.push oI0).push (seqObj "list" #[] 0), toks := s.toks } := I.turnedL (fp := []) (fun b o _ e => Heap.get?_push_of_some _ (Heap.get?_push_of_some _ e)) (fun b hb => by cases hb)
 generalize (s.heap.push oI0).objs.size = S at *
 generalize hI : s.heap.objs.size = J at *
 generalize (s.heap.push oI0).push (seqObj "list" #[] 0) = h0 at *
 have hit : h0.IsListIter J l 0 := ⟨_, gI, by rw [<- hIo], by rw [<- hIo]; rfl⟩
 have zl : its.length = ds.length := by rw [<- vr.length, rs.length]
 obtain ⟨its', vr', pl', _⟩ := I0.list sq
 have zl' : its'.length = ds.length := by rw [<- vr'.length, rs.length]
 refine codeAny_builtin PySem.F.entry_min_loop ?_
 rw [Around.under_plainId PySem.F.plain_min_loop _]
 show wpAny _ X.A.in1 (seqItems? (.ref S) >>= _) _ _ _
 refine wpAny_bind (wpAny_seqItems gS rfl ?_)
 show wpAny _ X.A.in1 (tryCatch (pyNext (.ref J)) _ >>= _) _ _ _
 cases ds with
 | nil =>
  have hm : some d0 = some dm := hm
  cases hm
  refine wpAny_bind (wpAny_tryCatch (wpAny_pyNext_list_end (I.ok.hd hc) hit pl'.isList (by simp at zl' ⊢; simp [zl']) fun h' hk' => ?_))
  refine wpAny_bind (wpAny_rule (wpAny_pure ?_))
  have I9 := I0.turnedL (h' := h') (fp := [J]) (t' := s.toks) (fun b o hb e => hk' b o (by simpa using hb) e) (fun b hb => by rw [List.mem_singleton.mp hb]; exact fI)
  exact hQ x0 v0 F H _ I9 r0 (Ext.refl sf) p0
 | cons d ds =>
  obtain ⟨x, hx, px⟩ := rs.get (i := 0) (d := d) rfl
  obtain ⟨v, hv, rx⟩ := vr'.get hx
  unfold minD at hm
  dsimp only at hm
  cases hkd : mk d with
  | none => rw [hkd] at hm; cases hm
  | some kd =>
   rw [hkd] at hm
   dsimp only at hm
   refine wpAny_bind (wpAny_tryCatch (wpAny_pyNext_list_item hit pl'.isList (by simpa using hv) fun h1 hit1 s1 => ?_))
   have I1 := I0.turnedL (h' := h1) (t' := s.toks) (fp := [J]) (fun b o hb e => s1.extBut b o (by simpa using hb) e) (fun b hb => by rw [List.mem_singleton.mp hb]; exact fI)
   have hS1 : h1.get? S = some (seqObj "list" #[] 0) := s1.extBut _ _ (Ne.symm hIS) gS
   obtain ⟨oI, eI, cI, dI⟩ := id hit1
   have Ip := I1.pin2 fI fS eI hS1 (fun v z => by rw [dI] at z; cases z) (fun v z => by cases z)
   show wpAny _ X.A.in1 (tryCatch (holding [v] (call (.ref q) [v])) _ >>= _) _ _ _
   refine wpAny_bind (wpAny_tryCatch (wpAny_holding (wpAny_mono (hk (pins ++ [(J, oI), (S, seqObj "list" #[] 0)]) σ H F _ x v d kd Ip sf px rx hkd) (fun w s2 hw => ?_) fun _ _ z => z.elim)))
   obtain ⟨y, F2, H2, I2, rw2, x2, py2⟩ := hw
   have pI := I2.pin (J, oI) (by simp)
   have pS := I2.pin (S, seqObj "list" #[] 0) (by simp)
   have I2' : Inv X pins σ H2 s2 := I2.unpinned
   have fI2 : FpOk X pins H2 J := fI.now pI.2.1
   have fS2 : FpOk X pins H2 S := fS.now pS.2.1
   have s3 := Heap.SameBut.update s2.heap S (Obj.mapSeq fun _ => #[v, w])
   obtain ⟨c2, hc2⟩ : ∃ c2, (s2.heap.update S (Obj.mapSeq fun _ => #[v, w])).get? S = some (seqObj "list" #[v, w] c2) := ⟨_, get?_update_seq pS.1 fun _ => #[v, w]⟩
   show wpAny _ X.A.in1 (updateSeq S (fun _ => #[v, w]) >>= _) _ _ _
   refine wpAny_bind (wpAny_updateSeq pS.1 rfl ?_)
   rw [hname]
   have I3 : Inv X pins σ H2 { s2 with heap := s2.heap.update S (Obj.mapSeq fun _ => #[v, w]), toks := s2.toks } := I2'.turnedL (fp := [S]) (fun b o hb e => (s3.2 b (by simpa using hb)).trans e) (fun b hb => by rw [List.mem_singleton.mp hb]; exact fS2)
   refine wpAny_pure ⟨plainId_quiet PySem.F.plain_min_loop _, yz5 hk hc hu (ds := d :: ds) (dm := dm) hIS hlI hlS _ 0 H2 F2 H F _ x y v w d kd c2 _ rfl (by simp) I3 x2 (x2.hh.seq sq) (rs.mono x2.ff) ⟨oI, (s3.2 J hIS).trans pI.1, cI, dI⟩ hc2 fI2 fS2 rx (px.mono x2.ff) rw2 py2 hm fun x v F' H' s' a b c d => hQ x v F' H' s' a b c d⟩
@[irreducible] def yv4 (mk : D -> Option D) (m : ML) (md : ME) : ME := fun ρ => (m ρ).bind fun ds => (md ρ).bind fun d0 => minD mk ds d0
theorem yv3 {mk : D -> Option D} {m : ML} {md : ME} {ρ : Ro} {g : D} (h : yv4 mk m md ρ = some g) : ∃ ds d0, m ρ = some ds /\ md ρ = some d0 /\ minD mk ds d0 = some g := by
 unfold yv4 at h
 cases h1 : m ρ with
 | none => rw [h1] at h; cases h
 | some d =>
  cases h2 : md ρ with
  | none => rw [h1, h2] at h; cases h
  | some e => rw [h1, h2] at h; exact ⟨d, e, rfl, rfl, h⟩
theorem yd0 {mk : D -> Option D} {m : ML} {md : ME} {ρ : Ro} {ds : List D} {d0 : D} (h1 : m ρ = some ds) (h2 : md ρ = some d0) : yv4 mk m md ρ = minD mk ds d0 := by
 unfold yv4
 rw [h1, h2]; rfl
theorem xt6 {q : Addr} {mk : D -> Option D} {x : Str} {p pf kp kp2 pos : Pos} {e ed : Expr} {m : ML} {md : ME} (hk : yt8 X (.ref q) mk) (hc : X.calm = true) (hu : X.A.units + 64 < cLine) (hg : Gl X "min") (hm : X.mg "min" = none) (hgf : Gl X x) (hmf : X.mg x = some (.ref q)) (ha : PB X e m) (hd : PD X ed md)
  (hdb : (x == ("__debug__" : Str)) = false := by decide) (hs : starEach (e :: []) X.env = (false, eval e X.env) :: starEach [] X.env := by rfl) :
  PD X (.Call (.Name "min" p) [e] [⟨some "key", .Name x pf, kp⟩, ⟨some "default", ed, kp2⟩] pos) (yv4 mk m md) := by
 intro pins s σ H Q I h
 obtain ⟨F0, H0, F, ρ, g, rl, em, q0⟩ := h
 obtain ⟨ds, d0, h1, h2, h3⟩ := yv3 em
 refine wpAny_Call_Name_kw (G0 I hg hm PyProof.Rows.boot_min ?_ (by decide) (by decide))
 have A := f7 ha pa_nil hs pos pins s σ H (fun vs H1 => ∃ p xs F1, vs = [.ref p] /\ Ext F H F1 H1 /\ SqL X.K H1 p xs /\ Reps X.K F1 xs ds) I ⟨F0, H0, F, ρ, ds, rl, h1, fun p xs F1 H1 x1 s1 r1 => ⟨p, xs, F1, rfl, x1, s1, r1⟩⟩
 refine callWith_kw (thn A fun us s1 hpat => ?_) (by rw [hs]; rfl) (by rw [hs]; rfl)
 obtain ⟨vs, H1, I1, r1, p, xs, F1, ev, x1, sq, rs⟩ := hpat
 subst ev
 obtain ⟨u, rfl, ru⟩ := C3 r1
 cases ru
 have B := zr6 (nm := some "key") (kpos := kp) (zg7 (v := .ref q) (pos := pf) hgf hmf rfl hdb) (zr6 (nm := some "default") (kpos := kp2) hd yq8) pos pins s1 σ H1 (fun vs H2 => ∃ y F2, vs = [.ref q, y] /\ Ext F1 H1 F2 H2 /\ Rep X.K F2 y d0) I1 ⟨F0, H0, F1, ρ, d0, rl.go x1, h2, fun y F2 H2 x2 r2 => ⟨y, F2, rfl, x2, r2⟩⟩
 refine thn B fun us s2 hpat => ?_
 obtain ⟨vs, H2, I2, r2, y, F2, ev, x2, p0⟩ := hpat
 subst ev
 obtain ⟨u1, u2, rfl, ru1, ru2⟩ := xx3 r2
 cases ru1
 exact xr4 hk hc hu I2 x2.fh (x2.hh.seq sq) (rs.mono x2.ff) ru2 p0 h3 fun x v F' H' s' I' rx x3 px => ⟨x, H', I', rx, q0 x F' H' ((x1.trans x2).trans x3) px⟩
end
end
section
section
variable {prog : Program} {w : World} {A : Around} {E : Value -> Shared -> Prop} {s : Shared}
theorem C5 : isSubtype (.type "range_iterator") (.type "reversed") = pure false := by rw [isSubtype_type]; kernel_rfl
def zn4 (x left step : Int) : Obj := { cls := .type "range_iterator", dict := none, data := .fields #[rawInt x, rawInt left, rawInt step], slots := #[] }
theorem L6 {l : Addr} {j : Int} {t u v : Tok} {Q : Value -> Shared -> Prop} (hl : IsRange s.heap l 0 j 1 t u v) (h1 : -(2 ^ 62) <= j) (h2 : j < 2 ^ 62)
  (h : Q (.ref s.heap.objs.size) { s with heap := s.heap.push (zn4 ((j.toNat : Int) - 1) j.toNat (-1)) }) : wpAny (model prog w) A (call (.builtin "range.__reversed__") [.ref l]) Q E s := by
 have hT : s.TypeIs (.ref l) "range" := ⟨_, hl, rfl⟩
 refine wpAny_call_entry F.slot_range_reversed hT F.entry_range_reversed ?_ (F.args_range_reversed_1 _)
 have hsz : Builtin.Range.rangeSize 0 j 1 = (j.toNat : Int) := by rw [rangeSize_one]; split <;> omega
 unfold Builtin.«range.__reversed__»
 refine wpAny_bind (wpAny_of_eq (a := Value.ref l) rfl ?_)
 unfold Builtin.Range.rangeFields
 refine wpAny_bind ?_
 refine wpAny_bind (wpAny_field hl rfl (x := .int 0 t) rfl ?_)
 refine wpAny_bind (wpAny_of_eq (a := some (0 : Int)) rfl ?_)
 refine wpAny_bind (wpAny_field hl rfl (x := .int j u) rfl ?_)
 refine wpAny_bind (wpAny_of_eq (a := some j) rfl ?_)
 refine wpAny_bind (wpAny_field hl rfl (x := .int 1 v) rfl ?_)
 refine wpAny_bind (wpAny_of_eq (a := some (1 : Int)) rfl ?_)
 refine wpAny_pure ?_
 dsimp only
 rw [hsz]
 have hsm : (Builtin.Range.rangeFitsLong 0 && Builtin.Range.rangeFitsLong j && Builtin.Range.rangeFitsLong 1 && Builtin.Range.rangeFitsLong (-1) && Builtin.Range.rangeFitsLong (0 - 1) && Builtin.Range.rangeFitsLong (j.toNat : Int)) = true := by
  simp only [Builtin.Range.rangeFitsLong, Bool.and_eq_true, decide_eq_true_eq]
  omega
 simp only [hsm, Bool.not_true, Bool.false_eq_true, if_false, if_true]
 have e : (0 : Int) + ((j.toNat : Int) - 1) * 1 = (j.toNat : Int) - 1 := by omega
 rw [e]
 exact wpAny_bind (wpAny_newObj_type (wpAny_pure ⟨_, rfl, h⟩))
theorem G6 {l : Addr} {j : Int} {t u v : Tok} {Q₁ : Value -> Shared -> Prop} (hl : IsRange s.heap l 0 j 1 t u v) (h1 : -(2 ^ 62) <= j) (h2 : j < 2 ^ 62)
  (h : Q₁ (.ref s.heap.objs.size) { s with heap := s.heap.push (zn4 ((j.toNat : Int) - 1) j.toNat (-1)) }) :
  codeAny (model prog w) A (.call (.builtin "reversed.__new__") ⟨[.type "reversed", .ref l], []⟩) (wants Q₁ E) s := by
 have hT : s.TypeIs (.ref l) "range" := ⟨_, hl, rfl⟩
 refine codeAny_of_tree ?_
 show wpAny _ A.in1 (do checkBuiltinCall "reversed.__new__" ⟨[.type "reversed", .ref l], []⟩; again (.builtin "reversed.__new__" ⟨[.type "reversed", .ref l], []⟩)) _ _ s
 refine wpAny_bind (wpAny_of_eq (F.newCall_reversed_1 _) (wpAny_pure ⟨plainId_quiet F.plain_reversed_new _, codeAny_builtin F.entry_reversed_new ?_⟩))
 rw [Around.under_plainId F.plain_reversed_new _]
 unfold Builtin.«reversed.__new__»
 refine wpAny_bind (wpAny_of_eq (newClass_reversed _) ?_)
 try dsimp only
 refine wpAny_bind (wpAny_of_eq (a := ()) (by first | rfl | kernel_rfl) ?_)
 refine wpAny_bind (wpAny_of_eq (a := ()) (by first | rfl | kernel_rfl) ?_)
 try dsimp only
 refine wpAny_bind (wpAny_specialOf hT F.slot_range_reversed.lookup ?_)
 try dsimp only
 refine wpAny_bind (wpAny_of_eq (F.slot_range_reversed.bind _) ?_)
 try dsimp only
 first
 | rw [if_neg (show ¬ ((Value.builtin "range.__reversed__" == Value.none) = true) from Bool.false_ne_true)]
 | (show wpAny _ _ (if (Value.builtin "range.__reversed__" == Value.none) = true then _ else _) _ _ _; rw [if_neg (show ¬ ((Value.builtin "range.__reversed__" == Value.none) = true) from Bool.false_ne_true)])
 refine wpAny_bind (wpAny_rule ?_)
 refine wpAny_bind (m := runValue (.call (.builtin "range.__reversed__") ⟨[.ref l], []⟩)) (show wpAny _ _ (call (.builtin "range.__reversed__") [.ref l]) _ _ _ from L6 hl h1 h2 ?_)
 first
 | exact wpAny_pure h
 | exact wpAny_bind (wpAny_pure (wpAny_pure h))
theorem L5 {l : Addr} {j : Int} {t u v : Tok} {Q : Value -> Shared -> Prop} (hl : IsRange s.heap l 0 j 1 t u v) (h1 : -(2 ^ 62) <= j) (h2 : j < 2 ^ 62)
  (h : Q (.ref s.heap.objs.size) { s with heap := s.heap.push (zn4 ((j.toNat : Int) - 1) j.toNat (-1)) }) : wpAny (model prog w) A (call (.type "reversed") [.ref l]) Q E s := by
 refine callType_other (U := "range_iterator") (Q₁ := fun obj s₁ => obj = .ref s.heap.objs.size /\ s₁ = { s with heap := s.heap.push (zn4 ((j.toNat : Int) - 1) j.toNat (-1)) }) (by decide +kernel) F.create_reversed ⟨_, _, F.mro_reversed⟩ F.made_reversed C5 (F.typeCall_reversed_1 _) (G6 hl h1 h2 ⟨rfl, rfl⟩) ?_
 rintro obj s₁ ⟨rfl, rfl⟩
 exact ⟨⟨_, Heap.get?_push_size _ rfl, rfl⟩, h⟩
end
def Itdn (hi : Int) (n : Nat) : It := ⟨fun i _ => i < n, fun i H x H' => H' = H /\ x = .int (hi - i), fun i _ => n <= i⟩
theorem ys3 {P : Program} {w : World} {K : PySem.W.Frag} {tg : Expr} (it : Addr) (lo : Int) (n : Nat) : Turn P w K tg (Itdn lo n) [it] it (fun i h => IsRangeIter h it (lo + (i : Nat) * (-1)) ((n : Int) - (i : Nat)) (-1)) where
 mem := by simp
 obj := fun i h st b hb => by
  have e : b = it := by simpa using hb
  subst e
  exact ⟨_, st, fun v z => by
   have z' : Data.fields _ = Data.cell v := z
   cases z'⟩
 keep := fun i h h' st k => k it (by simp) _ st
 item := by
  intro X hP hw hK hc i pins s σ H E I hf st hg
  subst hP hw hK
  obtain ⟨f0, f1, f2, f3, f4, f5⟩ := hf it (by simp)
  have W := Walks.range (prog := X.prog) (w := X.w) (I.ok.hd hc) it lo (-1) n
  refine W.item i s _ _ hg st fun v h' tk hv st' kk => ?_
  obtain ⟨t, rfl⟩ := hv
  have I1 : Inv X pins σ H { s with heap := h', toks := tk } := I.turned (fun b o hb e => kk b o (by simpa using hb) e) f0 f1 f3 f4 f5
  refine ⟨_, rfl, xq7 (s := { s with heap := h', toks := tk }) (n := "range_iterator") st' rfl rfl (by decide) ⟨.int (lo - i), H, I1, ⟨t, ?_⟩, ⟨rfl, rfl⟩, st', fun b hb => (hf b hb).1⟩⟩
  rw [show lo + (i : Int) * (-1) = lo - i by omega]
 done := by
  intro X hP hw hK hc i pins s σ H E I hf st hg
  subst hP hw hK
  obtain ⟨f0, f1, f2, f3, f4, f5⟩ := hf it (by simp)
  exact wpAny_pyNext_range_end (I.ok.hd hc) st (by have : n <= i := hg; omega) fun h' eb => ⟨rfl, I.turned (t' := s.toks) (fun b o hb e => eb b o hb e) f0 f1 f3 f4 f5⟩
 self := fun _ _ _ _ _ st h => wpAny_pyIter_rangeiter st h
section
variable {X : Cx}
def zu2 (n : Nat) : List D := (List.range n).map fun (i : Nat) => D.int ((n : Int) - 1 - (i : Int))
theorem D8 (n : Nat) : (zu2 n).length = n := by unfold zu2; simp
theorem yc4 {K : W.Frag} {F : Hp} {n : Nat} : ItD K F (Itdn ((n : Int) - 1) n) (zu2 n) where
 go := fun i F1 H1 a b hi => by rw [D8] at hi; exact hi
 yld := fun i F1 H1 x H2 d a b e y => by
  obtain ⟨rfl, rfl⟩ := y
  unfold zu2 at e
  rw [getElem?_map] at e
  have hi : i < n := by
   rcases Nat.lt_or_ge i n with h | h
   ·exact h
   ·rw [getElem?_eq_none (by simpa using h)] at e; cases e
  rw [getElem?_range hi] at e
  cases e
  exact ⟨F1, .refl b, .int _⟩
 stop := fun F1 H1 a b => by rw [D8]; exact Nat.le_refl n
def rngD : List D -> Option (List D)
 | [.int j] => if okR j = true then some (zu2 j.toNat) else none
 | _ => none
theorem zy0 {tg a : Expr} {m : ML} {p p2 pos pos2 : Pos} (hg : Gl X "reversed") (hm : X.mg "reversed" = none) (hg' : Gl X "range") (hm' : X.mg "range" = none) (ha : PAs X [a] m) (he : starEach [a] X.env = (false, eval a X.env) :: starEach [] X.env := by rfl)
  (hpl : ∀ pos, (backTo pos (starEach [] X.env)).any (·.1) = false := by intro _; rfl)
  (hs : starEach (Expr.Call (.Name "range" p2) [a] [] pos2 :: []) X.env = (false, eval (Expr.Call (.Name "range" p2) [a] [] pos2) X.env) :: starEach [] X.env := by rfl) :
  PId X tg (.Call (.Name "reversed" p) [.Call (.Name "range" p2) [a] [] pos2] [] pos) (j8 rngD m) := by
 intro pins s σ H R I h
 obtain ⟨F0, H0, F, ρ, its, rl, e, q⟩ := h
 obtain ⟨ds, h1, h2⟩ := O7 e
 have A := f7 (zm4 yj7 hg' hm' boot_range ha (by decide) (by decide) he (hpl _)) pa_nil hs pos pins s σ H (fun vs H1 => ∃ p j F1 H2, vs = [.ref p] /\ ds = [.int j] /\ H2 p = none /\ H1 = upd H2 p (.rng 0 j) /\ Ext F H F1 H2) I ⟨F0, H0, F, ρ, ds, rl, h1, fun vs F1 H1 x1 r1 => by
  unfold rngD at h2
  split at h2
  ·rename_i j
   cases r1 with
   | cons r rr =>
    cases rr; cases r
    exact ⟨j, rfl, fun p hp => ⟨p, j, F1, H1, rfl, rfl, hp, rfl, x1⟩⟩
  ·cases h2⟩
 refine Call_ (G0 I hg hm boot_reversed (PyProof.Rows.callWith_type1 (thn A fun us s1 hpat => ?_) hs (hpl _)))
 obtain ⟨vs, H1, I1, r1, q1⟩ := hpat
 obtain ⟨l, j, F1, H2, ev, ed, hn, eH, x1⟩ := q1
 subst ev ed eH
 obtain ⟨u, rfl, ru⟩ := C3 r1
 cases ru
 have h2 : (if okR j = true then some (zu2 j.toNat) else none) = some its := h2
 split at h2
 case isFalse => cases h2
 rename_i hk
 cases h2
 unfold okR at hk
 simp only [Bool.and_eq_true, decide_eq_true_eq] at hk
 obtain ⟨t, u, v, eo⟩ := I1.hok l _ y8
 refine L5 (j := j) eo hk.1 hk.2 ?_
 have hit : IsRangeIter (s1.heap.push (zn4 ((j.toNat : Int) - 1) j.toNat (-1))) s1.heap.objs.size ((j.toNat : Int) - 1) j.toNat (-1) := Heap.get?_push_size _ rfl
 refine wpAny_pyIter_rangeiter hit ?_
 have x2 : Ext F H F1 (upd H2 l (.rng 0 j)) := x1.trans (Ext.own x1.fh hn)
 refine ⟨s1.heap.objs.size, [s1.heap.objs.size], _, _, _, rfl, I1.kept (t' := s1.toks) fun b o e => Heap.get?_push_of_some _ e, ys3 _ ((j.toNat : Int) - 1) j.toNat, ?_, fun b hb => ?_, q _ F1 _ x2 yc4⟩
 ·have e1 : ((j.toNat : Int) - 1) + ((0 : Nat) : Int) * (-1) = (j.toNat : Int) - 1 := by simp
  have e2 : ((j.toNat : Nat) : Int) - ((0 : Nat) : Int) = j.toNat := by simp
  show IsRangeIter _ _ (((j.toNat : Int) - 1) + ((0 : Nat) : Int) * (-1)) (((j.toNat : Nat) : Int) - ((0 : Nat) : Int)) (-1)
  rw [e1, e2]
  exact hit
 ·have e : b = s1.heap.objs.size := by simpa using hb
  subst e
  exact I1.fpOk (Nat.le_refl _) (I1.hok.fresh (Nat.le_refl _))
end
end
section
section
variable {X : Cx} {a b : Expr} {pos : Pos}
end
end
section
section
variable {X : Cx} {e : Expr} {pos : Pos} {es : List Expr} {E : XK} {mf : MG} {st : Stmt} {na : MEm}
end
section
variable {X : Cx} {a b : Expr} {pos : Pos}
def zr3 (n : Nat) (k : Int) : Bool := decide (-(2 ^ 62) <= k) && decide (k < 2 ^ 62) && decide (n * k.toNat <= sizeLine)
@[irreducible] def mrep (x : ML) (y : ME) : ML := fun ρ => (x ρ).bind fun ds => match y ρ with
 | some (.int k) => if zr3 ds.length k = true then some (List.replicate k.toNat ds).flatten else none
 | _ => none
theorem yo8 {x : ML} {y : ME} {ρ : Ro} {gs : List D} (h : mrep x y ρ = some gs) : ∃ ds k, x ρ = some ds /\ y ρ = some (.int k) /\ zr3 ds.length k = true /\ gs = (List.replicate k.toNat ds).flatten := by
 unfold mrep at h
 cases h1 : x ρ with
 | none => rw [h1] at h; cases h
 | some ds =>
  rw [h1, Option.bind_some] at h
  split at h
  ·rename_i k h2
   split at h
   ·rename_i hk
    exact ⟨ds, k, rfl, h2, hk, (Option.some.inj h).symm⟩
   ·cases h
  ·cases h
theorem zf6 {x : ML} {y : ME} {ρ : Ro} {ds : List D} {k : Int} (h1 : x ρ = some ds) (h2 : y ρ = some (.int k)) (hk : zr3 ds.length k = true) : mrep x y ρ = some (List.replicate k.toNat ds).flatten := by
 unfold mrep
 rw [h1, Option.bind_some, h2]
 simp only [hk, if_true]
theorem zn5 {K : W.Frag} {F : Hp} {xs : List V} {ds : List D} (r : Reps K F xs ds) : ∀ k : Nat, Reps K F (List.replicate k xs).flatten (List.replicate k ds).flatten
 | 0 => .nil
 | k + 1 => by
  rw [replicate_succ, replicate_succ, flatten_cons, flatten_cons]
  exact r.append (zn5 r k)
theorem zm3 {x : ML} {y : ME} (ha : PF X a x) (hb : PD X b y) : PF X (.BinOp a .Mult b pos) (mrep x y) := (yf4 xh6 ha hb).imp fun σ H Q hpat => by
 obtain ⟨F0, H0, F, ρ, g, rl, e, q⟩ := hpat
 obtain ⟨ds, k, h1, h2, hk, rfl⟩ := yo8 e
 unfold zr3 at hk
 simp only [Bool.and_eq_true, decide_eq_true_eq] at hk
 refine ⟨F0, H0, F, ρ, ds, rl, h1, fun p xs F1 H1 x1 n1 f1 g1 r1 => ⟨F0, H0, F1, ρ, .int k, rl.go x1, h2, fun v F2 H2 x2 r2 => ?_⟩⟩
 cases r2
 refine ⟨p, k, xs, rfl, rfl, x2.hh _ _ g1, by omega, by omega, by rw [r1.length]; exact hk.2, fun w hw => ?_⟩
 have xx := x1.trans x2
 exact q w _ F2 _ (xx.trans (Ext.own x2.fh hw)) (xx.hh.free hw) (x2.fh.free hw) y8 (zn5 (r1.mono x2.ff) k.toNat)
end
end
section
def minN (mk : D -> Option D) (ds : List D) : Option D := match ds with
 | [] => none
 | d :: ds => (match mk d with | some kd => minF mk ds d kd | none => none)
section
variable {X : Cx} {pins : List (Addr × Obj)} {σ : St}
set_option maxHeartbeats 8000000 in
theorem yd2 {q : Addr} {mk : D -> Option D} (hk : yt8 X (.ref q) mk) (hc : X.calm = true) (hu : X.A.units + 64 < cLine) {l : Addr} {xs : List V} {ds : List D} {dm : D} {H F : Hp} {s : Shared} {E : Value -> Shared -> Prop} {Q : Value -> Shared -> Prop}
  (I : Inv X pins σ H s) (sf : Same F H) (sq : SqL X.K H l xs) (rs : Reps X.K F xs ds) (hm : minN mk ds = some dm)
  (hQ : ∀ x v F' H' s', Inv X pins σ H' s' -> RelV x v -> Ext F H F' H' -> Rep X.K F' x dm -> Q v s') :
  wpAny (model X.prog X.w) X.A (call (.builtin "min") [.ref l] [(Str.ofString "key", .ref q)]) Q E s := by
 have hname : (toString "min" ++ toString ".loop" : String) = "min.loop" := by decide
 obtain ⟨its, vr, pl, _⟩ := I.list sq
 have hls := pl.isList
 obtain ⟨ol, hol, _⟩ := id hls
 have hll : l < s.heap.objs.size := Heap.lt_size hol
 refine kmk_tree PySem.F.kind_min PySem.F.plain_min PySem.F.entry_min (kmk_min_key _ _) ?_
 show wpAny _ X.A.in1 (Builtin.Builtins.bindParams "min" ["key", "default"] 0 ⟨[], [(Str.ofString "key", .ref q)]⟩ >>= _) _ _ s
 refine wpAny_bind (wpAny_of_eq (show Builtin.Builtins.bindParams "min" ["key", "default"] 0 ⟨[], [(Str.ofString "key", .ref q)]⟩ = pure [some (.ref q), none] from rfl) ?_)
 refine wpAny_bind (wpAny_pure ?_)
 refine wpAny_bind (wpAny_pyIter_list hls ?_)
 refine wpAny_bind (wpAny_newList ?_ (Nat.zero_le _))
 rw [hname]
 refine wpAny_pure ⟨plainId_quiet PySem.F.plain_min_loop _, ?_⟩
 generalize hIo : ({ cls := .type "list_iterator", data := .fields #[.ref l, .int 0 0] } : Obj) = oI0
 have hS : (s.heap.push oI0).objs.size = s.heap.objs.size + 1 := size_push' ..
 have hlI : l ≠ s.heap.objs.size := Nat.ne_of_lt hll
 have hlS : l ≠ (s.heap.push oI0).objs.size := by rw [hS]; exact Nat.ne_of_lt (Nat.lt_succ_of_lt hll)
 have hIS : s.heap.objs.size ≠ (s.heap.push oI0).objs.size := by rw [hS]; exact Nat.ne_of_lt (Nat.lt_succ_self _)
 have gI : ((s.heap.push oI0).push (seqObj "list" #[] 0)).get? s.heap.objs.size = some oI0 := Heap.get?_push_of_some _ (Heap.get?_push_size _ (by rw [<- hIo]; rfl))
 have gS : ((s.heap.push oI0).push (seqObj "list" #[] 0)).get? (s.heap.push oI0).objs.size = some (seqObj "list" #[] 0) := Heap.get?_push_size _ rfl
 have fI : FpOk X pins H s.heap.objs.size := I.fpOk (Nat.le_refl _) (I.hok.fresh (Nat.le_refl _))
 have fS : FpOk X pins H (s.heap.push oI0).objs.size := I.fpOk (by rw [hS]; exact Nat.le_succ _) (I.hok.fresh (by rw [hS]; exact Nat.le_succ _))
 have I0 : Inv X pins σ H { s with heap := (s.heap.push oI0).push (seqObj "list" #[] 0), toks := s.toks } := I.turnedL (fp := []) (fun b o _ e => Heap.get?_push_of_some _ (Heap.get?_push_of_some _ e)) (fun b hb => by cases hb)
 generalize (s.heap.push oI0).objs.size = S at *
 generalize hI : s.heap.objs.size = J at *
 generalize (s.heap.push oI0).push (seqObj "list" #[] 0) = h0 at *
 have hit : h0.IsListIter J l 0 := ⟨_, gI, by rw [<- hIo], by rw [<- hIo]; rfl⟩
 have zl : its.length = ds.length := by rw [<- vr.length, rs.length]
 obtain ⟨its', vr', pl', _⟩ := I0.list sq
 have zl' : its'.length = ds.length := by rw [<- vr'.length, rs.length]
 refine codeAny_builtin PySem.F.entry_min_loop ?_
 rw [Around.under_plainId PySem.F.plain_min_loop _]
 show wpAny _ X.A.in1 (seqItems? (.ref S) >>= _) _ _ _
 refine wpAny_bind (wpAny_seqItems gS rfl ?_)
 show wpAny _ X.A.in1 (tryCatch (pyNext (.ref J)) _ >>= _) _ _ _
 cases ds with
 | nil => cases hm
 | cons d ds =>
  obtain ⟨x, hx, px⟩ := rs.get (i := 0) (d := d) rfl
  obtain ⟨v, hv, rx⟩ := vr'.get hx
  unfold minN at hm
  dsimp only at hm
  cases hkd : mk d with
  | none => rw [hkd] at hm; cases hm
  | some kd =>
   rw [hkd] at hm
   dsimp only at hm
   refine wpAny_bind (wpAny_tryCatch (wpAny_pyNext_list_item hit pl'.isList (by simpa using hv) fun h1 hit1 s1 => ?_))
   have I1 := I0.turnedL (h' := h1) (t' := s.toks) (fp := [J]) (fun b o hb e => s1.extBut b o (by simpa using hb) e) (fun b hb => by rw [List.mem_singleton.mp hb]; exact fI)
   have hS1 : h1.get? S = some (seqObj "list" #[] 0) := s1.extBut _ _ (Ne.symm hIS) gS
   obtain ⟨oI, eI, cI, dI⟩ := id hit1
   have Ip := I1.pin2 fI fS eI hS1 (fun v z => by rw [dI] at z; cases z) (fun v z => by cases z)
   show wpAny _ X.A.in1 (tryCatch (holding [v] (call (.ref q) [v])) _ >>= _) _ _ _
   refine wpAny_bind (wpAny_tryCatch (wpAny_holding (wpAny_mono (hk (pins ++ [(J, oI), (S, seqObj "list" #[] 0)]) σ H F _ x v d kd Ip sf px rx hkd) (fun w s2 hw => ?_) fun _ _ z => z.elim)))
   obtain ⟨y, F2, H2, I2, rw2, x2, py2⟩ := hw
   have pI := I2.pin (J, oI) (by simp)
   have pS := I2.pin (S, seqObj "list" #[] 0) (by simp)
   have I2' : Inv X pins σ H2 s2 := I2.unpinned
   have fI2 : FpOk X pins H2 J := fI.now pI.2.1
   have fS2 : FpOk X pins H2 S := fS.now pS.2.1
   have s3 := Heap.SameBut.update s2.heap S (Obj.mapSeq fun _ => #[v, w])
   obtain ⟨c2, hc2⟩ : ∃ c2, (s2.heap.update S (Obj.mapSeq fun _ => #[v, w])).get? S = some (seqObj "list" #[v, w] c2) := ⟨_, get?_update_seq pS.1 fun _ => #[v, w]⟩
   show wpAny _ X.A.in1 (updateSeq S (fun _ => #[v, w]) >>= _) _ _ _
   refine wpAny_bind (wpAny_updateSeq pS.1 rfl ?_)
   rw [hname]
   have I3 : Inv X pins σ H2 { s2 with heap := s2.heap.update S (Obj.mapSeq fun _ => #[v, w]), toks := s2.toks } := I2'.turnedL (fp := [S]) (fun b o hb e => (s3.2 b (by simpa using hb)).trans e) (fun b hb => by rw [List.mem_singleton.mp hb]; exact fS2)
   refine wpAny_pure ⟨plainId_quiet PySem.F.plain_min_loop _, yz5 hk hc hu (ds := d :: ds) (dm := dm) hIS hlI hlS _ 0 H2 F2 H F _ x y v w d kd c2 _ rfl (by simp) I3 x2 (x2.hh.seq sq) (rs.mono x2.ff) ⟨oI, (s3.2 J hIS).trans pI.1, cI, dI⟩ hc2 fI2 fS2 rx (px.mono x2.ff) rw2 py2 hm fun x v F' H' s' a b c d => hQ x v F' H' s' a b c d⟩
@[irreducible] def yn0 (mk : D -> Option D) (m : ML) : ME := fun ρ => (m ρ).bind fun ds => minN mk ds
theorem ye9 {mk : D -> Option D} {m : ML} {ρ : Ro} {ds : List D} (h1 : m ρ = some ds) : yn0 mk m ρ = minN mk ds := by
 unfold yn0
 rw [h1]; rfl
theorem xt5 {q : Addr} {mk : D -> Option D} {x : Str} {p pf kp pos : Pos} {e : Expr} {m : ML} (hk : yt8 X (.ref q) mk) (hc : X.calm = true) (hu : X.A.units + 64 < cLine) (hg : Gl X "min") (hm : X.mg "min" = none) (hgf : Gl X x) (hmf : X.mg x = some (.ref q)) (ha : PB X e m)
  (hdb : (x == ("__debug__" : Str)) = false := by decide) (hs : starEach (e :: []) X.env = (false, eval e X.env) :: starEach [] X.env := by rfl) :
  PD X (.Call (.Name "min" p) [e] [⟨some "key", .Name x pf, kp⟩] pos) (yn0 mk m) := by
 intro pins s σ H Q I h
 obtain ⟨F0, H0, F, ρ, g, rl, em, q0⟩ := h
 unfold yn0 at em
 cases h1 : m ρ with
 | none => rw [h1] at em; cases em
 | some ds =>
  rw [h1, Option.bind_some] at em
  refine wpAny_Call_Name_kw (G0 I hg hm PyProof.Rows.boot_min ?_ (by decide) (by decide))
  have A := f7 ha pa_nil hs pos pins s σ H (fun vs H1 => ∃ p xs F1, vs = [.ref p] /\ Ext F H F1 H1 /\ SqL X.K H1 p xs /\ Reps X.K F1 xs ds) I ⟨F0, H0, F, ρ, ds, rl, h1, fun p xs F1 H1 x1 s1 r1 => ⟨p, xs, F1, rfl, x1, s1, r1⟩⟩
  refine callWith_kw (thn A fun us s1 hpat => ?_) (by rw [hs]; rfl) (by rw [hs]; rfl)
  obtain ⟨vs, H1, I1, r1, p, xs, F1, ev, x1, sq, rs⟩ := hpat
  subst ev
  obtain ⟨u, rfl, ru⟩ := C3 r1
  cases ru
  have B := zr6 (nm := some "key") (kpos := kp) (zg7 (v := .ref q) (pos := pf) hgf hmf rfl hdb) yq8 pos pins s1 σ H1 (fun vs H2 => vs = [.ref q] /\ H2 = H1) I1 ⟨rfl, rfl⟩
  refine thn B fun us s2 hpat => ?_
  obtain ⟨vs, H2, I2, r2, ev, eH⟩ := hpat
  subst ev eH
  obtain ⟨u1, rfl, ru1⟩ := C3 r2
  cases ru1
  exact yd2 hk hc hu I2 x1.fh sq rs em fun x v F' H' s' I' rx x3 px => ⟨x, H', I', rx, q0 x F' H' (x1.trans x3) px⟩
end
end
section
def gtI : D -> D -> Option Bool
 | .int i, .int j => some (decide (i > j))
 | _, _ => none
theorem xq6 {d e : D} {k : Bool} (h : gtI d e = some k) : ∃ i j, d = .int i /\ e = .int j /\ k = decide (i > j) := by
 cases d with
 | int i =>
  cases e with
  | int j => cases h; exact ⟨i, j, rfl, rfl, rfl⟩
  | _ => cases h
 | _ => cases h
theorem ww1 {K : W.Frag} {F F' : Hp} {A : Around} {s : Shared} {x y : V} {v u : Value} {d e : D} {k : Bool} (r1 : Rep K F x d) (r2 : Rep K F' y e) (q1 : RelV x v) (q2 : RelV y u) (h : gtI d e = some k) (prog : Program) (w : World) (E : Value -> Shared -> Prop) (Q : Value -> Shared -> Prop) (hQ : Q (.bool k) s) : wpAny (model prog w) A (richCompare .Gt v u) Q E s := by
 obtain ⟨i, j, rfl, rfl, rfl⟩ := xq6 h
 obtain rfl := r1.i'
 obtain rfl := r2.i'
 obtain ⟨t, rfl⟩ := q1
 obtain ⟨t', rfl⟩ := q2
 exact CmpOf.ints_gt (prog := prog) (w := w) (A := A) (P := fun n v => ∃ t, v = .int (if n = 1 then i else j) t) (fun n => if n = 1 then i else j) (fun i v h => h) 1 0 _ _ _ _ _ ⟨t, rfl⟩ ⟨t', rfl⟩ hQ
section
variable {X : Cx} {pins : List (Addr × Obj)} {σ : St}
end
end
section
section
variable {X : Cx} {pins : List (Addr × Obj)} {σ : St}
end
section
variable {X : Cx}
end
end
section
theorem yt3 (a u : Value) : argsOk "max" ⟨[a], [(Str.ofString "default", u)]⟩ := by unfold argsOk; kernel_rfl
def maxP : List D -> D -> Option D
 | [], b => some b
 | d :: ds, b => (match gtI d b with | some true => maxP ds d | some false => maxP ds b | none => none)
def maxE (ds : List D) (d0 : D) : Option D := match ds with
 | [] => some d0
 | d :: ds => maxP ds d
section
variable {X : Cx} {pins : List (Addr × Obj)} {σ : St}
set_option maxHeartbeats 8000000 in
theorem yn6 (hc : X.calm = true) (hu : X.A.units + 64 < cLine) {l I S : Addr} {xs : List V} {ds : List D} {kw : List (Str × Value)} {dm : D} (hIS : I ≠ S) (hlI : l ≠ I) (hlS : l ≠ S) :
  ∀ (r j : Nat) (H F H0 F0 : Hp) (s : Shared) (xb : V) (vb : Value) (db : D) (c : Nat) (R : Result -> Shared -> Prop),
   ds.length - (j + 1) = r -> j + 1 <= ds.length -> Inv X pins σ H s -> Ext F0 H0 F H -> SqL X.K H l xs -> Reps X.K F xs ds -> s.heap.IsListIter I l (j + 1) -> s.heap.get? S = some (seqObj "list" #[vb, vb] c) -> FpOk X pins H I -> FpOk X pins H S ->
   RelV xb vb -> Rep X.K F xb db -> maxP (ds.drop (j + 1)) db = some dm ->
   (∀ x v F' H' s', Inv X pins σ H' s' -> RelV x v -> Ext F0 H0 F' H' -> Rep X.K F' x dm -> R (.ok (.ret v)) s') ->
   codeAny (model X.prog X.w) X.A (.builtin "max.loop" ⟨[.ref I, .none, .ref S], kw⟩) R s := by
 have hname : (toString "max" ++ toString ".loop" : String) = "max.loop" := by decide
 intro r
 induction r with
 | zero =>
  intro j H F H0 F0 s xb vb db c R hr hj I' ext sq rs hit hS fI fS rb pb hm hR
  have hin : j + 1 = ds.length := by omega
  obtain ⟨its, vr, pl, _⟩ := I'.list sq
  have zl : its.length = ds.length := by rw [<- vr.length, rs.length]
  rw [hin, drop_length] at hm
  have hm : some db = some dm := hm
  cases hm
  refine codeAny_builtin PySem.F.entry_max_loop ?_
  rw [Around.under_plainId PySem.F.plain_max_loop _]
  show wpAny _ X.A.in1 (seqItems? (.ref S) >>= _) _ _ _
  refine wpAny_bind (wpAny_seqItems hS rfl ?_)
  show wpAny _ X.A.in1 (tryCatch (pyNext (.ref I)) _ >>= _) _ _ _
  refine wpAny_bind (wpAny_tryCatch (wpAny_pyNext_list_end (I'.ok.hd hc) hit pl.isList (by simp; omega) fun h' hk' => ?_))
  have hS' : h'.get? S = some (seqObj "list" #[vb, vb] c) := hk' S _ (Ne.symm hIS) hS
  have s1 := Heap.SameBut.update h' S (Obj.mapSeq fun _ => (#[] : Array Value))
  show wpAny _ X.A.in1 (updateSeq S (fun _ => #[]) >>= _) _ _ _
  refine wpAny_bind ?_
  refine wpAny_updateSeq hS' rfl (wpAny_bind (wpAny_letGo (wpAny_pure ?_)))
  have I9 : Inv X pins σ H { s with heap := h'.update S (Obj.mapSeq fun _ => (#[] : Array Value)), toks := s.toks } := I'.turnedL (fp := [I, S]) (t' := s.toks) (fun b o hb e => by
   simp only [mem_cons, not_mem_nil, or_false, not_or] at hb
   exact (s1.2 b hb.2).trans (hk' b o hb.1 e)) (fun b hb => by
   simp only [mem_cons, not_mem_nil, or_false] at hb
   rcases hb with rfl | rfl <;> assumption)
  exact hR xb vb F H _ I9 rb ext pb
 | succ r ih =>
  intro j H F H0 F0 s xb vb db c R hr hj I' ext sq rs hit hS fI fS rb pb hm hR
  have hlt : j + 1 < ds.length := by omega
  obtain ⟨its, vr, pl, _⟩ := I'.list sq
  have zl : its.length = ds.length := by rw [<- vr.length, rs.length]
  obtain ⟨d, hd⟩ : ∃ d, ds[j + 1]? = some d := ⟨_, getElem?_eq_getElem hlt⟩
  obtain ⟨x, hx, px⟩ := rs.get hd
  obtain ⟨v, hv, rx⟩ := vr.get hx
  rw [W1 hd] at hm
  unfold maxP at hm
  refine codeAny_builtin PySem.F.entry_max_loop ?_
  rw [Around.under_plainId PySem.F.plain_max_loop _]
  show wpAny _ X.A.in1 (seqItems? (.ref S) >>= _) _ _ _
  refine wpAny_bind (wpAny_seqItems hS rfl ?_)
  show wpAny _ X.A.in1 (tryCatch (pyNext (.ref I)) _ >>= _) _ _ _
  refine wpAny_bind (wpAny_tryCatch (wpAny_pyNext_list_item hit pl.isList (by simpa using hv) fun h1 hit1 s1 => ?_))
  have I1 : Inv X pins σ H { s with heap := h1, toks := s.toks } := I'.turnedL (fp := [I]) (fun b o hb e => s1.extBut b o (by simpa using hb) e) (fun b hb => by rw [List.mem_singleton.mp hb]; exact fI)
  have hS1 : h1.get? S = some (seqObj "list" #[vb, vb] c) := s1.extBut _ _ (Ne.symm hIS) hS
  cases hlt8 : gtI d db with
  | none => rw [hlt8] at hm; cases hm
  | some bt =>
   rw [hlt8] at hm
   have hcmp := ww1 (A := X.A.in1) (s := { s with heap := h1, toks := s.toks }) px pb rx rb hlt8
   refine wpAny_bind (wpAny_pure ?_)
   show wpAny _ X.A.in1 (tryCatch (holding [v, v] (richCompare .Gt v vb >>= _)) _ >>= _) _ _ _
   refine wpAny_bind (wpAny_tryCatch (wpAny_holding (wpAny_bind (hcmp X.prog X.w _ _ ?_))))
   refine wpAny_bind (wpAny_holding (wpAny_truthy_bool ?_))
   refine wpAny_bind (wpAny_letGo (wpAny_pure ?_))
   cases bt with
   | true =>
    have s3 := Heap.SameBut.update h1 S (Obj.mapSeq fun _ => #[v, v])
    obtain ⟨c2, hc2⟩ : ∃ c2, (h1.update S (Obj.mapSeq fun _ => #[v, v])).get? S = some (seqObj "list" #[v, v] c2) := ⟨_, get?_update_seq hS1 fun _ => #[v, v]⟩
    simp only [if_true]
    refine wpAny_bind ?_
    refine wpAny_updateSeq hS1 rfl (wpAny_bind (wpAny_letGo ?_))
    rw [hname]
    have I3 := I1.turnedL (h' := h1.update S (Obj.mapSeq fun _ => #[v, v])) (t' := s.toks) (fp := [S]) (fun b o hb e => (s3.2 b (by simpa using hb)).trans e) (fun b hb => by rw [List.mem_singleton.mp hb]; exact fS)
    refine wpAny_pure ⟨plainId_quiet PySem.F.plain_max_loop _, ih (j + 1) H F H0 F0 _ x v d c2 R (by omega) hlt I3 ext sq rs (hit1.at fun o e => (s3.2 I hIS).trans e) hc2 fI fS rx px hm hR⟩
   | false =>
    simp only [Bool.false_eq_true, if_false]
    refine wpAny_bind (wpAny_letGo ?_)
    rw [hname]
    refine wpAny_pure ⟨plainId_quiet PySem.F.plain_max_loop _, ih (j + 1) H F H0 F0 _ xb vb db c R (by omega) hlt I1 ext sq rs hit1 hS1 fI fS rb pb hm hR⟩
set_option maxHeartbeats 8000000 in
theorem yd3 (hc : X.calm = true) (hu : X.A.units + 64 < cLine) {l : Addr} {xs : List V} {ds : List D} {dm d0 : D} {H F : Hp} {s : Shared} {x0 : V} {v0 : Value} {E : Value -> Shared -> Prop} {Q : Value -> Shared -> Prop}
  (I : Inv X pins σ H s) (sf : Same F H) (sq : SqL X.K H l xs) (rs : Reps X.K F xs ds) (r0 : RelV x0 v0) (p0 : Rep X.K F x0 d0) (hm : maxE ds d0 = some dm)
  (hQ : ∀ x v F' H' s', Inv X pins σ H' s' -> RelV x v -> Ext F H F' H' -> Rep X.K F' x dm -> Q v s') :
  wpAny (model X.prog X.w) X.A (call (.builtin "max") [.ref l] [(Str.ofString "default", v0)]) Q E s := by
 have hname : (toString "max" ++ toString ".loop" : String) = "max.loop" := by decide
 obtain ⟨its, vr, pl, _⟩ := I.list sq
 have hls := pl.isList
 obtain ⟨ol, hol, _⟩ := id hls
 have hll : l < s.heap.objs.size := Heap.lt_size hol
 refine kmk_tree PySem.F.kind_max PySem.F.plain_max PySem.F.entry_max (yt3 _ _) ?_
 show wpAny _ X.A.in1 (Builtin.Builtins.bindParams "max" ["key", "default"] 0 ⟨[], [(Str.ofString "default", v0)]⟩ >>= _) _ _ s
 refine wpAny_bind (wpAny_of_eq (show Builtin.Builtins.bindParams "max" ["key", "default"] 0 ⟨[], [(Str.ofString "default", v0)]⟩ = pure [none, some v0] from rfl) ?_)
 refine wpAny_bind (wpAny_pure ?_)
 refine wpAny_bind (wpAny_pyIter_list hls ?_)
 refine wpAny_bind (wpAny_newList ?_ (Nat.zero_le _))
 rw [hname]
 refine wpAny_pure ⟨plainId_quiet PySem.F.plain_max_loop _, ?_⟩
 generalize hIo : ({ cls := .type "list_iterator", data := .fields #[.ref l, .int 0 0] } : Obj) = oI0
 have hS : (s.heap.push oI0).objs.size = s.heap.objs.size + 1 := size_push' ..
 have hlI : l ≠ s.heap.objs.size := Nat.ne_of_lt hll
 have hlS : l ≠ (s.heap.push oI0).objs.size := by rw [hS]; exact Nat.ne_of_lt (Nat.lt_succ_of_lt hll)
 have hIS : s.heap.objs.size ≠ (s.heap.push oI0).objs.size := by rw [hS]; exact Nat.ne_of_lt (Nat.lt_succ_self _)
 have gI : ((s.heap.push oI0).push (seqObj "list" #[] 0)).get? s.heap.objs.size = some oI0 := Heap.get?_push_of_some _ (Heap.get?_push_size _ (by rw [<- hIo]; rfl))
 have gS : ((s.heap.push oI0).push (seqObj "list" #[] 0)).get? (s.heap.push oI0).objs.size = some (seqObj "list" #[] 0) := Heap.get?_push_size _ rfl
 have fI : FpOk X pins H s.heap.objs.size := I.fpOk (Nat.le_refl _) (I.hok.fresh (Nat.le_refl _))
 have fS : FpOk X pins H (s.heap.push oI0).objs.size := I.fpOk (by rw [hS]; exact Nat.le_succ _) (I.hok.fresh (by rw [hS]; exact Nat.le_succ _))
 have I0 : Inv X pins σ H { s with heap := (s.heap.push oI0).push (seqObj "list" #[] 0), toks := s.toks } := I.turnedL (fp := []) (fun b o _ e => Heap.get?_push_of_some _ (Heap.get?_push_of_some _ e)) (fun b hb => by cases hb)
 generalize (s.heap.push oI0).objs.size = S at *
 generalize hI : s.heap.objs.size = J at *
 generalize (s.heap.push oI0).push (seqObj "list" #[] 0) = h0 at *
 have hit : h0.IsListIter J l 0 := ⟨_, gI, by rw [<- hIo], by rw [<- hIo]; rfl⟩
 have zl : its.length = ds.length := by rw [<- vr.length, rs.length]
 obtain ⟨its', vr', pl', _⟩ := I0.list sq
 have zl' : its'.length = ds.length := by rw [<- vr'.length, rs.length]
 refine codeAny_builtin PySem.F.entry_max_loop ?_
 rw [Around.under_plainId PySem.F.plain_max_loop _]
 show wpAny _ X.A.in1 (seqItems? (.ref S) >>= _) _ _ _
 refine wpAny_bind (wpAny_seqItems gS rfl ?_)
 show wpAny _ X.A.in1 (tryCatch (pyNext (.ref J)) _ >>= _) _ _ _
 cases ds with
 | nil =>
  have hm : some d0 = some dm := hm
  cases hm
  refine wpAny_bind (wpAny_tryCatch (wpAny_pyNext_list_end (I.ok.hd hc) hit pl'.isList (by simp at zl' ⊢; simp [zl']) fun h' hk' => ?_))
  refine wpAny_bind (wpAny_rule (wpAny_pure ?_))
  have I9 := I0.turnedL (h' := h') (fp := [J]) (t' := s.toks) (fun b o hb e => hk' b o (by simpa using hb) e) (fun b hb => by rw [List.mem_singleton.mp hb]; exact fI)
  exact hQ x0 v0 F H _ I9 r0 (Ext.refl sf) p0
 | cons d ds =>
  obtain ⟨x, hx, px⟩ := rs.get (i := 0) (d := d) rfl
  obtain ⟨v, hv, rx⟩ := vr'.get hx
  refine wpAny_bind (wpAny_tryCatch (wpAny_pyNext_list_item hit pl'.isList (by simpa using hv) fun h1 hit1 s1 => ?_))
  have I1 := I0.turnedL (h' := h1) (t' := s.toks) (fp := [J]) (fun b o hb e => s1.extBut b o (by simpa using hb) e) (fun b hb => by rw [List.mem_singleton.mp hb]; exact fI)
  have hS1 : h1.get? S = some (seqObj "list" #[] 0) := s1.extBut _ _ (Ne.symm hIS) gS
  refine wpAny_bind (wpAny_pure ?_)
  have s3 := Heap.SameBut.update h1 S (Obj.mapSeq fun _ => #[v, v])
  obtain ⟨c2, hc2⟩ : ∃ c2, (h1.update S (Obj.mapSeq fun _ => #[v, v])).get? S = some (seqObj "list" #[v, v] c2) := ⟨_, get?_update_seq hS1 fun _ => #[v, v]⟩
  show wpAny _ X.A.in1 (updateSeq S (fun _ => #[v, v]) >>= _) _ _ _
  refine wpAny_bind (wpAny_updateSeq hS1 rfl ?_)
  rw [hname]
  have I3 := I1.turnedL (h' := h1.update S (Obj.mapSeq fun _ => #[v, v])) (t' := s.toks) (fp := [S]) (fun b o hb e => (s3.2 b (by simpa using hb)).trans e) (fun b hb => by rw [List.mem_singleton.mp hb]; exact fS)
  exact wpAny_pure ⟨plainId_quiet PySem.F.plain_max_loop _, yn6 hc hu (ds := d :: ds) (dm := dm) hIS hlI hlS _ 0 H F H F _ x v d c2 _ rfl (by simp) I3 (.refl sf) sq rs (hit1.at fun o e => (s3.2 J hIS).trans e) hc2 fI fS rx px hm fun x v F' H' s' a b c d => hQ x v F' H' s' a b c d⟩
@[irreducible] def zk5 (m : ML) (md : ME) : ME := fun ρ => (m ρ).bind fun ds => (md ρ).bind fun d0 => maxE ds d0
theorem yv5 {m : ML} {md : ME} {ρ : Ro} {g : D} (h : zk5 m md ρ = some g) : ∃ ds d0, m ρ = some ds /\ md ρ = some d0 /\ maxE ds d0 = some g := by
 unfold zk5 at h
 cases h1 : m ρ with
 | none => rw [h1] at h; cases h
 | some d =>
  cases h2 : md ρ with
  | none => rw [h1, h2] at h; cases h
  | some e => rw [h1, h2] at h; exact ⟨d, e, rfl, rfl, h⟩
theorem mmaxE_ev {m : ML} {md : ME} {ρ : Ro} {ds : List D} {d0 : D} (h1 : m ρ = some ds) (h2 : md ρ = some d0) : zk5 m md ρ = maxE ds d0 := by
 unfold zk5
 rw [h1, h2]; rfl
theorem xt8 {p kp2 pos : Pos} {e ed : Expr} {m : ML} {md : ME} (hc : X.calm = true) (hu : X.A.units + 64 < cLine) (hg : Gl X "max") (hm : X.mg "max" = none) (ha : PB X e m) (hd : PD X ed md)
  (hs : starEach (e :: []) X.env = (false, eval e X.env) :: starEach [] X.env := by rfl) :
  PD X (.Call (.Name "max" p) [e] [⟨some "default", ed, kp2⟩] pos) (zk5 m md) := by
 intro pins s σ H Q I h
 obtain ⟨F0, H0, F, ρ, g, rl, em, q0⟩ := h
 obtain ⟨ds, d0, h1, h2, h3⟩ := yv5 em
 refine wpAny_Call_Name_kw (G0 I hg hm PyProof.Rows.boot_max ?_ (by decide) (by decide))
 have A := f7 ha pa_nil hs pos pins s σ H (fun vs H1 => ∃ p xs F1, vs = [.ref p] /\ Ext F H F1 H1 /\ SqL X.K H1 p xs /\ Reps X.K F1 xs ds) I ⟨F0, H0, F, ρ, ds, rl, h1, fun p xs F1 H1 x1 s1 r1 => ⟨p, xs, F1, rfl, x1, s1, r1⟩⟩
 refine callWith_kw (thn A fun us s1 hpat => ?_) (by rw [hs]; rfl) (by rw [hs]; rfl)
 obtain ⟨vs, H1, I1, r1, p, xs, F1, ev, x1, sq, rs⟩ := hpat
 subst ev
 obtain ⟨u, rfl, ru⟩ := C3 r1
 cases ru
 have B := zr6 (nm := some "default") (kpos := kp2) hd yq8 pos pins s1 σ H1 (fun vs H2 => ∃ y F2, vs = [y] /\ Ext F1 H1 F2 H2 /\ Rep X.K F2 y d0) I1 ⟨F0, H0, F1, ρ, d0, rl.go x1, h2, fun y F2 H2 x2 r2 => ⟨y, F2, rfl, x2, r2⟩⟩
 refine thn B fun us s2 hpat => ?_
 obtain ⟨vs, H2, I2, r2, y, F2, ev, x2, p0⟩ := hpat
 subst ev
 obtain ⟨u2, rfl, ru2⟩ := C3 r2
 exact yd3 hc hu I2 x2.fh (x2.hh.seq sq) (rs.mono x2.ff) ru2 p0 h3 fun x v F' H' s' I' rx x3 px => ⟨x, H', I', rx, q0 x F' H' ((x1.trans x2).trans x3) px⟩
end
end
end L2
namespace L2
open List
open PySem PySem.Spec PyProof.Rows PySem.Builtin PySem.Builtin.Str
section
section
variable {X : Cx} {a b c e o : Expr} {ma mb mo : ME} {pos : Pos}
def strM (g : Str -> List D -> Option D) : D -> List D -> Option D
 | .str z, ds => g z ds
 | _, _ => none
@[irreducible] def wx3 (g : Str -> List D -> Option D) (x : ME) (m : ML) : ME := fun ρ => (x ρ).bind fun d => (m ρ).bind fun ds => strM g d ds
end
end
section
section
variable {X : Cx} {a b c e o : Expr} {ma mb mo : ME} {pos : Pos}
end
end
end L2
namespace L2
open List
open PySem PySem.Spec PyProof.Rows
section
def C0 (src : List (Option Nat)) (ρ : Ro) : Ro := src.map fun o => o.bind fun i => match ρ[i]? with | some (some (.sh d)) => some (.sh d) | some (some (.own ds)) => some (.own ds) | _ => none
@[irreducible] def P4 (src : List (Option Nat)) (mi : ML) (g : Tg) (c : MB) (elt : ME) : ML := fun ρ => (mi ρ).bind fun its => V4 g c elt its (C0 src ρ) []
def yh8 (src : List (Option Nat)) : Prop := ∀ i j k : Nat, src[i]? = some (some k) -> src[j]? = some (some k) -> i = j
theorem B5 {src : List (Option Nat)} (h : ∀ i, i < src.length -> ∀ j, j < src.length -> src[i]? = src[j]? -> src[i]? = some none \/ i = j) : yh8 src := fun i j k hi hj => by
 have li := (List.getElem?_eq_some_iff.mp hi).1
 have lj := (List.getElem?_eq_some_iff.mp hj).1
 rcases h i li j lj (by rw [hi, hj]) with e | e
 ·rw [hi] at e; cases e
 ·exact e
theorem L7 {src : List (Option Nat)} {ρ : Ro} {i : Nat} {x : S} (e : (C0 src ρ)[i]? = some (some x)) : ∃ k, src[i]? = some (some k) /\ ρ[k]? = some (some x) /\ nob (some x) := by
 unfold C0 at e
 rw [getElem?_map] at e
 cases h : src[i]? with
 | none => rw [h] at e; cases e
 | some o =>
  rw [h] at e
  cases o with
  | none => cases e
  | some k =>
   simp only [Option.map_some, Option.bind_some] at e
   split at e
   ·rename_i d h'; cases e; exact ⟨k, rfl, h', True.intro⟩
   ·rename_i ds h'; cases e; exact ⟨k, rfl, h', True.intro⟩
   ·cases e
theorem D2 {src : List (Option Nat)} {σ : St} {i k : Nat} {v : V} (h : src[i]? = some (some k)) (hv : σ[k]? = some (some v)) : (blk0 src σ)[i]? = some (some v) := by
 unfold blk0
 rw [getElem?_map, h]
 simp only [Option.map_some, Option.bind_some, hv]; rfl
theorem zi8 {src : List (Option Nat)} {σ : St} {i k : Nat} {v : V} (h : src[i]? = some (some k)) (hv : (blk0 src σ)[i]? = some (some v)) : σ[k]? = some (some v) := by
 unfold blk0 at hv
 rw [getElem?_map, h] at hv
 simp only [Option.map_some, Option.bind_some] at hv
 cases hk : σ[k]? with
 | none => rw [hk] at hv; cases hv
 | some o => rw [hk] at hv; simpa using hv
theorem Rl.blkO {K : W.Frag} {F0 H0 F H : Hp} {σ : St} {ρ : Ro} (r : Rl K F0 H0 F H σ ρ) {src : List (Option Nat)} (ok : yh8 src) {p : Addr} (hp : H p = none) : Rl K F (upd F p (.lst [])) F (upd H p (.lst [])) (blk0 src σ) (C0 src ρ) := by
 have hF : F p = none := r.fh.free hp
 refine ⟨⟨Same.refl F, r.fh.put2, r.fh.put hF, fun b e n => absurd e n, fun _ _ _ z => z⟩, by unfold blk0 C0; simp, fun i d e => ?_, fun i ds e => ?_, fun i j q ds es hij e1 e2 s1 s2 => ?_, fun i q ds e => ?_, fun i j q ds es e => ?_, fun i j q q' ds es e => ?_⟩
 ·obtain ⟨k, h1, h2, _⟩ := L7 e
  obtain ⟨v, a, b⟩ := r.sh k d h2
  exact ⟨v, D2 h1 a, b⟩
 ·obtain ⟨k, h1, h2, _⟩ := L7 e
  obtain ⟨q, xs, a, b, c, d, z⟩ := r.own k ds h2
  have hq : q ≠ p := fun w => by rw [w, hp] at c; cases c
  exact ⟨q, xs, D2 h1 a, b, by rw [x6 hq]; exact c, d, by rw [x6 hq]; exact b⟩
 ·obtain ⟨k, h1, h2, _⟩ := L7 e1
  obtain ⟨l, h3, h4, _⟩ := L7 e2
  refine r.inj k l q ds es (fun w => ?_) h2 h4 (zi8 h1 s1) (zi8 h3 s2)
  subst w
  exact hij (ok i j k h1 h3)
 ·obtain ⟨k, h1, h2, n⟩ := L7 e; exact n.elim
 ·obtain ⟨k, h1, h2, n⟩ := L7 e; exact n.elim
 ·obtain ⟨k, h1, h2, n⟩ := L7 e; exact n.elim
theorem yb0 {K : W.Frag} {src : List (Option Nat)} {mi : ML} {g : Tg} {c : MB} {elt : ME} (so : yh8 src) {σ : St} {H : Hp} {Q : VK} (h : TF K (P4 src mi g c elt) σ H Q) : C4 src (TId K mi) (TGd K g) (TC K c) (TD K elt) σ H Q := by
 obtain ⟨F0, H0, F, ρ, out, rl, e, q⟩ := h
 unfold P4 at e
 cases h1 : mi ρ with
 | none => rw [h1] at e; cases e
 | some its =>
  rw [h1] at e
  refine ⟨F0, H0, F, ρ, its, rl, h1, fun J F1 H1 x1 I p hp => ?_⟩
  exact zw6 x1.fh hp ((rl.go x1).blkO so hp) I e fun xs F' H' xe hF' hH' ra => q p xs F' H' (x1.trans xe) (x1.hh.free hp) hF' hH' ra
section
variable {X : Cx} {a b c e o : Expr} {ma mb mo : ME} {pos : Pos} {st : Stmt}
theorem A0 {sc : Scope} {N : List Str} {src : List (Option Nat)} {tg elt iter : Expr} {ifs : List Expr} {mi : ML} {g : Tg} {cc : MB} {me : ME} (so : yh8 src) (B : Blk X sc N src) (hc : X.calm = true)
  (hi : PId X tg iter mi) (hg : ∀ C fp s H, PGd (Y8 X sc C N fp s H) tg g) (ht : ∀ C fp s H, PTsd (Y8 X sc C N fp s H) ifs cc) (he : ∀ C fp s H, PD (Y8 X sc C N fp s H) elt me)
  (hs : ∀ x, foldedSetIterable iter X.env x = pure x := by intro _; rfl) :
  PF X (.ListComp elt [⟨tg, iter, ifs, 0⟩] sc pos) (P4 src mi g cc me) := (zr7 (g := TGd X.K g) (tc := TC X.K cc) (te := TD X.K me) B hc hi (fun C fp s H => hg C fp s H) (fun C fp s H => ht C fp s H) (fun C fp s H => he C fp s H) hs).imp fun _ _ _ h => yb0 so h
def rSum (K : W.Frag) : List V -> Hp -> VK -> Prop := fun vs H Q => ∃ (p : Addr) (ns : List Int), vs = [.ref p] /\ SqL K H p (ns.map V.int) /\ Q (.int ns.sum) H
theorem yb3 (hc : X.calm = true) : zu4 X (.builtin "sum") (rSum X.K) := by
 intro pins s σ H xs us Q I r h
 obtain ⟨p, ns, rfl, sq, q⟩ := h
 obtain ⟨u, rfl, rx⟩ := C3 r
 cases rx
 obtain ⟨its, vr, pl, hz⟩ := I.list sq
 obtain ⟨ts, h1, h2⟩ := S0 vr
 have hp := pl.isList
 rw [h1] at hp
 refine sum_intListG (I.ok.hd hc) hp fun h' tk t' k => ?_
 refine ⟨.int ns.sum, H, I.kept k, ⟨t', ?_⟩, q⟩
 rw [preSum_eq, take_of_length_le (by simp), <- h2]
@[irreducible] def msum (m : ML) : ME := fun ρ => match m ρ with | some ds => (match L0 ds with | some ns => some (.int ns.sum) | none => none) | none => none
theorem xz6 {p : Pos} {m : ML} (hc : X.calm = true) (hg : Gl X "sum") (hm : X.mg "sum" = none) (ha : PB X e m) (hv : bootBuiltins "sum" = some (.builtin "sum")) (hs : starEach (e :: []) X.env = (false, eval e X.env) :: starEach [] X.env := by rfl) (he : starEach [e] X.env = (false, eval e X.env) :: starEach [] X.env := by rfl) (hpl : (backTo pos (starEach [] X.env)).any (·.1) = false := by rfl) : PD X (.Call (.Name "sum" p) [e] [] pos) (msum m) :=
 (O6 (yb3 hc) hg hm hv (f7 ha pa_nil hs) (by decide) (by decide) he hpl).imp fun σ H Q hpat => by
  obtain ⟨F0, H0, F, ρ, g, rl, e, q⟩ := hpat
  unfold msum at e
  cases h1 : m ρ with
  | none => rw [h1] at e; cases e
  | some ds =>
   rw [h1] at e
   cases h2 : L0 ds with
   | none => simp only [h2] at e; cases e
   | some ns =>
    simp only [h2] at e; cases e
    refine ⟨F0, H0, F, ρ, ds, rl, h1, fun p xs F1 H1 x1 s1 r1 => ⟨p, ns, rfl, ?_, q _ F1 H1 x1 (.int _)⟩⟩
    rw [<- N1 r1 h2]; exact s1
end
end
section
section
variable {prog : Program} {w : World} {A : Around} {E : Value -> Shared -> Prop} {s : Shared} {l : Addr} {xs : Array (Int × Tok)}
end
section
variable {X : Cx} {a b c e o : Expr} {ma mb mo : ME} {pos : Pos} {st : Stmt}
end
section
variable {X : Cx} {a b c e : Expr} {na nb : MEm} {pos : Pos} {st : Stmt} {es : List Expr} {E : XK} {mf : MF} {m : MLm}
abbrev MBm := Ro -> Option (Bool × Ro)
def TCm (K : W.Frag) (c : MBm) : TT := fun σ H Q => ∃ F0 H0 F ρ b ρ', Rl K F0 H0 F H σ ρ /\ c ρ = some (b, ρ') /\ ∀ F' H', Rl K F0 H0 F' H' σ ρ' -> Same F F' -> Q b H'
@[irreducible] def P2 (x : MEm) : MBm := fun ρ => match x ρ with | some (.bl b, ρ1) => some (b, ρ1) | _ => none
theorem xs3 {op : CmpOp} {r : R2} {f : D -> D -> Option D} (ho : OpR X (compareOp op) r) (hf : OpD X.K r f) (ha : PDm X a na) (hb : PDm X b nb) (hm : behindInMarks op b = false) : PT X (.Compare a [op] [b] pos) (TCm X.K (P2 (m2m f na nb))) := (zg4 ho ha hb hm).imp fun σ H Q hpat => by
 obtain ⟨F0, H0, F, ρ, g, ρ', rl, e, q⟩ := hpat
 unfold P2 at e
 split at e
 ·rename_i k ρ1 hk
  cases e
  refine xs4 hf ⟨F0, H0, F, ρ, .bl g, ρ', rl, hk, fun v F' H' rl' s' r => ?_⟩
  cases r
  exact ⟨_, rfl, q F' H' rl' s'⟩
 ·cases e
@[irreducible] def mifm (c : MBm) (x y : MS) : MS := fun ρ => match c ρ with | some (true, ρ1) => x ρ1 | some (false, ρ1) => y ρ1 | none => none
theorem yq4 {ca : MBm} {x y : List Stmt} {mx my : MS} (hc : PT X c (TCm X.K ca)) (hx : PSsd X x mx) (hy : PSsd X y my) : PSd X (.If c x y pos) (mifm ca mx my) := (yf2 hc hx hy).imp fun D σ H hpat => by
 obtain ⟨F0, H0, F, ρ, o, rl, e, ok⟩ := hpat
 unfold mifm at e
 split at e
 ·rename_i ρ1 h1
  exact ⟨F0, H0, F, ρ, _, ρ1, rl, h1, fun F1 H1 rl1 s1 => iteT ⟨F0, H0, F1, ρ1, o, rl1, e, ok.mono s1⟩⟩
 ·rename_i ρ1 h1
  exact ⟨F0, H0, F, ρ, _, ρ1, rl, h1, fun F1 H1 rl1 s1 => iteF ⟨F0, H0, F1, ρ1, o, rl1, e, ok.mono s1⟩⟩
 ·cases e
end
end
section
section
variable {X : Cx} {a b c e : Expr} {na nb : MEm} {pos : Pos} {st : Stmt} {es : List Expr} {m : MLm}
end
def d8 (elt : MEm) : List D -> Ro -> List D -> Option (List D × Ro)
 | [], ρ, acc => some (acc, ρ)
 | d :: ds, ρ, acc => match elt (ρ.set 0 (some (.sh d))) with
  | some (x, ρ1) => if acc.length < sizeLine then d8 elt ds ρ1 (acc ++ [x]) else none
  | none => none
@[irreducible] def zk7 (src : List (Option Nat)) (mi : ML) (i j : Nat) (elt : MEm) : MEm := fun ρ => match ρ[i]? with
 | some (some (.own r0)) => (match mi ρ with
  | some its => (match d8 elt its ((g5 src ρ).set j (some (.own r0))) [] with
   | some (out, ρb) => (match ρb[j]? with | some (some (.own r1)) => some (.lst out, ρ.set i (some (.own r1))) | _ => none)
   | none => none)
  | none => none)
 | _ => none
theorem Rl.rebaseB {K : W.Frag} {F1 F H B : Hp} {σ : St} {ρ : Ro} {p : Addr} {xs ys : List V} (r : Rl K F1 (upd B p (.lst xs)) F H σ ρ) (hF : F p = none) : Rl K F1 (upd B p (.lst ys)) F (upd H p (.lst ys)) σ ρ := by
 have ne : ∀ q, upd B p (.lst xs) q = none -> q ≠ p := fun q z w => by rw [w, y8] at z; cases z
 refine ⟨⟨r.ext.ff, fun b u e => ?_, r.fh.put hF, fun b e n => ?_, r.ext.nf⟩, r.len, r.sh, fun i ds e => ?_, r.inj, fun i q ds e => ?_, r.obn, r.ob1⟩
 ·by_cases hb : b = p
  ·subst hb; rw [y8] at e ⊢; exact e
  ·rw [x6 hb] at e ⊢
   exact r.ext.hh b u (by rw [x6 hb]; exact e)
 ·have hb : b ≠ p := fun w => by rw [w, hF] at n; exact n rfl
  have := r.ext.new b e n
  rw [x6 hb] at this ⊢; exact this
 ·obtain ⟨q, zs, a, b, c, d, z⟩ := r.own i ds e
  have hq := ne q z
  rw [x6 hq] at z
  exact ⟨q, zs, a, b, by rw [x6 hq]; exact c, d, by rw [x6 hq]; exact z⟩
 ·obtain ⟨a, b, z, zs, c, d⟩ := r.ob i q ds e
  have hq := ne q z
  rw [x6 hq] at z
  exact ⟨a, b, by rw [x6 hq]; exact z, zs, by rw [x6 hq]; exact c, d⟩
theorem Rl.blkJ {K : W.Frag} {F0 H0 F H : Hp} {σ : St} {ρ : Ro} (r : Rl K F0 H0 F H σ ρ) {src : List (Option Nat)} {i j : Nat} {r0 : List D} {rr p : Addr} (hs : src[j]? = some (some i)) (hi : ρ[i]? = some (some (.own r0))) (ha : σ[i]? = some (some (.ref rr))) (hp : H p = none) :
  Rl K F (upd (del H rr) p (.lst [])) F (upd H p (.lst [])) (blk0 src σ) ((g5 src ρ).set j (some (.own r0))) := by
 obtain ⟨rb, no⟩ := r.blk src
 obtain ⟨q, xs, a, b, c, d, z⟩ := r.own i r0 hi
 rw [ha] at a; cases a
 have hrp : rr ≠ p := fun w => by rw [w, hp] at c; cases c
 have hF : F p = none := r.fh.free hp
 have only : ∀ k ds, ((g5 src ρ).set j (some (S.own r0)))[k]? = some (some (.own ds)) -> k = j /\ ds = r0 := fun k ds e => by
  by_cases hk : j = k
  ·subst hk
   have hl : j < (g5 src ρ).length := by
    rcases Nat.lt_or_ge j (g5 src ρ).length with w | w
    ·exact w
    ·rw [getElem?_eq_none (by simpa using w)] at e; cases e
   rw [getElem?_set_self hl] at e; cases e; exact ⟨rfl, rfl⟩
  ·rw [getElem?_set_ne hk] at e; exact absurd e (no k ds).1
 have nob' : ∀ (k : Nat) (q : Addr) (ds : List D), ((g5 src ρ).set j (some (S.own r0)))[k]? ≠ some (some (S.ob q ds)) := fun k q ds e => (no k ds).2 q (j9 e).2
 refine ⟨⟨Same.refl F, fun b u e => ?_, r.fh.put hF, fun b e n => absurd e n, fun _ _ _ z => z⟩, by simp [rb.len], fun k d' e => ?_, fun k ds e => ?_, fun k l q ds es hkl e1 e2 => ?_, fun k q ds e => absurd e (nob' k q ds), fun k l q ds es e => absurd e (nob' k q ds), fun k l q q' ds es e => absurd e (nob' k q ds)⟩
 ·by_cases hb : b = p
  ·subst hb; rw [y8] at e ⊢; exact e
  ·rw [x6 hb] at e ⊢
   by_cases hr : b = rr
   ·rw [hr, N2] at e; cases e
   ·rw [T8 hr] at e; exact e
 ·by_cases hk : j = k
  ·subst hk
   have hl : j < (g5 src ρ).length := by
    rcases Nat.lt_or_ge j (g5 src ρ).length with w | w
    ·exact w
    ·rw [getElem?_eq_none (by simpa using w)] at e; cases e
   rw [getElem?_set_self hl] at e; cases e
  ·rw [getElem?_set_ne hk] at e
   exact rb.sh k d' e
 ·obtain ⟨rfl, rfl⟩ := only k ds e
  exact ⟨rr, xs, D2 hs ha, b, by rw [x6 hrp]; exact c, d, by rw [x6 hrp, N2]⟩
 ·exact absurd ((only k ds e1).1.trans (only l es e2).1.symm) hkl
theorem zc1 {elt : MEm} {d : D} {ds acc : List D} {ρ : Ro} {r : List D × Ro} (h : d8 elt (d :: ds) ρ acc = some r) : ∃ x ρ1, elt (ρ.set 0 (some (.sh d))) = some (x, ρ1) /\ acc.length < sizeLine /\ d8 elt ds ρ1 (acc ++ [x]) = some r := by
 rw [d8] at h
 cases h4 : elt (ρ.set 0 (some (.sh d))) with
 | none => rw [h4] at h; cases h
 | some z =>
  rw [h4] at h
  obtain ⟨x, ρ1⟩ := z
  simp only at h
  by_cases hz : acc.length < sizeLine
  ·rw [if_pos hz] at h; exact ⟨x, ρ1, rfl, hz, h⟩
  ·rw [if_neg hz] at h; cases h
theorem Rl.stayB {K : W.Frag} {F1 F H B : Hp} {σ : St} {ρ : Ro} {p : Addr} {o : HO} (r : Rl K F1 (upd B p o) F H σ ρ) (h : F1 p = none) : F p = none := by
 cases w : F p with
 | none => rfl
 | some u => have := r.ext.new p h (by rw [w]; simp); rw [y8] at this; cases this
theorem zs3 {K : PySem.W.Frag} {src : List (Option Nat)} {elt : MEm} {its out r1 : List D} {ρb ρs : Ro} {j : Nat} {F1 H1 : Hp} {σ : St} {p rr : Addr} {J : It} {Q : VK} (f1 : Same F1 H1) (hp : H1 p = none) (hrp : rr ≠ p) (hj : j ≠ 0) (I : ItD K F1 J its) (rb : Rl K F1 (upd (del H1 rr) p (.lst [])) F1 (upd H1 p (.lst [])) (blk0 src σ) ρs) (hσ0 : (blk0 src σ)[j]? = some (some (.ref rr))) (h2 : d8 elt its ρs [] = some (out, ρb)) (h3 : ρb[j]? = some (some (.own r1)))
  (q : ∀ xs zs F' H', Ext F1 (del H1 rr) F' H' -> F' rr = none -> H' rr = some (.lst zs) -> Reps K F' zs r1 -> F' p = some (.lst xs) -> Reps K F' xs out -> Q (.ref p) H') :
  ∃ W : Nat -> Nat -> St -> Hp -> Prop, (∃ m, W 0 m (blk0 src σ) (upd H1 p (.lst []))) /\ ∀ i m σ' H', W i m σ' H' ->
   (J.stop i H' /\ Q (.ref p) H') \/ (J.go i H' /\ ∃ N : St -> Hp -> Prop, (∀ σ2 H2, N σ2 H2 -> ∃ m', m' < m /\ W (i + 1) m' σ2 H2) /\ ∀ x H2, J.yld i H' x H2 -> V2 0 x σ' H2 fun σ3 H3 => tYes σ3 H3 fun b H4 =>
    if b = true then TDm K elt σ3 H4 fun y H5 => ∃ xs, H5 p = some (.lst xs) /\ xs.length < sizeLine /\ N σ3 (upd H5 p (.lst (xs ++ [y]))) else N σ3 H4) := by
 have hF1 : F1 p = none := f1.free hp
 have hdp : del H1 rr p = none := by rw [T8 (Ne.symm hrp)]; exact hp
 refine ⟨fun k m σ' H' => ∃ F' ρ' acc xs, Rl K F1 (upd (del H1 rr) p (.lst xs)) F' H' σ' ρ' /\ Reps K F' xs acc /\ σ'[j]? = some (some (.ref rr)) /\ k <= its.length /\ m = its.length - k /\ d8 elt (its.drop k) ρ' acc = some (out, ρb),
  ⟨_, F1, _, [], [], rb, .nil, hσ0, Nat.zero_le _, rfl, h2⟩, ?_⟩
 clear rb hσ0 h2
 rintro k m σ' H' ⟨F', ρ', acc, xs, rl', ra, hσ, hk', rfl, e'⟩
 by_cases hlt : k < its.length
 ·right
  have hd := getElem?_eq_getElem hlt
  refine ⟨I.go k F' H' rl'.ext.ff rl'.fh hlt, fun σ2 H2 => ∃ F2 ρ2 acc2 xs2, Rl K F1 (upd (del H1 rr) p (.lst xs2)) F2 H2 σ2 ρ2 /\ Reps K F2 xs2 acc2 /\ σ2[j]? = some (some (.ref rr)) /\ d8 elt (its.drop (k + 1)) ρ2 acc2 = some (out, ρb), ?_, fun x H2 y => ?_⟩
  ·rintro σ2 H2 ⟨F2, ρ2, acc2, xs2, b1, b2, b3, b4⟩
   exact ⟨its.length - (k + 1), Nat.sub_lt_sub_left hlt (Nat.lt_succ_self k), F2, ρ2, acc2, xs2, b1, b2, b3, hlt, rfl, b4⟩
  ·obtain ⟨F2, x2, r2⟩ := I.yld k F' H' x H2 _ rl'.ext.ff rl'.fh hd y
   rw [W1 hd] at e'
   obtain ⟨d, ρ1, h4, hz, e4⟩ := zc1 e'
   clear e' I q y hd h3
   unfold V2 tYes
   refine iteT ⟨F1, _, F2, _, d, ρ1, (rl'.go x2).set r2, h4, fun v F5 H5 rl5 s5 r5 => ?_⟩
   exact ⟨xs, rl5.ext.hh p _ y8, by rw [ra.length]; exact hz, F5, ρ1, acc ++ [d], xs ++ [v], rl5.rebaseB (rl5.stayB hF1), (ra.mono (x2.ff.trans s5)).append (.cons r5 .nil), by rw [getElem?_set_ne (Ne.symm hj)]; exact hσ, e4⟩
 ·left
  have hieq : k = its.length := Nat.le_antisymm hk' (Nat.le_of_not_lt hlt)
  subst hieq
  rw [drop_length] at e'
  have e' : some (acc, ρ') = some (out, ρb) := e'
  cases e'
  refine ⟨I.stop F' H' rl'.ext.ff rl'.fh, ?_⟩
  have hF' := rl'.stayB hF1
  obtain ⟨q', zs, f1', f2, f3, f4, f5⟩ := rl'.own j r1 h3
  rw [hσ] at f1'; cases f1'
  have x : Ext F1 (del H1 rr) F' H' := ⟨rl'.ext.ff, fun b u hb => rl'.ext.hh b u (by
    have : b ≠ p := fun w => by rw [w, hdp] at hb; cases hb
    rw [x6 this]; exact hb), rl'.fh, fun b hb n => by
    have nb : b ≠ p := fun w => by rw [w, hF'] at n; exact n rfl
    have := rl'.ext.new b hb n
    rwa [x6 nb] at this, rl'.ext.nf⟩
  have s2 : Same F' (upd F' p (.lst xs)) := (Same.refl F').put hF'
  exact q xs zs _ H' (x.freeze hF' hdp (rl'.ext.hh p _ y8)) (by rw [x6 hrp]; exact f2) f3 (f4.mono s2) y8 (ra.mono s2)
section
variable {X : Cx} {pos : Pos}
end
end
section
section
variable {X : Cx} {e : Expr} {na : MEm} {pos : Pos} {st : Stmt} {es : List Expr} {m : ML} {mf : MG} {E : XK}
open Classical in
end
end
section
section
variable {X : Cx}
end
end
section
section
variable {X : Cx} {e : Expr} {pos : Pos}
@[irreducible] def many (m : ML) : ME := fun ρ => match m ρ with | some ds => (match L0 ds with | some ns => some (.bl (ns.any fun i => i != 0)) | none => none) | none => none
end
end
section
section
variable {X : Cx} {e : Expr} {ma : ME} {pos : Pos}
end
end
section
section
variable {X : Cx} {e : Expr} {ma : ME} {pos : Pos}
end
end
section
section
variable {prog : Program} {w : World} {A : Around} {E : Value -> Shared -> Prop} {s : Shared}
end
section
variable {X : Cx}
end
end
section
section
variable {X : Cx} {a : Expr} {na : MEm} {pos : Pos} {ca : MBm}
theorem ye0 (ha : PDm X a na) (he : ∀ whole, isTrue a X.env whole = (do let v ← whole; standAt a.pos; holding [v] (truthy v)) := by intro _; rfl) : PT X a (TCm X.K (P2 na)) := (zb9 ha he).imp fun σ H Q h0 => by
 obtain ⟨F0, H0, F, ρ, b, ρ', rl, e, q⟩ := h0
 unfold P2 at e
 split at e
 ·rename_i b' ρ1 h1
  cases e
  refine ⟨F0, H0, F, ρ, _, _, rl, h1, fun x F1 H1 rl1 s1 r1 => ⟨b, ?_, q F1 H1 rl1 s1⟩⟩
  cases r1
  rfl
 ·cases e
@[irreducible] def yb2 (c : MBm) : MBm := fun ρ => match c ρ with | some (b, ρ1) => some (!b, ρ1) | none => none
theorem xs0 (ha : PT X a (TCm X.K ca)) : PT X (.UnaryOp .Not a pos) (TCm X.K (yb2 ca)) := (xz3 ha).imp fun σ H Q h0 => by
 obtain ⟨F0, H0, F, ρ, b, ρ', rl, e, q⟩ := h0
 unfold yb2 at e
 split at e
 ·rename_i k ρ1 h1
  cases e
  exact ⟨F0, H0, F, ρ, k, ρ', rl, h1, fun F1 H1 rl1 s1 => q F1 H1 rl1 s1⟩
 ·cases e
end
end
section
section
variable {X : Cx} {a b : Expr} {m : ML} {pos : Pos}
end
end
end L2
namespace L2
open List
open PySem PySem.Spec PyProof.Rows PySem.W PySem.Builtin PySem.Builtin.ObjectAttr PySem.Builtin.Getset_descriptor
section
structure XCls (K : W.Frag) (C : Addr) : Prop where
 ga : findIn K (.ref C) "__getattribute__" = some (some (.builtin "BaseException.__getattribute__"))
 nog : findIn K (.ref C) "__getattr__" = some none
 cl : findIn K (.ref C) "__class__" = some (some (.builtin "object.__class__"))
 ob : mroIn K C (.type "object") = some true
 be : mroIn K C (.type "BaseException") = some true
section
variable {prog : Program} {w : World} {A : Around} {E : Value -> Shared -> Prop} {K : W.Frag} {x C : Addr} {ox : Obj} {h : Heap} {g : Array GenState} {d : Drawn} {t : Nat} {os : OsState}
end
end
end L2
namespace L2
open List
open PySem PySem.Spec PyProof.Rows
section
structure Flown (P : Program) (w : World) (outer : List Env) (H : Hp) (s : Shared) (H' : Hp) (B h' : Heap) : Prop where
 un : Un (frs outer) [] H H' s.heap h'
 ok : HOk P w H' h'
 st : B.StaysIn h'
 trk : ∀ b o, H' b = some o -> ∃ ob, B.get? b = some ob
 old : ∀ b o, s.heap.get? b = some o -> b ∉ frs outer -> ∃ ob, B.get? b = some ob
section
variable {P : Program} {w : World} {outer : List Env} {H H' : Hp} {s : Shared} {B h1 h2 base : Heap}
end
structure Top (X : Cx) : Prop where
 stk : X.stack = X.env :: X.outer
 frm : X.env.frame = some X.env.locals
 ex : X.ex = []
section
variable {X : Cx} {pins : List (Addr × Obj)} {σ : St} {H H' : Hp} {s : Shared} {B h1 : Heap}
end
section
variable {X : Cx} {pins : List (Addr × Obj)} {σ : St} {H : Hp} {s : Shared} {W : Str -> St -> Hp -> Prop}
end
section
variable {X : Cx} {pins pins' : List (Addr × Obj)} {σ : St} {H : Hp} {s : Shared} {E : Value -> Shared -> Prop}
variable (nx : X.xe = noE)
include nx
end
end
section
section
variable {X : Cx} {st : Stmt} {rest : List Stmt} {e c : Expr} {pos : Pos}
end
end
section
section
variable {X : Cx} {pins : List (Addr × Obj)} {E : Value -> Shared -> Prop} (nx : X.xe = noE)
include nx
end
section
variable {X : Cx} {e c : Expr} {pos : Pos} {st : Stmt} {rest : List Stmt}
end
end
section
section
variable {X : Cx} {pins : List (Addr × Obj)} {σ : St} {H : Hp} {s : Shared} {a C : Addr}
end
section
variable {X : Cx} {pos np hpos : Pos}
end
end
section
structure RoomN (k : Nat) (A : Around) : Prop where
 dp : A.depth + 3 * k + 5 < recursionLimit
 un : A.units + 16 * k + 200 < cLine
structure FnOkN (P : Program) (w : World) (K : W.Frag) (mg : Str -> Option Value) (base : Heap) (CX : CXT) (k : Nat) (f : Addr) (fd : FuncData) (ps : List Str) (sp : Sp) : Prop where
 len : ∀ vs H Q E, sp vs H Q E -> vs.length = ps.length
 run : ∀ (A : Around) (outer : List Env) (s : Shared) (H : Hp) (args : Args) (us : List Value) (vs : List V) (Q : VK) (E : XK), RoomN k A -> Env0 P w K mg base A outer s H -> BindsTo s fd args (ps.zip us) -> Vals vs us -> sp vs H Q E ->
  codeAny (model P w) A (.call (.ref f) args) (CR CX outer P w H s Q E) s
section
variable {X : Cx} {CX : CXT} {k : Nat} {f : Addr} {fd : FuncData} {ps : List Str} {sp : Sp} {dvs : List V} {ds : List Value} {E : XK} {x : Str} {p pos : Pos} {e : Expr} {es : List Expr} {t : TA}
end
section
variable {X : Cx} {a : Expr} {ma : ME} {pos : Pos}
end
end
section
section
variable {X : Cx} {a : Expr} {ma : ME} {pos : Pos}
open PySem.SeqAt in
end
end
section
@[irreducible] def U7 (src : List (Option Nat)) (mi : ML) (i j : Nat) (elt : MEm) : MEm := fun ρ => match ρ[i]? with
 | some (some (.ob rr r0)) => (match mi ρ with
  | some its => (match d8 elt its ((g5 src ρ).set j (some (.own r0))) [] with
   | some (out, ρb) => (match ρb[j]? with | some (some (.own r1)) => some (.lst out, ρ.set i (some (.ob rr r1))) | _ => none)
   | none => none)
  | none => none)
 | _ => none
theorem Rl.blkJB {K : W.Frag} {F0 H0 F H : Hp} {σ : St} {ρ : Ro} (r : Rl K F0 H0 F H σ ρ) {src : List (Option Nat)} {i j : Nat} {r0 : List D} {rr p : Addr} (hs : src[j]? = some (some i)) (hi : ρ[i]? = some (some (.ob rr r0))) (hp : H p = none) :
  Rl K F (upd (del H rr) p (.lst [])) F (upd H p (.lst [])) (blk0 src σ) ((g5 src ρ).set j (some (.own r0))) := by
 obtain ⟨rb, no⟩ := r.blk src
 obtain ⟨ha, b, z, xs, c, d⟩ := r.ob i rr r0 hi
 have hrp : rr ≠ p := fun w => by rw [w, hp] at c; cases c
 have hF : F p = none := r.fh.free hp
 have only : ∀ k ds, ((g5 src ρ).set j (some (S.own r0)))[k]? = some (some (.own ds)) -> k = j /\ ds = r0 := fun k ds e => by
  by_cases hk : j = k
  ·subst hk
   have hl : j < (g5 src ρ).length := by
    rcases Nat.lt_or_ge j (g5 src ρ).length with w | w
    ·exact w
    ·rw [getElem?_eq_none (by simpa using w)] at e; cases e
   rw [getElem?_set_self hl] at e; cases e; exact ⟨rfl, rfl⟩
  ·rw [getElem?_set_ne hk] at e; exact absurd e (no k ds).1
 have nob' : ∀ (k : Nat) (q : Addr) (ds : List D), ((g5 src ρ).set j (some (S.own r0)))[k]? ≠ some (some (S.ob q ds)) := fun k q ds e => (no k ds).2 q (j9 e).2
 refine ⟨⟨Same.refl F, fun b u e => ?_, r.fh.put hF, fun b e n => absurd e n, fun _ _ _ z => z⟩, by simp [rb.len], fun k d' e => ?_, fun k ds e => ?_, fun k l q ds es hkl e1 e2 => ?_, fun k q ds e => absurd e (nob' k q ds), fun k l q ds es e => absurd e (nob' k q ds), fun k l q q' ds es e => absurd e (nob' k q ds)⟩
 ·by_cases hb : b = p
  ·subst hb; rw [y8] at e ⊢; exact e
  ·rw [x6 hb] at e ⊢
   by_cases hr : b = rr
   ·rw [hr, N2] at e; cases e
   ·rw [T8 hr] at e; exact e
 ·by_cases hk : j = k
  ·subst hk
   have hl : j < (g5 src ρ).length := by
    rcases Nat.lt_or_ge j (g5 src ρ).length with w | w
    ·exact w
    ·rw [getElem?_eq_none (by simpa using w)] at e; cases e
   rw [getElem?_set_self hl] at e; cases e
  ·rw [getElem?_set_ne hk] at e
   exact rb.sh k d' e
 ·obtain ⟨rfl, rfl⟩ := only k ds e
  exact ⟨rr, xs, D2 hs ha, b, by rw [x6 hrp]; exact c, d, by rw [x6 hrp, N2]⟩
 ·exact absurd ((only k ds e1).1.trans (only l es e2).1.symm) hkl
theorem yj5 {K : W.Frag} {src : List (Option Nat)} {mi : ML} {i j : Nat} {elt : MEm} (hs : src[j]? = some (some i)) (hj : j ≠ 0) {σ : St} {H : Hp} {Q : VK} (h : TDm K (U7 src mi i j elt) σ H Q) : C4 src (TId K mi) (V2 0) tYes (TDm K elt) σ H Q := by
 obtain ⟨F0, H0, F, ρ, g, ρ', rl, e, q⟩ := h
 unfold U7 at e
 split at e
 ·rename_i rr r0 hi
  split at e
  ·rename_i its h1
   split at e
   ·rename_i out ρb h2
    split at e
    ·rename_i r1 h3
     cases e
     refine ⟨F0, H0, F, ρ, its, rl, h1, fun J F1 H1 x1 I p hp => ?_⟩
     have rl1 := rl.go x1
     obtain ⟨a1, a2, a5, ys, a3, a4⟩ := rl1.ob i rr r0 hi
     have hrp : rr ≠ p := fun w => by rw [w, hp] at a3; cases a3
     exact zs3 x1.fh hp hrp hj I (rl1.blkJB hs hi hp) (D2 hs a1) h2 h3 fun xs zs F' H' xf b1 b2 b3 b4 b5 => q _ _ _ (rl1.lentB hi xf b1 b2 b3) (x1.ff.trans xf.ff) (.lst (SqL.of b4) b5)
    ·cases e
   ·cases e
  ·cases e
 ·cases e
section
variable {X : Cx} {pos : Pos}
end
end
section
section
variable {X : Cx} {v : Expr} {mv : ME} {pos : Pos}
end
end
section
def insI (a : Int) : List Int -> List Int
 | [] => [a]
 | b :: r => if a <= b then a :: b :: r else b :: insI a r
def G1 : List Int -> List Int
 | [] => []
 | a :: r => insI a (G1 r)
theorem zx7 (a : Int) : ∀ r, (insI a r).Perm (a :: r)
 | [] => .refl _
 | b :: r => by
  unfold insI
  split
  ·exact .refl _
  ·exact ((zx7 a r).cons b).trans (.swap a b r)
theorem N0 : ∀ ns, (G1 ns).Perm ns
 | [] => .refl _
 | a :: r => (zx7 a _).trans ((N0 r).cons a)
theorem zx6 (a : Int) : ∀ r, r.Pairwise (· <= ·) -> (insI a r).Pairwise (· <= ·)
 | [], _ => pairwise_singleton ..
 | b :: r, h => by
  have h' := List.pairwise_cons.mp h
  unfold insI
  split
  ·rename_i hab
   refine List.pairwise_cons.mpr ⟨fun x hx => ?_, h⟩
   rcases List.mem_cons.mp hx with e | hx
   ·rw [e]; exact hab
   ·exact Int.le_trans hab (h'.1 x hx)
  ·rename_i hab
   refine List.pairwise_cons.mpr ⟨fun x hx => ?_, zx6 a r h'.2⟩
   rcases List.mem_cons.mp ((zx7 a r).mem_iff.mp hx) with e | hx
   ·rw [e]; omega
   ·exact h'.1 x hx
theorem D4 : ∀ ns, (G1 ns).Pairwise (· <= ·)
 | [] => .nil
 | a :: r => zx6 a _ (D4 r)
theorem zz2 : ∀ {a b : List Int}, a.Perm b -> a.Pairwise (· <= ·) -> b.Pairwise (· <= ·) -> a = b
 | [], b, p, _, _ => (List.Perm.nil_eq p)
 | x :: a, [], p, _, _ => absurd p.length_eq (by simp)
 | x :: a, y :: b, p, ha, hb => by
  have h1 := List.pairwise_cons.mp ha
  have h2 := List.pairwise_cons.mp hb
  have e : x = y := by
   have m1 : x ∈ y :: b := p.mem_iff.mp mem_cons_self
   have m2 : y ∈ x :: a := p.mem_iff.mpr mem_cons_self
   rcases List.mem_cons.mp m1 with e | m1
   ·exact e
   ·rcases List.mem_cons.mp m2 with e | m2
    ·exact e.symm
    ·have := h2.1 x m1
     have := h1.1 y m2
     omega
  subst e
  rw [zz2 ((perm_cons x).mp p) h1.2 h2.2]
theorem D5 (ns : List Int) : (G1 ns).length = ns.length := (N0 ns).length_eq
theorem zj3 : ∀ {ns : List Int} {its : List Value}, Vals (ns.map V.int) its -> IntsAre its ns
 | [], _, .nil => .nil
 | n :: ns, _, .cons r t => by
  obtain ⟨k, rfl⟩ := r
  exact .cons n k (zj3 t)
theorem zu7 : ∀ {ns : List Int} {its : List Value}, IntsAre its ns -> Vals (ns.map V.int) its
 | [], _, .nil => .nil
 | n :: ns, _, .cons _ k t => .cons ⟨k, rfl⟩ (zu7 t)
section
variable {X : Cx} {e : Expr} {pos : Pos}
def xv9 (K : W.Frag) : List V -> Hp -> VK -> Prop := fun vs H Q => ∃ (p : Addr) (ns : List Int), vs = [.ref p] /\ SqL K H p (ns.map V.int) /\ ns.length < 64 /\ ∀ q, H q = none -> Q (.ref q) (upd H q (.lst ((G1 ns).map V.int)))
theorem zc3 : zu4 X (.builtin "sorted") (xv9 X.K) := by
 intro pins s σ H xs us Q I r h
 obtain ⟨p, ns, rfl, sq, h64, q⟩ := h
 obtain ⟨u, rfl, rx⟩ := C3 r
 cases rx
 obtain ⟨its, vr, pl, hz⟩ := I.list sq
 have hl : its.length = ns.length := by rw [<- vr.length, length_map]
 refine sorted_ints pl.isList (zj3 vr) (by rw [hl]; exact h64) fun out ns' a1 a2 a3 => ?_
 have e : ns' = G1 ns := zz2 (a2.trans (N0 ns).symm) a3 (D4 ns)
 subst e
 obtain ⟨c, hc⟩ := sortedAll_at s.heap its out
 refine ⟨.ref (s.heap.objs.size + 1), _, I.laid (t' := s.toks) (o := .lst ((G1 ns).map V.int)) (fun b o z => sortedAll_old z) (Nat.le_succ _) ⟨?_, out.toList, c, zu7 a1, by simpa using hc⟩, rfl, q _ (I.hok.fresh (Nat.le_succ _))⟩
 rw [length_map, D5, sizeLine_eq]; omega
@[irreducible] def zq4 (m : ML) : ML := fun ρ => match m ρ with | some ds => (match L0 ds with | some ns => if ns.length < 64 then some ((G1 ns).map .int) else none | none => none) | none => none
theorem yp1 {p : Pos} {m : ML} (hg : Gl X "sorted") (hm : X.mg "sorted" = none) (ha : PB X e m) (hv : bootBuiltins "sorted" = some (.builtin "sorted")) (hs : starEach (e :: []) X.env = (false, eval e X.env) :: starEach [] X.env := by rfl) (he : starEach [e] X.env = (false, eval e X.env) :: starEach [] X.env := by rfl) (hpl : (backTo pos (starEach [] X.env)).any (·.1) = false := by rfl) : PF X (.Call (.Name "sorted" p) [e] [] pos) (zq4 m) :=
 (O6 zc3 hg hm hv (f7 ha pa_nil hs) (by decide) (by decide) he hpl).imp fun σ H Q hpat => by
  obtain ⟨F0, H0, F, ρ, g, rl, e, q⟩ := hpat
  unfold zq4 at e
  cases h1 : m ρ with
  | none => simp only [h1] at e; cases e
  | some ds =>
   simp only [h1] at e
   cases h2 : L0 ds with
   | none => simp only [h2] at e; cases e
   | some ns =>
    simp only [h2] at e
    split at e
    ·rename_i h64
     cases e
     refine ⟨F0, H0, F, ρ, ds, rl, h1, fun p xs F1 H1 x1 s1 r1 => ⟨p, ns, rfl, ?_, h64, fun w hw => ?_⟩⟩
     ·rw [<- N1 r1 h2]; exact s1
     ·exact q w _ F1 _ (x1.trans (Ext.own x1.fh hw)) (x1.hh.free hw) (x1.fh.free hw) y8 (zz6 _)
    ·cases e
end
end
section
section
variable {X : Cx} {pins : List (Addr × Obj)} {σ : St}
end
end
section
inductive RPs (K : W.Frag) (F H : Hp) : List Addr -> List (List D) -> Prop
 | nil : RPs K F H [] []
 | cons {q : Addr} {xs : List V} {ds : List D} {qs : List Addr} {dss : List (List D)} : H q = some (.lst xs) -> Reps K F xs ds -> RPs K F H qs dss -> RPs K F H (q :: qs) (ds :: dss)
section
variable {K : W.Frag} {F H F' H' : Hp}
theorem RPs.mono (e : Same F F') (k : Same H H') : ∀ {qs : List Addr} {dss : List (List D)}, RPs K F H qs dss -> RPs K F' H' qs dss
 | _, _, .nil => .nil
 | _, _, .cons h r t => .cons (k _ _ h) (r.mono e) (RPs.mono e k t)
theorem RPs.keep (e : Same F F') : ∀ {qs : List Addr} {dss : List (List D)}, (∀ q ∈ qs, ∀ o, H q = some o -> H' q = some o) -> RPs K F H qs dss -> RPs K F' H' qs dss
 | _, _, _, .nil => .nil
 | _, _, k, .cons h r t => .cons (k _ mem_cons_self _ h) (r.mono e) (RPs.keep e (fun q hq => k q (mem_cons_of_mem _ hq)) t)
theorem RPs.snoc {q : Addr} {xs : List V} {ds : List D} (h : H q = some (.lst xs)) (r : Reps K F xs ds) : ∀ {qs : List Addr} {dss : List (List D)}, RPs K F H qs dss -> RPs K F H (qs ++ [q]) (dss ++ [ds])
 | _, _, .nil => .cons h r .nil
 | _, _, .cons a b t => .cons a b (RPs.snoc h r t)
theorem RPs.length : ∀ {qs : List Addr} {dss : List (List D)}, RPs K F H qs dss -> qs.length = dss.length
 | _, _, .nil => rfl
 | _, _, .cons _ _ t => congrArg (· + 1) (RPs.length t)
theorem RPs.get : ∀ {qs : List Addr} {dss : List (List D)} {i : Nat} {ds : List D}, RPs K F H qs dss -> dss[i]? = some ds -> ∃ q xs, qs[i]? = some q /\ H q = some (.lst xs) /\ Reps K F xs ds
 | _, _, _, _, .nil, e => by simp at e
 | _, _, 0, _, .cons a b _, e => by simp at e; subst e; exact ⟨_, _, rfl, a, b⟩
 | _, _, i + 1, ds, .cons _ _ t, e => by
  obtain ⟨q, xs, h1, h2⟩ := RPs.get (i := i) (ds := ds) t (by simpa using e)
  exact ⟨q, xs, by simpa using h1, h2⟩
theorem RPs.some : ∀ {qs : List Addr} {dss : List (List D)}, RPs K F H qs dss -> ∀ q ∈ qs, ∃ o, H q = some o
 | _, _, .cons a _ t, q, hq => by
  rcases List.mem_cons.mp hq with e | hq
  ·rw [e]; exact ⟨_, a⟩
  ·exact RPs.some t q hq
end
abbrev MP := Ro -> Option (List (List D))
structure Pots (K : W.Frag) (H F' H' : Hp) (p : Addr) (qs : List Addr) (dss : List (List D)) : Prop where
 hp : H p = none
 fp : F' p = none
 at' : H' p = some (.lst (qs.map V.ref))
 new : ∀ q ∈ qs, H q = none /\ F' q = none
 nd : (p :: qs).Nodup
 rep : RPs K F' H' qs dss
def TPt (K : W.Frag) (m : MP) : TE := fun σ H Q => ∃ F0 H0 F ρ dss, Rl K F0 H0 F H σ ρ /\ m ρ = some dss /\ ∀ p qs F' H', Ext F H F' H' -> Pots K H F' H' p qs dss -> Q (.ref p) H'
def PP (X : Cx) (e : Expr) (m : MP) : Prop := PE X e (TPt X.K m)
theorem Ext.stays {F H F' H' : Hp} {p : Addr} {o : HO} (x : Ext F H F' H') (hF : F p = none) (hH : H p = some o) : F' p = none := by
 cases q : F' p with
 | none => rfl
 | some u => have := x.new p hF (by rw [q]; simp); rw [this] at hH; cases hH
section
variable {X : Cx} {a b c e : Expr} {pos : Pos}
def yn2 (m : ML) : MP := fun ρ => (m ρ).map fun ds => [ds]
theorem xu5 {m : ML} (ha : PF X a m) (hs : starEach (a :: []) X.env = (false, eval a X.env) :: starEach [] X.env := by rfl) : PP X (.List [a] pos) (yn2 m) := (yp3 (f7 ha pa_nil hs)).imp fun σ H Q hpat => by
 obtain ⟨F0, H0, F, ρ, dss, rl, e, q⟩ := hpat
 unfold yn2 at e
 cases h1 : m ρ with
 | none => rw [h1] at e; cases e
 | some ds =>
  rw [h1] at e; cases e
  refine ⟨F0, H0, F, ρ, ds, rl, h1, fun w xs F1 H1 x1 hw hF hH rs => ⟨by show 1 <= sizeLine; rw [sizeLine_eq]; decide, fun p hp => ?_⟩⟩
  have hne : w ≠ p := fun z => by rw [z, hp] at hH; cases hH
  refine q p [w] F1 _ (x1.trans (Ext.own x1.fh hp)) ⟨x1.hh.free hp, x1.fh.free hp, y8, fun z hz => ?_, ?_, .cons (by rw [x6 hne]; exact hH) rs .nil⟩
  ·rw [List.mem_singleton.mp hz]; exact ⟨hw, hF⟩
  ·simp only [nodup_cons, mem_singleton, not_mem_nil, not_false_eq_true, nodup_nil, and_true]
   exact fun z => hne z.symm
def zp4 (g : Tg) (elt : ML) : List D -> Ro -> List (List D) -> Option (List (List D))
 | [], _, acc => some acc
 | it :: its, ρ, acc => match tgD g it ρ with
  | some ρ1 => (match elt ρ1 with
   | some ds => if acc.length < sizeLine then zp4 g elt its ρ1 (acc ++ [ds]) else none
   | none => none)
  | none => none
def zt8 (src : List (Option Nat)) (mi : ML) (g : Tg) (elt : ML) : MP := fun ρ => (mi ρ).bind fun its => zp4 g elt its (g5 src ρ) []
theorem xp4 {K : W.Frag} {src : List (Option Nat)} {mi : ML} {g : Tg} {elt : ML} {σ : St} {H : Hp} {Q : VK} (h : TPt K (zt8 src mi g elt) σ H Q) : C4 src (TId K mi) (TGd K g) (TC K cyes) (TF K elt) σ H Q := by
 obtain ⟨F0, H0, F, ρ, out, rl, e, q⟩ := h
 unfold zt8 at e
 cases h1 : mi ρ with
 | none => rw [h1] at e; cases e
 | some its =>
  rw [h1] at e
  have e : zp4 g elt its (g5 src ρ) [] = some out := e
  refine ⟨F0, H0, F, ρ, its, rl, h1, fun J F1 H1 x1 I => ?_⟩
  intro p hp
  obtain ⟨rb, no⟩ := (rl.go x1).blk src
  have hF1 : F1 p = none := x1.fh.free hp
  refine ⟨fun i m σ' H' => ∃ F' ρ' acc qs, Rl K F1 H1 F' H' σ' ρ' /\ NoOwn ρ' /\ H' p = some (.lst (qs.map V.ref)) /\ F' p = none /\ RPs K F' H' qs acc /\ (∀ w ∈ qs, H1 w = none /\ F' w = none) /\ (p :: qs).Nodup /\ i <= its.length /\ m = its.length - i /\ zp4 g elt (its.drop i) ρ' acc = some out,
   ⟨_, F1, g5 src ρ, [], [], rb.other no hp hF1, no, y8, hF1, .nil, (fun w hw => by cases hw), by simp, Nat.zero_le _, rfl, e⟩, ?_⟩
  rintro i m σ' H' ⟨F', ρ', acc, qs, rl', no', hH', hF', ra, hnew, hnd, hi', rfl, e'⟩
  by_cases hlt : i < its.length
  ·right
   have hd := getElem?_eq_getElem hlt
   refine ⟨I.go i F' H' rl'.ext.ff rl'.fh hlt, fun σ2 H2 => ∃ F2 ρ2 acc2 qs2, Rl K F1 H1 F2 H2 σ2 ρ2 /\ NoOwn ρ2 /\ H2 p = some (.lst (qs2.map V.ref)) /\ F2 p = none /\ RPs K F2 H2 qs2 acc2 /\ (∀ w ∈ qs2, H1 w = none /\ F2 w = none) /\ (p :: qs2).Nodup /\ zp4 g elt (its.drop (i + 1)) ρ2 acc2 = some out, ?_, fun x H2 y => ?_⟩
   ·rintro σ2 H2 ⟨F2, ρ2, acc2, qs2, b1, b2, b3, b4, b5, b6, b7, b8⟩
    exact ⟨its.length - (i + 1), by omega, F2, ρ2, acc2, qs2, b1, b2, b3, b4, b5, b6, b7, hlt, rfl, b8⟩
   ·obtain ⟨F2, x2, r2⟩ := I.yld i F' H' x H2 _ rl'.ext.ff rl'.fh hd y
    rw [W1 hd] at e'
    unfold zp4 at e'
    cases h2 : tgD g its[i] ρ' with
    | none => simp only [h2] at e'; cases e'
    | some ρ1 =>
     simp only [h2] at e'
     refine ⟨F1, H1, F2, ρ', _, ρ1, rl'.go x2, r2, h2, fun F3 H3 σ3 rl3 x3 => ?_⟩
     have no1 := no'.tg h2
     have x23 := x2.trans x3
     refine ⟨F1, H1, F3, ρ1, true, rl3, rfl, fun F4 H4 x4 => iteT ?_⟩
     have x24 := x23.trans x4
     cases h4 : elt ρ1 with
     | none => simp only [h4] at e'; cases e'
     | some ds =>
      simp only [h4] at e'
      split at e'
      ·rename_i hz
       refine ⟨F1, H1, F4, ρ1, ds, rl3.go x4, h4, fun w xs F5 H5 x5 hw hwF hwH r5 => ?_⟩
       have x25 := x24.trans x5
       have hp5 := x25.hh _ _ hH'
       have hwp : w ≠ p := fun z => by rw [z, x24.hh _ _ hH'] at hw; cases hw
       have ra5 : RPs K F5 H5 qs acc := ra.mono x25.ff x25.hh
       have hwq : w ∉ qs := fun z => by
        obtain ⟨o, ho⟩ := ra.some w z
        rw [x24.hh _ _ ho] at hw; cases hw
       refine ⟨qs.map V.ref, hp5, by rw [length_map, ra.length]; exact hz, F5, ρ1, acc ++ [ds], qs ++ [w], ((rl3.go x4).go x5).other no1 hp (x25.stays hF' hH'), no1, by rw [y8, map_append]; rfl, x25.stays hF' hH', ?_, fun z hz' => ?_, ?_, e'⟩
       ·refine ((ra5.snoc hwH r5)).keep (Same.refl _) fun z hz' o ho => ?_
        have : z ≠ p := by
         rcases List.mem_append.mp hz' with z1 | z1
         ·exact fun zz => (List.nodup_cons.mp hnd).1 (zz ▸ z1)
         ·rw [List.mem_singleton.mp z1]; exact hwp
        rw [x6 this]; exact ho
       ·rcases List.mem_append.mp hz' with z1 | z1
        ·obtain ⟨o, ho⟩ := ra.some z z1
         exact ⟨(hnew z z1).1, x25.stays (hnew z z1).2 ho⟩
        ·rw [List.mem_singleton.mp z1]
         exact ⟨(rl3.go x4).ext.hh.free hw, hwF⟩
       ·have hn := List.nodup_cons.mp hnd
        refine List.nodup_cons.mpr ⟨fun z => ?_, List.nodup_append.mpr ⟨hn.2, by simp, fun a ha b hb => ?_⟩⟩
        ·rcases List.mem_append.mp z with z1 | z1
         ·exact hn.1 z1
         ·exact hwp (List.mem_singleton.mp z1).symm
        ·rw [List.mem_singleton.mp hb]; exact fun zz => hwq (zz ▸ ha)
      ·cases e'
  ·left
   have hieq : i = its.length := by omega
   subst hieq
   rw [drop_length] at e'
   have e' : some acc = some out := e'
   cases e'
   exact ⟨I.stop F' H' rl'.ext.ff rl'.fh, q p qs F' H' (x1.trans rl'.ext) ⟨x1.hh.free hp, hF', hH', fun w hw => ⟨x1.hh.free (hnew w hw).1, (hnew w hw).2⟩, hnd, ra⟩⟩
theorem xu6 {sc : Scope} {N : List Str} {src : List (Option Nat)} {tg elt iter : Expr} {mi : ML} {g : Tg} {me : ML} (B : Blk X sc N src) (hc : X.calm = true)
  (hi : PId X tg iter mi) (hg : ∀ C fp s H, PGd (Y8 X sc C N fp s H) tg g) (he : ∀ C fp s H, PF (Y8 X sc C N fp s H) elt me)
  (hs : ∀ x, foldedSetIterable iter X.env x = pure x := by intro _; rfl) :
  PP X (.ListComp elt [⟨tg, iter, [], 0⟩] sc pos) (zt8 src mi g me) := (zr7 (g := TGd X.K g) (tc := TC X.K cyes) (te := TF X.K me) B hc hi (fun C fp s H => hg C fp s H) (fun C fp s H => a7) (fun C fp s H => he C fp s H) hs).imp fun _ _ _ h => xp4 h
end
abbrev MFP := List D -> Option (List (List D))
def spP (K : W.Frag) (n : Nat) (m : MFP) : Sp := fun vs H Q _ => vs.length = n /\ ∃ F ds dss, Same F H /\ Reps K F vs ds /\ m ds = some dss /\ ∀ p qs F' H', Ext F H F' H' -> Pots K H F' H' p qs dss -> Q (.ref p) H'
def runP (n : Nat) (c : MB) (m1 m2 : MP) : MFP := fun ds => match c (u5 n ds) with
 | some true => m1 (u5 n ds)
 | some false => m2 (u5 n ds)
 | none => none
theorem Fun.okP {P : Program} {w : World} {K : W.Frag} {mg : Str -> Option Value} {base : Heap} {x qual : Str} {st : Stmt} {f : Addr} {fd : FuncData} {N ps : List Str} {k : Nat} {c e1 e2 : Expr} {p1 p2 p3 : Pos} {cc : MB} {m1 m2 : MP} (Fn : Fun K x qual st f fd) (Sc : FnScope N ps (y4 st))
  (hst : b9 st = [.If c [.Return (some e1) p1] [] p2, .Return (some e2) p3])
  (hc : ∀ (cdv : Value) (A : Around) (outer : List Env) (s : Shared) (H : Hp) (E : XK), Room k (A.deeper (envOfC qual (y4 st) s.heap.objs.size f cdv)) -> PC' (cxOf CX0 P w K mg base N qual (y4 st) f cdv A outer s H E).nox c cc)
  (h1 : ∀ (cdv : Value) (A : Around) (outer : List Env) (s : Shared) (H : Hp) (E : XK), Room k (A.deeper (envOfC qual (y4 st) s.heap.objs.size f cdv)) -> PP (cxOf CX0 P w K mg base N qual (y4 st) f cdv A outer s H E).nox e1 m1)
  (h2 : ∀ (cdv : Value) (A : Around) (outer : List Env) (s : Shared) (H : Hp) (E : XK), Room k (A.deeper (envOfC qual (y4 st) s.heap.objs.size f cdv)) -> PP (cxOf CX0 P w K mg base N qual (y4 st) f cdv A outer s H E).nox e2 m2) :
  FnOk P w K mg base CX0 (k + 1) f fd ps (spP K ps.length (runP N.length cc m1 m2)) := by
 refine Fn.ok Sc (fun vs H Q E h => h.1) fun cdv A outer s H vs Q E hr h => ?_
 obtain ⟨hl, F, ds, dss, sf, rs, e, ok⟩ := h
 rw [hst]
 refine ⟨_, B9 (yf2 (hc cdv A outer s H E hr) (zr4 (Q4 (h1 cdv A outer s H E hr))) pss_nil) (zr4 (Q4 (h2 cdv A outer s H E hr))), ?_⟩
 have rl := B6 (N := N) sf rs
 unfold runP at e
 cases q : cc (u5 N.length ds) with
 | none => simp only [q] at e; cases e
 | some b =>
  simp only [q] at e
  refine ⟨F, H, F, u5 N.length ds, b, rl, q, fun F1 H1 x1 => ?_⟩
  cases b with
  | true =>
   refine iteT ⟨F, H, F1, _, dss, rl.go x1, e, fun p qs F2 H2 x2 pt => ?_⟩
   exact ok p qs F2 H2 (x1.trans x2) ⟨x1.hh.free pt.hp, pt.fp, pt.at', fun z hz => ⟨x1.hh.free (pt.new z hz).1, (pt.new z hz).2⟩, pt.nd, pt.rep⟩
  | false =>
   refine iteF ⟨F, H, F1, _, dss, rl.go x1, e, fun p qs F2 H2 x2 pt => ?_⟩
   exact ok p qs F2 H2 (x1.trans x2) ⟨x1.hh.free pt.hp, pt.fp, pt.at', fun z hz => ⟨x1.hh.free (pt.new z hz).1, (pt.new z hz).2⟩, pt.nd, pt.rep⟩
end
section
def Hx (H0 H1 : Hp) (A : List Addr) : Hp := fun b => if b ∈ A then H1 b else H0 b
theorem zb0 {H0 H1 : Hp} {A : List Addr} {b : Addr} (h : b ∈ A) : Hx H0 H1 A b = H1 b := if_pos h
theorem C2 {H0 H1 : Hp} {A : List Addr} {b : Addr} (h : b ∉ A) : Hx H0 H1 A b = H0 b := if_neg h
theorem Ext.less {F0 H0 H0' F H : Hp} (s : Same H0 H0') (x : Ext F0 H0' F H) : Ext F0 H0 F H := ⟨x.ff, s.trans x.hh, x.fh, fun b e n => s.free (x.new b e n), x.nf⟩
section
variable {K : W.Frag} {F0 H0 H0' F H : Hp} {σ : St} {ρ : Ro}
theorem Rl.less (s : Same H0 H0') (r : Rl K F0 H0' F H σ ρ) : Rl K F0 H0 F H σ ρ where
 ext := r.ext.less s
 len := r.len
 sh := r.sh
 own := fun i ds h => let ⟨p, xs, a, b, c, d, z⟩ := r.own i ds h; ⟨p, xs, a, b, c, d, s.free z⟩
 inj := r.inj
 ob := fun i p ds h => let ⟨a, b, c, d⟩ := r.ob i p ds h; ⟨a, b, s.free c, d⟩
 obn := r.obn
 ob1 := r.ob1
theorem okO.less {Fb : Hp} {Dn : Ends} (s : Same H0 H0') : ∀ {o : Out}, okO K F0 H0 Fb Dn o -> okO K F0 H0' Fb Dn o
 | .nx _, h => fun F H σ rl q => h F H σ (rl.less s) q
 | .bk _, h => fun F H σ rl q => h F H σ (rl.less s) q
 | .ct _, h => fun F H σ rl q => h F H σ (rl.less s) q
 | .rt _, h => fun v F H x r => h v F H (x.less s) r
 | .rf _, h => fun p xs F H x a b c d => h p xs F H (x.less s) (s.free a) b c d
 | .rp _ _, h => fun t v p xs F H x a b c d e f g i j => h t v p xs F H (x.less s) (s.free a) (s.free b) c d e f g i j
 | .rg _ _ _, h => fun v F H xs x a b c d => h v F H xs (x.less s) a b c d
 | .rgf _ _ _, h => fun q ys F H xs x a b c d e f g i => h q ys F H xs (x.less s) (s.free a) b c d e f g i
end
section
variable {X : Cx} {a b c e : Expr} {pos : Pos} {st : Stmt}
variable {E : XK} {es : List Expr} {m : ML}
def yz9 (f : MFP) (m : ML) : MP := fun ρ => (m ρ).bind f
theorem xu7 {n : Nat} {mf : MFP} (h : ∀ t, PA X es t -> PE X e (yw3 (spP X.K n mf) [] E t)) (hl : es.length = n) (ha : PAs X es m) (hm : ∀ ρ ds, m ρ = some ds -> ds.length = es.length) : PP X e (yz9 mf m) := (h _ ha).imp fun σ H Q hpat => by
 obtain ⟨F0, H0, F, ρ, d, rl, e, q⟩ := hpat
 unfold yz9 at e
 cases h1 : m ρ with
 | none => rw [h1] at e; cases e
 | some ds =>
  rw [h1] at e
  refine ⟨F0, H0, F, ρ, ds, rl, h1, fun vs F1 H1 x1 r1 => ?_⟩
  show spP X.K n mf (vs ++ []) H1 Q E
  rw [append_nil]
  refine ⟨by rw [r1.length, hm ρ ds h1, hl], F1, ds, d, x1.fh, r1, e, fun p qs F2 H2 x2 pt => ?_⟩
  exact q p qs F2 H2 (x1.trans x2) ⟨x1.hh.free pt.hp, pt.fp, pt.at', fun z hz => ⟨x1.hh.free (pt.new z hz).1, (pt.new z hz).2⟩, pt.nd, pt.rep⟩
theorem xc7 {t : TE} {i : Nat} {na : MEm} (h : PS X st (tAsg t (V2 i))) (ht : ∀ σ H Q, TDm X.K na σ H Q -> t σ H Q) : PSd X st (X9 i na) := h.imp fun D σ H hpat => by
 obtain ⟨F0, H0, F, ρ, o, rl, e, ok⟩ := hpat
 unfold X9 at e
 split at e
 ·rename_i d ρ1 h1
  cases e
  exact ht _ _ _ ⟨F0, H0, F, ρ, d, ρ1, rl, h1, fun v F1 H1 rl1 s1 r1 => ok F1 H1 _ (rl1.set r1) s1⟩
 ·cases e
theorem E4 {k i j : Nat} {src : List (Option Nat)} {mi : ML} {me : MEm} (hsj : src[j]? = some (some i)) (hj : j ≠ 0) (h : PS X st (tAsg (C4 src (TId X.K mi) (V2 0) tYes (TDm X.K me)) (V2 k))) : PSd X st (X9 k (U7 src mi i j me)) := xc7 h fun _ _ _ q => yj5 hsj hj q
end
end
section
section
variable {K : W.Frag} {F0 H0 F H : Hp} {σ : St} {ρ : Ro}
end
end
section
section
variable {X : Cx} {a b : Expr} {ma mb : ME} {pos : Pos}
end
section
variable {X : Cx} {a b : Expr}
open PySem.SeqAt in
end
end
section
section
variable {X : Cx} {a b c e o : Expr} {ma mb mo : ME} {pos : Pos} {st : Stmt}
end
open Classical in
section
variable {X : Cx} {pos : Pos}
end
end
section
section
variable {X : Cx} {st : Stmt}
end
end
section
inductive Fl where
 | v (d : D) | l (ds : List D)
inductive Cell where
 | ins (c : Str) (ns : List Str) (fs : List Fl)
 | row (fs : List Fl)
abbrev Bx := List (Addr × Cell)
inductive FlR (K : W.Frag) (F B : Hp) : List Addr -> List V -> List Fl -> Prop
 | nil : FlR K F B [] [] []
 | v {fp : List Addr} {x : V} {d : D} {xs : List V} {fs : List Fl} : Rep K F x d -> FlR K F B fp xs fs -> FlR K F B fp (x :: xs) (.v d :: fs)
 | l {fp : List Addr} {q : Addr} {ys : List V} {ds : List D} {xs : List V} {fs : List Fl} : B q = some (.lst ys) -> Reps K F ys ds -> FlR K F B fp xs fs -> FlR K F B (q :: fp) (.ref q :: xs) (.l ds :: fs)
inductive CellR (K : W.Frag) (F B : Hp) : List Addr -> Addr -> Cell -> Prop
 | ins {fp : List Addr} {p dx C : Addr} {c : Str} {ns : List Str} {xs : List V} {fs : List Fl} : W.nsIn K mainGlobals c = some (some (.ref C)) -> ns.length = xs.length -> B p = some (.ins C dx (ns.zip xs)) -> B dx = some (.own p) -> FlR K F B fp xs fs ->
   CellR K F B (p :: dx :: fp) p (.ins c ns fs)
 | row {fp : List Addr} {p : Addr} {xs : List V} {fs : List Fl} : B p = some (.lst xs) -> FlR K F B fp xs fs -> CellR K F B (p :: fp) p (.row fs)
inductive BxR (K : W.Frag) (F B : Hp) : List Addr -> Bx -> Prop
 | nil : BxR K F B [] []
 | cons {fp fq : List Addr} {p : Addr} {c : Cell} {β : Bx} : CellR K F B fp p c -> BxR K F B fq β -> BxR K F B (fp ++ fq) ((p, c) :: β)
section
variable {K : W.Frag} {F F' B B' : Hp}
theorem FlR.mono (e : Same F F') {fp : List Addr} {xs : List V} {fs : List Fl} (h : FlR K F B fp xs fs) (k : ∀ a ∈ fp, B' a = B a) : FlR K F' B' fp xs fs := by
 induction h with
 | nil => exact .nil
 | v r _ ih => exact .v (r.mono e) (ih k)
 | l b r _ ih => exact .l (by rw [k _ (by simp)]; exact b) (r.mono e) (ih fun a ha => k a (mem_cons_of_mem _ ha))
theorem CellR.mono (e : Same F F') {fp : List Addr} {p : Addr} {c : Cell} (h : CellR K F B fp p c) (k : ∀ a ∈ fp, B' a = B a) : CellR K F' B' fp p c := by
 cases h with
 | ins a l b d r => exact .ins a l (by rw [k _ (by simp)]; exact b) (by rw [k _ (by simp)]; exact d) (r.mono e fun a ha => k a (by simp [ha]))
 | row b r => exact .row (by rw [k _ (by simp)]; exact b) (r.mono e fun a ha => k a (by simp [ha]))
theorem BxR.mono (e : Same F F') {fp : List Addr} {β : Bx} (h : BxR K F B fp β) (k : ∀ a ∈ fp, B' a = B a) : BxR K F' B' fp β := by
 induction h with
 | nil => exact .nil
 | cons c _ ih => exact .cons (c.mono e fun a ha => k a (by simp [ha])) (ih fun a ha => k a (by simp [ha]))
theorem FlR.mem {fp : List Addr} {xs : List V} {fs : List Fl} (h : FlR K F B fp xs fs) : ∀ a ∈ fp, B a ≠ none := by
 induction h with
 | nil => intro a ha; cases ha
 | v _ _ ih => exact ih
 | l b _ _ ih =>
  intro a ha
  rcases List.mem_cons.mp ha with rfl | ha
  ·rw [b]; simp
  ·exact ih a ha
theorem CellR.mem {fp : List Addr} {p : Addr} {c : Cell} (h : CellR K F B fp p c) : ∀ a ∈ fp, B a ≠ none := by
 intro a ha
 cases h with
 | ins _ _ b d r =>
  rcases List.mem_cons.mp ha with rfl | ha
  ·rw [b]; simp
  ·rcases List.mem_cons.mp ha with rfl | ha
   ·rw [d]; simp
   ·exact r.mem a ha
 | row b r =>
  rcases List.mem_cons.mp ha with rfl | ha
  ·rw [b]; simp
  ·exact r.mem a ha
theorem BxR.mem {fp : List Addr} {β : Bx} (h : BxR K F B fp β) : ∀ a ∈ fp, B a ≠ none := by
 induction h with
 | nil => intro a ha; cases ha
 | cons c _ ih =>
  intro a ha
  rcases List.mem_append.mp ha with ha | ha
  ·exact c.mem a ha
  ·exact ih a ha
end
def jn (H0 B : Hp) : Hp := fun a => match B a with | some o => some o | none => H0 a
theorem m9 {H0 B : Hp} {a : Addr} {o : HO} (h : B a = some o) : jn H0 B a = some o := by unfold jn; rw [h]
theorem j6 {H0 B : Hp} {a : Addr} (h : B a = none) : jn H0 B a = H0 a := by unfold jn; rw [h]
theorem X2 {H0 B : Hp} {a : Addr} (h : jn H0 B a = none) : B a = none /\ H0 a = none := by
 cases b : B a with
 | none => rw [j6 b] at h; exact ⟨rfl, h⟩
 | some o => rw [m9 b] at h; cases h
structure BxOk (K : W.Frag) (F0 H0 F B : Hp) (fp : List Addr) (β : Bx) : Prop where
 out : ∀ a, B a ≠ none -> H0 a = none /\ F0 a = none
 bx : BxR K F B fp β
 nd : fp.Nodup
 plain : ∀ a o u, B a ≠ some (.frz o u)
theorem BxOk.mono {K : W.Frag} {F0 H0 F F' B : Hp} {fp : List Addr} {β : Bx} (h : BxOk K F0 H0 F B fp β) (e : Same F F') : BxOk K F0 H0 F' B fp β := ⟨h.out, h.bx.mono e fun _ _ => rfl, h.nd, h.plain⟩
def RlW (K : W.Frag) (F0 H0 F H : Hp) (σ : St) (ρ : Ro) (β : Bx) : Prop := ∃ B fp, Rl K F0 (jn H0 B) F H σ ρ /\ BxOk K F0 H0 F B fp β
abbrev MW := Ro -> Bx -> Option (Out × Bx)
def okW (K : W.Frag) (F0 H0 Fb : Hp) (Dn : Ends) : Out -> Bx -> Prop
 | .nx ρ, β => ∀ F H σ, RlW K F0 H0 F H σ ρ β -> Same Fb F -> Dn.nx σ H
 | .bk ρ, β => ∀ F H σ, RlW K F0 H0 F H σ ρ β -> Same Fb F -> Dn.bk σ H
 | .ct ρ, β => ∀ F H σ, RlW K F0 H0 F H σ ρ β -> Same Fb F -> Dn.ct σ H
 | .rt d, β => ∀ v F H B fp, Ext F0 (jn H0 B) F H -> BxOk K F0 H0 F B fp β -> Rep K F v d -> Dn.rt v H
 | .rf ds, β => ∀ p xs F H B fp, Ext F0 (jn H0 B) F H -> BxOk K F0 H0 F B fp β -> jn H0 B p = none -> F p = none -> H p = some (.lst xs) -> Reps K F xs ds -> Dn.rt (.ref p) H
 | .rg d p r, β => ∀ v F H xs B fp, Ext F0 (jn H0 B) F H -> BxOk K F0 H0 F B fp β -> Rep K F v d -> jn H0 B p = none -> F p = none -> H p = some (.lst xs) -> Reps K F xs r -> Dn.rt v H
 | .rp _ _, _ => False
 | .rgf _ _ _, _ => False
theorem okW.mono {K : W.Frag} {F0 H0 Fb Fb' : Hp} {Dn : Ends} (s : Same Fb Fb') : ∀ {o : Out} {β : Bx}, okW K F0 H0 Fb Dn o β -> okW K F0 H0 Fb' Dn o β
 | .nx _, _, h => fun F H σ rl q => h F H σ rl (s.trans q)
 | .bk _, _, h => fun F H σ rl q => h F H σ rl (s.trans q)
 | .ct _, _, h => fun F H σ rl q => h F H σ rl (s.trans q)
 | .rt _, _, h => h
 | .rf _, _, h => h
 | .rp _ _, _, h => h
 | .rg _ _ _, _, h => h
 | .rgf _ _ _, _, h => h
def TSw (K : W.Frag) (m : MW) : TS := fun Dn σ H => ∃ F0 H0 F ρ β o β', RlW K F0 H0 F H σ ρ β /\ m ρ β = some (o, β') /\ okW K F0 H0 F Dn o β'
def TDw (K : W.Frag) (m : Ro -> Bx -> Option D) : TE := fun σ H Q => ∃ F0 H0 F ρ β d, RlW K F0 H0 F H σ ρ β /\ m ρ β = some d /\ ∀ v F' H', RlW K F0 H0 F' H' σ ρ β -> Same F F' -> Same H H' -> Rep K F' v d -> Q v H'
def TCw (K : W.Frag) (m : Ro -> Bx -> Option Bool) : TT := fun σ H Q => ∃ F0 H0 F ρ β b, RlW K F0 H0 F H σ ρ β /\ m ρ β = some b /\ ∀ F' H', RlW K F0 H0 F' H' σ ρ β -> Same F F' -> Q b H'
def PSw (X : Cx) (st : Stmt) (m : MW) : Prop := PS X st (TSw X.K m)
def PSsw (X : Cx) (st : List Stmt) (m : MW) : Prop := PSs X st (TSw X.K m)
def PDw (X : Cx) (e : Expr) (m : Ro -> Bx -> Option D) : Prop := PE X e (TDw X.K m)
def PCw' (X : Cx) (e : Expr) (m : Ro -> Bx -> Option Bool) : Prop := PT X e (TCw X.K m)
section
variable {X : Cx} {a b c e : Expr} {pos : Pos} {st : Stmt} {rest : List Stmt}
def wS (m : MS) : MW := fun ρ β => match m ρ with | some (.nx ρ') => some (.nx ρ', β) | some (.bk ρ') => some (.bk ρ', β) | some (.ct ρ') => some (.ct ρ', β) | _ => none
def wE {α : Type} (m : Ro -> Option α) : Ro -> Bx -> Option α := fun ρ _ => m ρ
theorem psw {m : MS} (h : PSd X st m) : PSw X st (wS m) := PS.imp h fun Dn σ H ⟨F0, H0, F, ρ, β, o, β', ⟨B, fp, rl, ok⟩, e, k⟩ => by
 unfold wS at e
 split at e
 ·rename_i ρ' h1
  cases e
  exact ⟨F0, jn H0 B, F, ρ, _, rl, h1, fun F' H' σ' rl' sf => k F' H' σ' ⟨B, fp, rl', ok.mono sf⟩ sf⟩
 ·rename_i ρ' h1
  cases e
  exact ⟨F0, jn H0 B, F, ρ, _, rl, h1, fun F' H' σ' rl' sf => k F' H' σ' ⟨B, fp, rl', ok.mono sf⟩ sf⟩
 ·rename_i ρ' h1
  cases e
  exact ⟨F0, jn H0 B, F, ρ, _, rl, h1, fun F' H' σ' rl' sf => k F' H' σ' ⟨B, fp, rl', ok.mono sf⟩ sf⟩
 ·cases e
theorem pdw {m : ME} (h : PD X e m) : PDw X e (wE m) := PE.imp h fun σ H Q ⟨F0, H0, F, ρ, β, d, ⟨B, fp, rl, ok⟩, e, q⟩ =>
 ⟨F0, jn H0 B, F, ρ, d, rl, e, fun v F' H' x r => q v F' H' ⟨B, fp, rl.go x, ok.mono x.ff⟩ x.ff x.hh r⟩
theorem pcw {m : MB} (h : PC' X e m) : PCw' X e (wE m) := PT.imp h fun σ H Q ⟨F0, H0, F, ρ, β, d, ⟨B, fp, rl, ok⟩, e, q⟩ =>
 ⟨F0, jn H0 B, F, ρ, d, rl, e, fun F' H' x => q F' H' ⟨B, fp, rl.go x, ok.mono x.ff⟩ x.ff⟩
def i8 (x y : MW) : MW := fun ρ β => match x ρ β with | some (.nx ρ', β') => y ρ' β' | o => o
theorem c6 {m : MW} (h : PSw X st m) : PSsw X [st] m := zr4 h
theorem K8 : PSsw X [] (wS d7) := PSs.imp pss_nil fun Dn σ H ⟨F0, H0, F, ρ, β, o, β', ⟨B, fp, rl, ok⟩, e, k⟩ => by
 cases e
 exact k F H σ ⟨B, fp, rl, ok⟩ (Same.refl _)
theorem w5 {m1 m2' : MW} (h1 : PSw X st m1) (h2 : PSsw X rest m2') : PSsw X (st :: rest) (i8 m1 m2') := PSs.imp (B9 h1 h2) fun D σ H hpat => by
 obtain ⟨F0, H0, F, ρ, β, o, β', rw', e, ok⟩ := hpat
 unfold i8 at e
 cases h : m1 ρ β with
 | none => rw [h] at e; cases e
 | some ob =>
  obtain ⟨o1, β1⟩ := ob
  rw [h] at e
  cases o1 with
  | nx ρ1 => exact ⟨F0, H0, F, ρ, β, _, β1, rw', h, fun F' H' σ' rl' sf => ⟨F0, H0, F', ρ1, β1, o, β', rl', e, ok.mono sf⟩⟩
  | bk ρ1 => cases e; exact ⟨F0, H0, F, ρ, β, _, _, rw', h, ok⟩
  | ct ρ1 => cases e; exact ⟨F0, H0, F, ρ, β, _, _, rw', h, ok⟩
  | rt d => cases e; exact ⟨F0, H0, F, ρ, β, _, _, rw', h, ok⟩
  | rf d => cases e; exact ⟨F0, H0, F, ρ, β, _, _, rw', h, ok⟩
  | rp d ds => cases e; exact ⟨F0, H0, F, ρ, β, _, _, rw', h, ok⟩
  | rg d p r => cases e; exact ⟨F0, H0, F, ρ, β, _, _, rw', h, ok⟩
  | rgf d p r => cases e; exact ⟨F0, H0, F, ρ, β, _, _, rw', h, ok⟩
def mifW (c : Ro -> Bx -> Option Bool) (x y : MW) : MW := fun ρ β => match c ρ β with | some true => x ρ β | some false => y ρ β | none => none
theorem zn7 {ca : Ro -> Bx -> Option Bool} {x y : List Stmt} {mx my : MW} (hc : PCw' X c ca) (hx : PSsw X x mx) (hy : PSsw X y my) : PSw X (.If c x y pos) (mifW ca mx my) := PS.imp (yf2 hc hx hy) fun D σ H hpat => by
 obtain ⟨F0, H0, F, ρ, β, o, β', rw', e, ok⟩ := hpat
 unfold mifW at e
 split at e
 ·rename_i h1
  exact ⟨F0, H0, F, ρ, β, _, rw', h1, fun F1 H1 r1 x1 => iteT ⟨F0, H0, F1, ρ, β, o, β', r1, e, ok.mono x1⟩⟩
 ·rename_i h1
  exact ⟨F0, H0, F, ρ, β, _, rw', h1, fun F1 H1 r1 x1 => iteF ⟨F0, H0, F1, ρ, β, o, β', r1, e, ok.mono x1⟩⟩
 ·cases e
def yo6 (i : Nat) (x : Ro -> Bx -> Option D) : MW := fun ρ β => (x ρ β).map fun d => (.nx (ρ.set i (some (.sh d))), β)
theorem xu2 {i : Nat} {x : Str} {pos' : Pos} {ma : Ro -> Bx -> Option D} (hN : X.N.Nodup) (hi : X.N[i]? = some x) (hx : Loc X.env.scope x) (he : PDw X e ma) (hs : swapsWith e (some (.Name x pos')) pos.line X.env = pure false := by rfl) (hf : X.fn x = true \/ X.env.scope.names.lookup x = some .local := by first | exact .inl rfl | exact .inr rfl) :
  PSw X (.Assign [.Name x pos'] e pos) (yo6 i ma) := PS.imp (zt2 hN hi hx he hs hf) fun D σ H hpat => by
 obtain ⟨F0, H0, F, ρ, β, o, β', rw', e, ok⟩ := hpat
 unfold yo6 at e
 cases h1 : ma ρ β with
 | none => rw [h1] at e; cases e
 | some d =>
  rw [h1] at e; cases e
  refine ⟨F0, H0, F, ρ, β, d, rw', h1, fun v F1 H1 r1 x1 _ rp => ?_⟩
  obtain ⟨B, fp, rl, k⟩ := r1
  exact ok F1 H1 _ ⟨B, fp, rl.set rp, k⟩ x1
def forW (g : Tg) (body : MW) : List D -> MW
 | [], ρ, β => some (.nx ρ, β)
 | d :: ds, ρ, β => match tgD g d ρ with
  | some ρ1 => match body ρ1 β with
   | some (.nx ρ2, β2) => forW g body ds ρ2 β2
   | some (.ct ρ2, β2) => forW g body ds ρ2 β2
   | some (.bk ρ2, β2) => some (.nx ρ2, β2)
   | o => o
  | none => none
def yv6 (mi : ML) (g : Tg) (body : MW) : MW := fun ρ β => (mi ρ).bind fun its => forW g body its ρ β
theorem yq1 {tg iter : Expr} {body : List Stmt} {mi : ML} {g : Tg} {mb : MW} (hp : PassesOwn (model X.prog X.w) X.A X.env X.xe) (hc : X.calm = true) (hi : PId X tg iter mi) (hg : PGd X tg g) (hb : PSsw X body mb)
  (hs : ∀ x, foldedSetIterable iter X.env x = pure x := by intro _; rfl) : PSw X (.For tg iter body [] pos) (yv6 mi g mb) := PS.imp (yq6 hp hc hi hg hb hs) fun Dn σ H ⟨F0, H0, F, ρ, β, o, β', ⟨B, fp, rl, ok⟩, e, k⟩ => by
 unfold yv6 at e
 cases h1 : mi ρ with
 | none => rw [h1] at e; cases e
 | some its =>
  rw [h1] at e
  have e : forW g mb its ρ β = some (o, β') := e
  refine ⟨F0, jn H0 B, F, ρ, its, rl, h1, fun J F1 H1 x1 I => ?_⟩
  refine ⟨fun i m σ' H' => ∃ F' ρ' β1, RlW X.K F0 H0 F' H' σ' ρ' β1 /\ Same F1 F' /\ i <= its.length /\ m = its.length - i /\ forW g mb (its.drop i) ρ' β1 = some (o, β'), ⟨_, F1, ρ, β, ⟨B, fp, rl.go x1, ok.mono x1.ff⟩, Same.refl _, Nat.zero_le _, rfl, e⟩, ?_⟩
  rintro i m σ' H' ⟨F', ρ', β1, ⟨B1, fp1, rl', ok'⟩, sf, hi', rfl, e'⟩
  by_cases hlt : i < its.length
  ·right
   have hd := getElem?_eq_getElem hlt
   refine ⟨I.go i F' H' sf rl'.fh hlt, fun σ2 H2 => ∃ F2 ρ2 β2, RlW X.K F0 H0 F2 H2 σ2 ρ2 β2 /\ Same F1 F2 /\ forW g mb (its.drop (i + 1)) ρ2 β2 = some (o, β'), ?_, fun x H2 y => ?_⟩
   ·rintro σ2 H2 ⟨F2, ρ2, β2, rl2, sf2, e2⟩
    exact ⟨its.length - (i + 1), by omega, F2, ρ2, β2, rl2, sf2, hlt, rfl, e2⟩
   ·obtain ⟨F2, x2, r2⟩ := I.yld i F' H' x H2 _ sf rl'.fh hd y
    rw [W1 hd] at e'
    unfold forW at e'
    cases h2 : tgD g its[i] ρ' with
    | none => simp only [h2] at e'; cases e'
    | some ρ1 =>
     simp only [h2] at e'
     refine ⟨F0, jn H0 B1, F2, ρ', _, ρ1, rl'.go x2, r2, h2, fun F3 H3 σ3 rl3 x3 => ?_⟩
     have s3 : Same F1 F3 := (sf.trans x2.ff).trans x3.ff
     cases h3 : mb ρ1 β1 with
     | none => simp only [h3] at e'; cases e'
     | some ob =>
      obtain ⟨o1, β2⟩ := ob
      simp only [h3] at e'
      refine ⟨F0, H0, F3, ρ1, β1, o1, β2, ⟨B1, fp1, rl3, ok'.mono (x2.ff.trans x3.ff)⟩, h3, ?_⟩
      cases o1 with
      | nx ρ2 => exact fun F5 H5 σ5 rl5 s5 => ⟨F5, ρ2, β2, rl5, s3.trans s5, e'⟩
      | ct ρ2 => exact fun F5 H5 σ5 rl5 s5 => ⟨F5, ρ2, β2, rl5, s3.trans s5, e'⟩
      | bk ρ2 =>
       cases e'
       exact fun F5 H5 σ5 rl5 s5 => k F5 H5 σ5 rl5 ((x1.ff.trans s3).trans s5)
      | rt d => cases e'; exact k.mono (x1.ff.trans s3)
      | rf d => cases e'; exact k.mono (x1.ff.trans s3)
      | rp d ds => cases e'; exact k.mono (x1.ff.trans s3)
      | rg d p r => cases e'; exact k.mono (x1.ff.trans s3)
      | rgf d p r => cases e'; exact k.mono (x1.ff.trans s3)
  ·left
   have hieq : i = its.length := by omega
   subst hieq
   rw [drop_length] at e'
   have e' : some (Out.nx ρ', β1) = some (o, β') := e'
   cases e'
   exact ⟨I.stop F' H' sf rl'.fh, k F' H' σ' ⟨B1, fp1, rl', ok'⟩ (x1.ff.trans sf)⟩
def flD : Fl -> D
 | .v d => d
 | .l ds => .lst ds
def zu3 : Cell -> D
 | .ins c ns fs => .obj c ns (fs.map flD)
 | .row fs => .lst (fs.map flD)
def Y9 (β : Bx) : Option S -> Option S
 | some (.sh (.ptr p)) => match β.lookup p with | some c => some (.sh (zu3 c)) | none => some (.sh (.ptr p))
 | x => x
def thaw (ρ : Ro) (β : Bx) : Ro := ρ.map (Y9 β)
def U8 (m : ME) : Ro -> Bx -> Option D := fun ρ β => (m (thaw ρ β)).bind fun d => if isSc d = true then some d else none
def zp2 (m : MB) : Ro -> Bx -> Option Bool := fun ρ β => m (thaw ρ β)
end
section
variable {K : W.Frag} {F0 H0 F H B : Hp} {σ : St} {ρ : Ro} {β : Bx} {fp : List Addr}
theorem FlR.rep {G : Hp} {xs : List V} {fs : List Fl} (hF : Same F G) (hB : Same B G) (h : FlR K F B fp xs fs) : Reps K G xs (fs.map flD) := by
 induction h with
 | nil => exact .nil
 | v r _ ih => exact .cons (r.mono hF) ih
 | l b r _ ih => exact .cons (.lst (SqL.of (hB _ _ b)) (r.mono hF)) ih
theorem CellR.rep {G : Hp} {p : Addr} {c : Cell} (hF : Same F G) (hB : Same B G) (h : CellR K F B fp p c) : Rep K G (.ref p) (zu3 c) := by
 cases h with
 | ins a l b d r => exact .obj a l (hB _ _ b) (hB _ _ d) (r.rep hF hB)
 | row b r => exact .lst (SqL.of (hB _ _ b)) (r.rep hF hB)
theorem BxR.at' {p : Addr} {c : Cell} : ∀ {fp : List Addr} {β : Bx}, BxR K F B fp β -> β.lookup p = some c -> ∃ fq, CellR K F B fq p c
 | _, _, .nil, e => by cases e
 | _, _, .cons (p := q) h r, e => by
  rw [lookup_cons] at e
  split at e
  ·rename_i z
   have z := beq_iff_eq.mp z
   subst z
   cases e
   exact ⟨_, h⟩
  ·exact r.at' e
theorem RlW.frozen (rl : Rl K F0 (jn H0 B) F H σ ρ) (ok : BxOk K F0 H0 F B fp β) : Rl K (jn F0 B) (jn H0 B) (jn F B) H σ (thaw ρ β) /\ Same F (jn F B) := by
 have bh : Same B H := fun a o e => rl.ext.hh a o (m9 e)
 have fn : ∀ a, B a ≠ none -> F a = none := fun a h => by
  cases q : F a with
  | none => rfl
  | some o =>
   have := rl.ext.new a (ok.out a h).2 (by rw [q]; simp)
   exact absurd (X2 this).1 h
 have fb : Same F (jn F B) := fun a o e => by
  cases q : B a with
  | none => rw [j6 q]; exact e
  | some u => rw [fn a (by rw [q]; simp)] at e; cases e
 have bj : Same B (jn F B) := fun a o e => m9 e
 have back : ∀ (i : Nat) x, (thaw ρ β)[i]? = some x -> ∃ y, ρ[i]? = some y /\ x = Y9 β y := fun i x e => by
  unfold thaw at e
  rw [getElem?_map] at e
  cases q : ρ[i]? with
  | none => rw [q] at e; cases e
  | some y => rw [q] at e; cases e; exact ⟨y, rfl, rfl⟩
 have tO : ∀ {y : Option S} {ds : List D}, some (.own ds) = Y9 β y -> y = some (.own ds) := fun {y ds} e => by
  unfold Y9 at e
  split at e
  ·split at e <;> cases e
  ·exact e.symm
 have tB : ∀ {y : Option S} {p : Addr} {ds : List D}, some (.ob p ds) = Y9 β y -> y = some (.ob p ds) := fun {y p ds} e => by
  unfold Y9 at e
  split at e
  ·split at e <;> cases e
  ·exact e.symm
 have ownB : ∀ (i : Nat) ds, (thaw ρ β)[i]? = some (some (.own ds)) -> ρ[i]? = some (some (.own ds)) := fun i ds e => by
  obtain ⟨y, e1, e2⟩ := back i _ e
  rw [e1, tO e2]
 have obB : ∀ (i : Nat) p ds, (thaw ρ β)[i]? = some (some (.ob p ds)) -> ρ[i]? = some (some (.ob p ds)) := fun i p ds e => by
  obtain ⟨y, e1, e2⟩ := back i _ e
  rw [e1, tB e2]
 have jf : ∀ p, F p = none -> jn H0 B p = none -> jn F B p = none := fun p h h2 => by rw [j6 (X2 h2).1]; exact h
 refine ⟨⟨⟨fun a o e => ?_, rl.ext.hh, fun a o e => ?_, fun b e n => ?_, fun b o u e => ?_⟩, by unfold thaw; rw [length_map]; exact rl.len, fun i d e => ?_, fun i ds e => ?_, fun i j p ds es hij e1 e2 e3 e4 => rl.inj i j p ds es hij (ownB i ds e1) (ownB j es e2) e3 e4, fun i p ds e => ?_, fun i j p ds es e1 e2 e3 => rl.obn i j p ds es (obB i p ds e1) (ownB j es e2) e3, fun i j p q ds es e1 e2 => rl.ob1 i j p q ds es (obB i p ds e1) (obB j q es e2)⟩, fb⟩
 ·cases q : B a with
  | none => rw [j6 q] at e; rw [j6 q]; exact rl.ext.ff a o e
  | some u => rw [m9 q] at e; rw [m9 q]; exact e
 ·cases q : B a with
  | none => rw [j6 q] at e; exact rl.ext.fh a o e
  | some u => rw [m9 q] at e; cases e; exact bh a _ q
 ·obtain ⟨e1, e2⟩ := X2 e
  rw [j6 e1] at n
  exact rl.ext.new b e2 n
 ·cases q : B b with
  | none => rw [j6 q] at e ⊢; exact rl.ext.nf b o u e
  | some w => rw [m9 q] at e ⊢; exact e
 ·obtain ⟨y, e1, e2⟩ := back i _ e
  unfold Y9 at e2
  split at e2
  ·rename_i p
   obtain ⟨v, a1, a2⟩ := rl.sh i _ e1
   cases a2
   split at e2
   ·rename_i c hc
    cases e2
    obtain ⟨fq, hq⟩ := ok.bx.at' hc
    exact ⟨_, a1, hq.rep fb bj⟩
   ·cases e2
    exact ⟨_, a1, .ptr p⟩
  ·subst e2
   obtain ⟨v, a1, a2⟩ := rl.sh i d e1
   exact ⟨v, a1, a2.mono fb⟩
 ·obtain ⟨p, xs, a1, a2, a3, a4, a5⟩ := rl.own i ds (ownB i ds e)
  exact ⟨p, xs, a1, jf p a2 a5, a3, a4.mono fb, a5⟩
 ·obtain ⟨a1, a2, a3, xs, a4, a5⟩ := rl.ob i p ds (obB i p ds e)
  exact ⟨a1, jf p a2 a3, a3, xs, a4, a5.mono fb⟩
theorem RlW.melt {F2 H2 : Hp} (rl : Rl K F0 (jn H0 B) F H σ ρ) (ok : BxOk K F0 H0 F B fp β) (x : Ext (jn F B) H F2 H2) (fb : Same F (jn F B)) : RlW K F0 H0 F H2 σ ρ β :=
 ⟨B, fp, rl.go ⟨Same.refl _, x.hh, rl.fh.trans x.hh, fun b e n => absurd e n, fun _ _ _ z => z⟩, ok⟩
end
section
variable {X : Cx} {a b c e : Expr} {pos : Pos}
theorem J1 {m : ME} (h : PD X e m) : PDw X e (U8 m) := PE.imp h fun σ H Q ⟨F0, H0, F, ρ, β, d, ⟨B, fp, rl, ok⟩, e, q⟩ => by
 unfold U8 at e
 cases h1 : m (thaw ρ β) with
 | none => rw [h1] at e; cases e
 | some d' =>
  rw [h1, Option.bind_some] at e
  split at e
  ·rename_i hs
   cases e
   obtain ⟨r1, fb⟩ := RlW.frozen rl ok
   exact ⟨_, _, _, _, _, r1, h1, fun v F' H' x r => q v F H' (RlW.melt rl ok x fb) (Same.refl _) x.hh (ya6 hs r)⟩
  ·cases e
theorem A2 {m : MB} (h : PC' X e m) : PCw' X e (zp2 m) := PT.imp h fun σ H Q ⟨F0, H0, F, ρ, β, d, ⟨B, fp, rl, ok⟩, e, q⟩ => by
 obtain ⟨r1, fb⟩ := RlW.frozen rl ok
 exact ⟨_, _, _, _, _, r1, e, fun F' H' x => q F H' (RlW.melt rl ok x fb) (Same.refl _)⟩
end
end
section
def cut (H B : Hp) : Hp := fun a => match B a with | some _ => none | none => H a
theorem xc3 {H B : Hp} {a : Addr} (h : B a ≠ none) : cut H B a = none := by
 unfold cut
 cases q : B a with
 | none => exact absurd q h
 | some o => rfl
theorem zw5 {H B : Hp} {a : Addr} (h : B a = none) : cut H B a = H a := by unfold cut; rw [h]
theorem xe6 {H B : Hp} (h : Same B H) : jn (cut H B) B = H := by
 funext a
 cases q : B a with
 | none => rw [j6 q, zw5 q]
 | some o => rw [m9 q, h a o q]
abbrev MFW := List D -> Bx -> Option (Rt × Bx)
def okTW (K : W.Frag) (F H B : Hp) (Q : VK) : Rt -> Bx -> Prop
 | .sh d, β => ∀ v F' H' B' fp', Ext F (jn (cut H B) B') F' H' -> BxOk K F (cut H B) F' B' fp' β -> Rep K F' v d -> Q v H'
 | .fr ds, β => ∀ p xs F' H' B' fp', Ext F (jn (cut H B) B') F' H' -> BxOk K F (cut H B) F' B' fp' β -> jn (cut H B) B' p = none -> F' p = none -> H' p = some (.lst xs) -> Reps K F' xs ds -> Q (.ref p) H'
 | .pr _ _, _ => False
def spW (K : W.Frag) (n : Nat) (m : MFW) : Sp := fun vs H Q _ => vs.length = n /\ ∃ F B fp ds β r β', Same F H /\ Same B H /\ BxOk K F (cut H B) F B fp β /\ Reps K F vs ds /\ m ds β = some (r, β') /\ okTW K F H B Q r β'
def runW (n : Nat) (m : MW) : MFW := fun ds β => match m (u5 n ds) β with
 | some (.nx _, β') => some (.sh .non, β'.drop (β'.length - β.length))
 | some (.rt d, β') => some (.sh d, β'.drop (β'.length - β.length))
 | some (.rf es, β') => some (.fr es, β'.drop (β'.length - β.length))
 | _ => none
theorem BxR.drop {K : W.Frag} {F B : Hp} : ∀ {fp : List Addr} {β : Bx} (k : Nat), BxR K F B fp β -> ∃ fq, BxR K F B fq (β.drop k) /\ fq.Sublist fp
 | _, _, 0, h => ⟨_, h, List.Sublist.refl _⟩
 | _, _, k + 1, .nil => ⟨_, .nil, List.Sublist.refl _⟩
 | _, _, k + 1, .cons c r => by
  obtain ⟨fq, h, s⟩ := BxR.drop k r
  exact ⟨fq, h, s.trans (sublist_append_right _ _)⟩
theorem BxOk.drop {K : W.Frag} {F0 H0 F B : Hp} {fp : List Addr} {β : Bx} (h : BxOk K F0 H0 F B fp β) (k : Nat) : ∃ fq, BxOk K F0 H0 F B fq (β.drop k) := by
 obtain ⟨fq, r, s⟩ := h.bx.drop k
 exact ⟨fq, h.out, r, h.nd.sublist s, h.plain⟩
theorem Fun.okW {P : Program} {w : World} {K : W.Frag} {mg : Str -> Option Value} {base : Heap} {x qual : Str} {st : Stmt} {f : Addr} {fd : FuncData} {N ps : List Str} {k : Nat} {m : MW} (Fn : Fun K x qual st f fd) (Sc : FnScope N ps (y4 st))
  (hbody : ∀ (cdv : Value) (A : Around) (outer : List Env) (s : Shared) (H : Hp) (E : XK), Room k (A.deeper (envOfC qual (y4 st) s.heap.objs.size f cdv)) -> PSsw (cxOf CX0 P w K mg base N qual (y4 st) f cdv A outer s H E).nox (b9 st) m) :
  FnOk P w K mg base CX0 (k + 1) f fd ps (spW K ps.length (runW N.length m)) := by
 refine Fn.ok Sc (fun vs H Q E h => h.1) fun cdv A outer s H vs Q E hr h => ?_
 obtain ⟨hl, F, B, fp, ds, β, r, β', sf, sb, bo, rs, e, ok⟩ := h
 unfold runW at e
 refine ⟨_, hbody cdv A outer s H E hr, F, cut H B, F, u5 N.length ds, β, ?_⟩
 have start : RlW K F (cut H B) F H (start N vs) (u5 N.length ds) β := ⟨B, fp, by rw [xe6 sb]; exact B6 sf rs, bo⟩
 split at e
 ·rename_i ρ β1 h1
  cases e
  refine ⟨_, _, start, h1, fun F' H' σ' rl _ => ?_⟩
  obtain ⟨B', fp', rl', k'⟩ := rl
  obtain ⟨fq, k2⟩ := k'.drop (β1.length - β.length)
  exact ok .non F' H' B' fq rl'.ext k2 .non
 ·rename_i d β1 h1
  cases e
  refine ⟨_, _, start, h1, fun v F' H' B' fp' x k' rp => ?_⟩
  obtain ⟨fq, k2⟩ := k'.drop (β1.length - β.length)
  exact ok v F' H' B' fq x k2 rp
 ·rename_i es β1 h1
  cases e
  refine ⟨_, _, start, h1, fun p xs F' H' B' fp' x k' a1 a2 a3 a4 => ?_⟩
  obtain ⟨fq, k2⟩ := k'.drop (β1.length - β.length)
  exact ok p xs F' H' B' fq x k2 a1 a2 a3 a4
 ·cases e
def TDx (K : W.Frag) (m : Ro -> Bx -> Option (D × Bx)) : TE := fun σ H Q => ∃ F0 H0 F ρ β d β', RlW K F0 H0 F H σ ρ β /\ m ρ β = some (d, β') /\ ∀ v F' H', RlW K F0 H0 F' H' σ ρ β' -> Same F F' -> Rep K F' v d -> Q v H'
def PDx (X : Cx) (e : Expr) (m : Ro -> Bx -> Option (D × Bx)) : Prop := PE X e (TDx X.K m)
section
variable {K : W.Frag} {F0 H0 F H B : Hp} {σ : St} {ρ : Ro} {β : Bx} {fp : List Addr}
theorem BxOk.call (rl : Rl K F0 (jn H0 B) F H σ ρ) (ok : BxOk K F0 H0 F B fp β) : Same B H /\ BxOk K F (cut H B) F B fp β := by
 have bh : Same B H := fun a o e => rl.ext.hh a o (m9 e)
 refine ⟨bh, fun a h => ⟨xc3 h, ?_⟩, ok.bx, ok.nd, ok.plain⟩
 cases q : F a with
 | none => rfl
 | some o =>
  have := rl.ext.new a (ok.out a h).2 (by rw [q]; simp)
  exact absurd (X2 this).1 h
theorem RlW.back {F' H' B' : Hp} {fp' : List Addr} {β' : Bx} (rl : Rl K F0 (jn H0 B) F H σ ρ) (ok : BxOk K F0 H0 F B fp β) (x : Ext F (jn (cut H B) B') F' H') (ok' : BxOk K F (cut H B) F' B' fp' β') : RlW K F0 H0 F' H' σ ρ β' := by
 have h0 : ∀ a o, H0 a = some o -> B a = none /\ H a = some o /\ B' a = none := fun a o e => by
  have b : B a = none := by
   cases q : B a with
   | none => rfl
   | some u => have := (ok.out a (by rw [q]; simp)).1; rw [this] at e; cases e
  have h := rl.ext.hh a o (by rw [j6 b]; exact e)
  refine ⟨b, h, ?_⟩
  cases q : B' a with
  | none => rfl
  | some u => have := (ok'.out a (by rw [q]; simp)).1; rw [zw5 b, h] at this; cases this
 have mine : ∀ p xs, jn H0 B p = none -> F p = none -> H p = some (.lst xs) -> F' p = none /\ jn H0 B' p = none /\ H' p = some (.lst xs) := fun p xs e1 e2 e3 => by
  obtain ⟨b, h⟩ := X2 e1
  have c : cut H B p = some (.lst xs) := by rw [zw5 b]; exact e3
  have b' : B' p = none := by
   cases q : B' p with
   | none => rfl
   | some u => have := (ok'.out p (by rw [q]; simp)).1; rw [c] at this; cases this
  have j : jn (cut H B) B' p = some (.lst xs) := by rw [j6 b']; exact c
  refine ⟨?_, by rw [j6 b']; exact h, x.hh p _ j⟩
  cases q : F' p with
  | none => rfl
  | some u => have := x.new p e2 (by rw [q]; simp); rw [j] at this; cases this
 refine ⟨B', fp', ⟨⟨rl.ext.ff.trans x.ff, fun a o e => ?_, x.fh, fun b e n => ?_, fun b o u e => rl.ext.nf b o u (x.nf b o u e)⟩, rl.len, fun i d e => ?_, fun i ds e => ?_, rl.inj, fun i p ds e => ?_, rl.obn, rl.ob1⟩, fun a h => ⟨?_, ?_⟩, ok'.bx, ok'.nd, ok'.plain⟩
 ·cases q : B' a with
  | some u => rw [m9 q] at e; cases e; exact x.hh a _ (m9 q)
  | none =>
   rw [j6 q] at e
   obtain ⟨b, h, _⟩ := h0 a o e
   exact x.hh a o (by rw [j6 q, zw5 b]; exact h)
 ·cases q1 : F b with
  | none =>
   obtain ⟨b', c⟩ := X2 (x.new b q1 n)
   rw [j6 b']
   cases q : H0 b with
   | none => rfl
   | some o => obtain ⟨z, h, _⟩ := h0 b o q; rw [zw5 z, h] at c; cases c
  | some o =>
   have := rl.ext.new b e (by rw [q1]; simp)
   obtain ⟨_, h⟩ := X2 this
   cases q : B' b with
   | none => rw [j6 q]; exact h
   | some u => have := (ok'.out b (by rw [q]; simp)).2; rw [q1] at this; cases this
 ·obtain ⟨v, a1, a2⟩ := rl.sh i d e
  exact ⟨v, a1, a2.mono x.ff⟩
 ·obtain ⟨p, xs, a1, a2, a3, a4, a5⟩ := rl.own i ds e
  obtain ⟨b1, b2, b3⟩ := mine p xs a5 a2 a3
  exact ⟨p, xs, a1, b1, b3, a4.mono x.ff, b2⟩
 ·obtain ⟨a1, a2, a3, xs, a4, a5⟩ := rl.ob i p ds e
  obtain ⟨b1, b2, b3⟩ := mine p xs a3 a2 a4
  exact ⟨a1, b1, b2, xs, b3, a5.mono x.ff⟩
 ·cases q : H0 a with
  | none => rfl
  | some o => exact absurd (h0 a o q).2.2 h
 ·cases q : F0 a with
  | none => rfl
  | some o => have := (ok'.out a h).2; rw [rl.ext.ff a o q] at this; cases this
end
section
variable {X : Cx} {a b c e o : Expr} {pos : Pos} {st : Stmt} {rest : List Stmt} {E : XK} {es : List Expr} {mf : MFW} {m : ML}
def rtW : Option (Rt × Bx) -> Option (D × Bx)
 | some (.sh d, β) => some (d, β)
 | some (.fr es, β) => some (.lst es, β)
 | _ => none
theorem zw9 {K : W.Frag} {F0 H0 F H B : Hp} {σ : St} {ρ : Ro} {β β' : Bx} {fp : List Addr} {ds : List D} {d : D} {vs : List V} {n : Nat} {Q : VK} (rl : Rl K F0 (jn H0 B) F H σ ρ) (ok : BxOk K F0 H0 F B fp β) (hl : vs.length = n) (r : Reps K F vs ds) (e : rtW (mf ds β) = some (d, β'))
  (q : ∀ v F' H', RlW K F0 H0 F' H' σ ρ β' -> Same F F' -> Rep K F' v d -> Q v H') : spW K n mf vs H Q E := by
 obtain ⟨bh, k⟩ := ok.call rl
 refine ⟨hl, F, B, fp, ds, β, ?_⟩
 unfold rtW at e
 split at e
 ·rename_i d' β1 h2
  cases e
  exact ⟨_, _, rl.fh, bh, k, r, h2, fun v F' H' B' fp' x k' rp => q v F' H' (RlW.back rl ok x k') x.ff rp⟩
 ·rename_i es' β1 h2
  cases e
  refine ⟨_, _, rl.fh, bh, k, r, h2, fun p xs F' H' B' fp' x k' e1 e2 e3 rp => ?_⟩
  have s2 : Same F' (upd F' p (.lst xs)) := (Same.refl F').put e2
  exact q _ (upd F' p (.lst xs)) H' (RlW.back rl ok (x.freeze e2 e1 e3) (k'.mono s2)) (x.ff.trans s2) (.lst (SqL.of y8) (rp.mono s2))
 ·cases e
def zk8 (f : MFW) (m : ML) : Ro -> Bx -> Option (D × Bx) := fun ρ β => (m ρ).bind fun ds => rtW (f ds β)
theorem yf8 {n : Nat} (h : ∀ t, PA X es t -> PE X e (yw3 (spW X.K n mf) [] E t)) (hl : es.length = n) (ha : PAs X es m) (hm : ∀ ρ ds, m ρ = some ds -> ds.length = es.length) : PDx X e (zk8 mf m) := PE.imp (h _ ha) fun σ H Q ⟨F0, H0, F, ρ, β, d, β', ⟨B, fp, rl, ok⟩, e, q⟩ => by
 unfold zk8 at e
 cases h1 : m ρ with
 | none => rw [h1] at e; cases e
 | some ds =>
  rw [h1, Option.bind_some] at e
  refine ⟨F0, jn H0 B, F, ρ, ds, rl, h1, fun vs F1 H1 x1 r1 => ?_⟩
  show spW X.K n mf (vs ++ []) H1 Q E
  rw [append_nil]
  exact zw9 (rl.go x1) (ok.mono x1.ff) (by rw [r1.length, hm ρ ds h1, hl]) r1 e fun v F' H' rw' sf rp => q v F' H' rw' (x1.ff.trans sf) rp
def N9 (i : Nat) (c mn : Str) (f : MFW) (m : ML) : Ro -> Bx -> Option (D × Bx) := fun ρ β => match ρ[i]? with
 | some (some (.sh (.ptr p))) => (match β.lookup p with
  | some (.ins c' ns fs) => if c' = c /\ mn ∉ ns then (m ρ).bind fun ds => rtW (f (.ptr p :: ds) β) else none
  | _ => none)
 | _ => none
theorem P6 {ns : List Str} {mn : Str} (h : mn ∉ ns) : ∀ xs : List V, (ns.zip xs).lookup mn = none := by
 induction ns with
 | nil => intro xs; rfl
 | cons n ns ih =>
  intro xs
  cases xs with
  | nil => rfl
  | cons x xs =>
   rw [zip_cons_cons, lookup_cons]
   have hn : (mn == n) = false := by
    cases q : mn == n with
    | false => rfl
    | true => exact absurd (by rw [beq_iff_eq.mp q]; simp) h
   rw [hn]
   exact ih (fun z => h (mem_cons_of_mem _ z)) xs
theorem A1 {n : Nat} {i : Nat} {c mn : Str} {C : Addr} (hC : W.nsIn X.K mainGlobals c = some (some (.ref C))) (ho : PD X o (mvar i)) (h : ∀ ta t, PE X o ta -> PA X es t -> PE X e (zv5 C mn (spW X.K n mf) [] E ta t)) (hl : es.length + 1 = n) (ha : PAs X es m) (hm : ∀ ρ ds, m ρ = some ds -> ds.length = es.length) :
  PDx X e (N9 i c mn mf m) := PE.imp (h _ _ ho ha) fun σ H Q ⟨F0, H0, F, ρ, β, d, β', ⟨B, fp, rl, ok⟩, e, q⟩ => by
 unfold N9 at e
 split at e
 ·rename_i p hp
  split at e
  ·rename_i c' ns fs hb
   split at e
   ·rename_i hz
    obtain ⟨rfl, hz⟩ := hz
    cases h1 : m ρ with
    | none => rw [h1] at e; cases e
    | some ds =>
     rw [h1, Option.bind_some] at e
     obtain ⟨fq, hq⟩ := ok.bx.at' hb
     refine ⟨F0, jn H0 B, F, ρ, .ptr p, rl, by unfold mvar; rw [hp], fun v F1 H1 x1 r1 => ?_⟩
     cases r1
     cases hq with
     | ins a1 a2 a3 a4 a5 =>
      rw [hC] at a1
      cases a1
      refine ⟨p, _, _, rfl, x1.hh _ _ (rl.ext.hh _ _ (m9 a3)), P6 hz _, ?_⟩
      refine ⟨F0, jn H0 B, F1, ρ, ds, rl.go x1, h1, fun vs F2 H2 x2 r2 => ?_⟩
      show spW X.K n mf (.ref p :: (vs ++ [])) H2 Q E
      rw [append_nil]
      exact zw9 ((rl.go x1).go x2) ((ok.mono x1.ff).mono x2.ff) (by rw [length_cons, r2.length, hm ρ ds h1, hl]) (.cons (.ptr p) r2) e fun v F' H' rw' sf rp => q v F' H' rw' ((x1.ff.trans x2.ff).trans sf) rp
   ·cases e
  ·cases e
 ·cases e
def M2 (x : Ro -> Bx -> Option (D × Bx)) : MW := fun ρ β => (x ρ β).map fun r => (.nx ρ, r.2)
theorem K7 {ma : Ro -> Bx -> Option (D × Bx)} (h : PS X st (xk7 (TDx X.K ma))) : PSw X st (M2 ma) := PS.imp h fun D σ H hpat => by
 obtain ⟨F0, H0, F, ρ, β, o, β', rw', e, ok⟩ := hpat
 unfold M2 at e
 cases h1 : ma ρ β with
 | none => rw [h1] at e; cases e
 | some r =>
  rw [h1] at e; cases e
  exact ⟨F0, H0, F, ρ, β, r.1, r.2, rw', h1, fun v F1 H1 r1 x1 rp => ok F1 H1 σ r1 x1⟩
def yo5 (i : Nat) (x : Ro -> Bx -> Option (D × Bx)) : MW := fun ρ β => (x ρ β).map fun r => (.nx (ρ.set i (some (.sh r.1))), r.2)
theorem yg8 {i : Nat} {x : Str} {pos' : Pos} {ma : Ro -> Bx -> Option (D × Bx)} (hN : X.N.Nodup) (hi : X.N[i]? = some x) (hx : Loc X.env.scope x) (he : PDx X e ma) (hs : swapsWith e (some (.Name x pos')) pos.line X.env = pure false := by rfl) (hf : X.fn x = true \/ X.env.scope.names.lookup x = some .local := by first | exact .inl rfl | exact .inr rfl) :
  PSw X (.Assign [.Name x pos'] e pos) (yo5 i ma) := PS.imp (zt2 hN hi hx he hs hf) fun D σ H hpat => by
 obtain ⟨F0, H0, F, ρ, β, o, β', rw', e, ok⟩ := hpat
 unfold yo5 at e
 cases h1 : ma ρ β with
 | none => rw [h1] at e; cases e
 | some r =>
  rw [h1] at e; cases e
  refine ⟨F0, H0, F, ρ, β, r.1, r.2, rw', h1, fun v F1 H1 r1 x1 rp => ?_⟩
  obtain ⟨B, fp, rl, k⟩ := r1
  exact ok F1 H1 _ ⟨B, fp, rl.set rp, k⟩ x1
end
end
section
def fldD (c f : Str) : D -> Option D
 | .obj c' ns ds => if c' = c then (ns.zip ds).lookup f else none
 | _ => none
theorem zu5 {K : W.Frag} {F : Hp} {f : Str} {d : D} : ∀ {ns : List Str} {xs : List V} {ds : List D}, ns.length = xs.length -> Reps K F xs ds -> (ns.zip ds).lookup f = some d -> ∃ v, (ns.zip xs).lookup f = some v /\ Rep K F v d
 | [], _, _, _, _, e => by cases e
 | n :: ns, [], _, l, _, _ => by cases l
 | n :: ns, x :: xs, _ :: ds, l, .cons h r, e => by
  rw [zip_cons_cons, lookup_cons] at e ⊢
  cases q : f == n with
  | true => rw [q] at e; cases e; exact ⟨x, rfl, h⟩
  | false => rw [q] at e; exact zu5 (by simpa using l) r e
section
variable {X : Cx} {a b c e o : Expr} {pos apos : Pos} {E : XK} {es : List Expr} {m : ML} {mo : ME}
@[irreducible] def mfld (c f : Str) (m : ME) : ME := fun ρ => (m ρ).bind (fldD c f)
theorem U3 {c f : Str} (he : PD X o mo) (hc : ∀ C, W.nsIn X.K mainGlobals c = some (some (.ref C)) -> Cls X.K C /\ NoAttr X.K C f) (hb : attributeBase o f X.env (eval o X.env) = eval o X.env := by rfl) : PD X (.Attribute o f pos) (mfld c f mo) := PE.imp (xz5 he hb) fun σ H Q hpat => by
 obtain ⟨F0, H0, F, ρ, d, rl, e, q⟩ := hpat
 unfold mfld at e
 cases h1 : mo ρ with
 | none => rw [h1] at e; cases e
 | some d1 =>
  rw [h1, Option.bind_some] at e
  refine ⟨F0, H0, F, ρ, d1, rl, h1, fun v F1 H1 x1 r1 => ?_⟩
  cases r1 with
  | @obj _ _ _ c0 ns0 _ ds0 a1 a2 a3 a4 a5 =>
   have e9 : (if c0 = c then (ns0.zip ds0).lookup f else none) = some d := e
   clear e
   split at e9
   ·rename_i hz
    subst hz
    obtain ⟨v', e1, e2⟩ := zu5 a2 a5 e9
    obtain ⟨k1, k2⟩ := hc _ a1
    exact ⟨_, _, _, _, v', rfl, x1.fh _ _ a3, k1, k2, e1, q v' F1 H1 x1 e2⟩
   ·cases e9
  | _ => cases e
@[irreducible] def p5 (c mn : Str) (f : MF) (mo : ME) (m : ML) : ME := fun ρ => match mo ρ with
 | some (.obj c' ns ds0) => if c' = c /\ mn ∉ ns then (m ρ).bind fun ds => match f (.obj c' ns ds0 :: ds) with | some (.sh d) => some d | some (.fr es) => some (.lst es) | some (.pr d es) => some (.tup [d, .lst es]) | none => none else none
 | _ => none
end
def updB (p : Addr) (c' : Cell) : Bx -> Bx
 | [] => []
 | (q, c) :: β => if q = p then (q, c') :: β else (q, c) :: updB p c' β
section
variable {K : W.Frag} {F0 H0 F H B : Hp} {σ : St} {ρ : Ro} {β : Bx} {fp : List Addr}
theorem BxR.upd {p : Addr} {c : Cell} : ∀ {fp : List Addr} {β : Bx}, BxR K F B fp β -> fp.Nodup -> β.lookup p = some c -> ∃ fq, CellR K F B fq p c /\ fq.Nodup /\ (∀ a ∈ fq, a ∈ fp) /\
  ∀ (c' : Cell) (fq' : List Addr) (B' F' : Hp), Same F F' -> CellR K F' B' fq' p c' -> fq'.Nodup -> (∀ a ∈ fp, a ∉ fq -> B' a = B a) -> (∀ a ∈ fq', a ∈ fq \/ a ∉ fp) -> ∃ fp', BxR K F' B' fp' (updB p c' β) /\ fp'.Nodup /\ ∀ a ∈ fp', a ∈ fp \/ a ∈ fq'
 | _, _, .nil, _, e => by cases e
 | _, _, .cons (fp := f0) (fq := f1) (p := q) (c := c0) (β := β) h r, nd, e => by
  obtain ⟨n0, n1, n2⟩ := List.nodup_append.mp nd
  have dj : ∀ a, a ∈ f0 -> a ∈ f1 -> False := fun a h1 h2 => n2 a h1 a h2 rfl
  rw [lookup_cons] at e
  cases z : p == q with
  | true =>
   rw [z] at e
   have z := beq_iff_eq.mp z
   subst z
   cases e
   refine ⟨f0, h, n0, fun a ha => mem_append_left _ ha, fun c' fq' B' F' sf hc nq ag fr => ?_⟩
   unfold updB
   rw [if_pos rfl]
   refine ⟨fq' ++ f1, .cons hc (r.mono sf fun a ha => ag a (mem_append_right _ ha) fun z => dj a z ha), List.nodup_append.mpr ⟨nq, n1, fun a h1 b h2 hab => ?_⟩, fun a ha => ?_⟩
   ·subst hab
    rcases fr a h1 with z | z
    ·exact dj a z h2
    ·exact z (mem_append_right _ h2)
   ·rcases List.mem_append.mp ha with z | z
    ·exact .inr z
    ·exact .inl (mem_append_right _ z)
  | false =>
   rw [z] at e
   have hne : ¬ q = p := fun y => by rw [y, beq_self_eq_true] at z; cases z
   obtain ⟨fq, h1, nq0, hin, hup⟩ := r.upd n1 e
   refine ⟨fq, h1, nq0, fun a ha => mem_append_right _ (hin a ha), fun c' fq' B' F' sf hc nq ag fr => ?_⟩
   obtain ⟨fp', r', nd', hm⟩ := hup c' fq' B' F' sf hc nq (fun a ha hn => ag a (mem_append_right _ ha) hn) fun a ha => (fr a ha).imp id fun z y => z (mem_append_right _ y)
   unfold updB
   rw [if_neg hne]
   refine ⟨f0 ++ fp', .cons (h.mono sf fun a ha => ag a (mem_append_left _ ha) fun y => dj a ha (hin a y)) r', List.nodup_append.mpr ⟨n0, nd', fun a h1 b h2 hab => ?_⟩, fun a ha => ?_⟩
   ·subst hab
    rcases hm a h2 with z | z
    ·exact dj a h1 z
    ·rcases fr a z with y | y
     ·exact dj a h1 (hin a y)
     ·exact y (mem_append_left _ h1)
   ·rcases List.mem_append.mp ha with z | z
    ·exact .inl (mem_append_left _ z)
    ·exact (hm a z).imp (mem_append_right _) id
theorem Rl.putB {a : Addr} {o : HO} (rl : Rl K F0 (jn H0 B) F H σ ρ) (out : ∀ b, B b ≠ none -> H0 b = none /\ F0 b = none) (ha : B a ≠ none \/ H a = none) : Rl K F0 (jn H0 (upd B a o)) F (upd H a o) σ ρ /\ F a = none /\ H0 a = none /\ F0 a = none := by
 have fa : F a = none /\ H0 a = none /\ F0 a = none := by
  rcases ha with h | h
  ·refine ⟨?_, out a h⟩
   cases q : F a with
   | none => rfl
   | some u => exact absurd (X2 (rl.ext.new a (out a h).2 (by rw [q]; simp))).1 h
  ·have f : F a = none := rl.fh.free h
   exact ⟨f, (X2 (rl.ext.hh.free h)).2, rl.ext.ff.free f⟩
 have jo : ∀ b, b ≠ a -> jn H0 (upd B a o) b = jn H0 B b := fun b hb => by unfold jn; rw [x6 hb]
 have ne : ∀ p xs, jn H0 B p = none -> H p = some (.lst xs) -> p ≠ a := fun p xs e1 e2 e3 => by
  subst e3
  rcases ha with h | h
  ·exact h (X2 e1).1
  ·rw [h] at e2; cases e2
 refine ⟨⟨⟨rl.ext.ff, fun b u e => ?_, rl.ext.fh.put fa.1, fun b e n => ?_, rl.ext.nf⟩, rl.len, rl.sh, fun i ds e => ?_, rl.inj, fun i p ds e => ?_, rl.obn, rl.ob1⟩, fa⟩
 ·by_cases hb : b = a
  ·subst hb
   rw [m9 y8] at e
   rw [y8]; exact e
  ·rw [jo b hb] at e
   rw [x6 hb]
   exact rl.ext.hh b u e
 ·have hb : b ≠ a := fun z => by subst z; exact n fa.1
  rw [jo b hb]
  exact rl.ext.new b e n
 ·obtain ⟨p, xs, a1, a2, a3, a4, a5⟩ := rl.own i ds e
  have hp := ne p xs a5 a3
  exact ⟨p, xs, a1, a2, by rw [x6 hp]; exact a3, a4, by rw [jo p hp]; exact a5⟩
 ·obtain ⟨a1, a2, a3, xs, a4, a5⟩ := rl.ob i p ds e
  have hp := ne p xs a3 a4
  exact ⟨a1, a2, by rw [jo p hp]; exact a3, xs, by rw [x6 hp]; exact a4, a5⟩
end
end
section
def putN (f : Str) (w : Fl) : List Str -> List Fl -> List Str × List Fl
 | n :: ns, g :: gs => if n = f then (n :: ns, w :: gs) else (n :: (putN f w ns gs).1, g :: (putN f w ns gs).2)
 | _, _ => ([f], [w])
section
variable {K : W.Frag} {F0 H0 F H B : Hp} {σ : St} {ρ : Ro} {β : Bx} {fp : List Addr}
theorem FlR.one_cons {fw : List Addr} {y : V} {w : Fl} (h : FlR K F B fw [y] [w]) {fq : List Addr} {xs : List V} {fs : List Fl} (r : FlR K F B fq xs fs) : FlR K F B (fw ++ fq) (y :: xs) (w :: fs) := by
 cases h with
 | v a b => cases b; exact .v a r
 | l a b c => cases c; exact .l a b r
theorem FlR.put {f : Str} {y : V} {w : Fl} {fw : List Addr} (hw : FlR K F B fw [y] [w]) (nw : fw.Nodup) : ∀ {fq : List Addr} {ns : List Str} {xs : List V} {fs : List Fl}, FlR K F B fq xs fs -> ns.length = xs.length -> fq.Nodup -> (∀ a ∈ fw, a ∉ fq) ->
  ∃ xs' fq', putF f y (ns.zip xs) = (putN f w ns fs).1.zip xs' /\ (putN f w ns fs).1.length = xs'.length /\ FlR K F B fq' xs' (putN f w ns fs).2 /\ fq'.Nodup /\ ∀ a ∈ fq', a ∈ fq \/ a ∈ fw
 | _, [], _, _, .nil, _, _, _ => ⟨[y], fw, rfl, rfl, hw, nw, fun a h => .inr h⟩
 | _, _ :: _, _, _, .nil, hl, _, _ => by cases hl
 | _, [], _, _, .v _ _, hl, _, _ => by cases hl
 | _, [], _, _, .l _ _ _, hl, _, _ => by cases hl
 | fq, n :: ns, x :: xs, _ :: fs, .v r rr, hl, nd, dj => by
  have l' : ns.length = xs.length := by simpa using hl
  by_cases hn : n = f
  ·refine ⟨y :: xs, fw ++ fq, ?_, ?_, ?_, ?_, ?_⟩
   ·rw [zip_cons_cons]; unfold putF putN; rw [if_pos hn, if_pos hn]; rfl
   ·unfold putN; rw [if_pos hn]; simpa using hl
   ·unfold putN; rw [if_pos hn]; exact hw.one_cons rr
   ·exact List.nodup_append.mpr ⟨nw, nd, fun a h1 b h2 e => by subst e; exact dj a h1 h2⟩
   ·intro a ha; exact (List.mem_append.mp ha).symm
  ·obtain ⟨xs', fq', e1, e2, e3, e4, e5⟩ := FlR.put (f := f) hw nw rr l' nd dj
   refine ⟨x :: xs', fq', ?_, ?_, ?_, e4, e5⟩
   ·rw [zip_cons_cons]; unfold putF putN; rw [if_neg hn, if_neg hn, e1]; rfl
   ·unfold putN; rw [if_neg hn]; simp [e2]
   ·unfold putN; rw [if_neg hn]; exact .v r e3
 | _, n :: ns, _ :: xs, _ :: fs, .l (fp := fq) (q := q) b r rr, hl, nd, dj => by
  have l' : ns.length = xs.length := by simpa using hl
  have nd' := List.nodup_cons.mp nd
  have dj' : ∀ a ∈ fw, a ∉ fq := fun a h1 h2 => dj a h1 (mem_cons_of_mem _ h2)
  by_cases hn : n = f
  ·refine ⟨y :: xs, fw ++ fq, ?_, ?_, ?_, ?_, ?_⟩
   ·rw [zip_cons_cons]; unfold putF putN; rw [if_pos hn, if_pos hn]; rfl
   ·unfold putN; rw [if_pos hn]; simpa using hl
   ·unfold putN; rw [if_pos hn]; exact hw.one_cons rr
   ·exact List.nodup_append.mpr ⟨nw, nd'.2, fun a h1 b h2 e => by subst e; exact dj' a h1 h2⟩
   ·intro a ha
    rcases List.mem_append.mp ha with z | z
    ·exact .inr z
    ·exact .inl (mem_cons_of_mem _ z)
  ·obtain ⟨xs', fq', e1, e2, e3, e4, e5⟩ := FlR.put (f := f) hw nw rr l' nd'.2 dj'
   refine ⟨.ref q :: xs', q :: fq', ?_, ?_, ?_, ?_, ?_⟩
   ·rw [zip_cons_cons]; unfold putF putN; rw [if_neg hn, if_neg hn, e1]; rfl
   ·unfold putN; rw [if_neg hn]; simp [e2]
   ·unfold putN; rw [if_neg hn]; exact .l b r e3
   ·refine List.nodup_cons.mpr ⟨fun h => ?_, e4⟩
    rcases e5 q h with z | z
    ·exact nd'.1 z
    ·exact dj q z (by simp)
   ·intro a ha
    rcases List.mem_cons.mp ha with rfl | z
    ·exact .inl (by simp)
    ·exact (e5 a z).imp (mem_cons_of_mem _) id
theorem Rl.takeB {q : Addr} {o : HO} (rl : Rl K F0 (jn H0 B) F H σ ρ) (hH : H q = some o) (hF : F q = none) (hj : jn H0 B q = none) (hn : ∀ (i : Nat) ds, ρ[i]? = some (some (.own ds)) -> σ[i]? ≠ some (some (.ref q))) (hb : ∀ (i : Nat) p ds, ρ[i]? = some (some (.ob p ds)) -> p ≠ q) : Rl K F0 (jn H0 (upd B q o)) F H σ ρ := by
 have jo : ∀ b, b ≠ q -> jn H0 (upd B q o) b = jn H0 B b := fun b hb => by unfold jn; rw [x6 hb]
 refine ⟨⟨rl.ext.ff, fun b u e => ?_, rl.ext.fh, fun b e n => ?_, rl.ext.nf⟩, rl.len, rl.sh, fun i ds e => ?_, rl.inj, fun i p ds e => ?_, rl.obn, rl.ob1⟩
 ·by_cases hq : b = q
  ·subst hq; rw [m9 y8] at e; cases e; exact hH
  ·rw [jo b hq] at e; exact rl.ext.hh b u e
 ·have hq : b ≠ q := fun z => by subst z; exact n hF
  rw [jo b hq]; exact rl.ext.new b e n
 ·obtain ⟨p, xs, a1, a2, a3, a4, a5⟩ := rl.own i ds e
  exact ⟨p, xs, a1, a2, a3, a4, by rw [jo p (fun z => hn i ds e (by rw [<- z]; exact a1))]; exact a5⟩
 ·obtain ⟨a1, a2, a3, xs, a4, a5⟩ := rl.ob i p ds e
  exact ⟨a1, a2, by rw [jo p (hb i p ds e)]; exact a3, xs, a4, a5⟩
theorem zz1 {a : Addr} {o : HO} (out : ∀ b, B b ≠ none -> H0 b = none /\ F0 b = none) (h : H0 a = none /\ F0 a = none) : ∀ b, upd B a o b ≠ none -> H0 b = none /\ F0 b = none := fun b hb => by
 by_cases z : b = a
 ·subst z; exact h
 ·rw [x6 z] at hb; exact out b hb
theorem Q2 {a : Addr} {o : HO} (pl : ∀ b o u, B b ≠ some (.frz o u)) (h : ∀ p u, o ≠ .frz p u) : ∀ b p u, upd B a o b ≠ some (.frz p u) := fun b p u hb => by
 by_cases z : b = a
 ·subst z; rw [y8] at hb; exact h p u (Option.some.inj hb)
 ·rw [x6 z] at hb; exact pl b p u hb
theorem RlW.fld {p : Addr} {c f : Str} {ns : List Str} {fs : List Fl} {y : V} {w : Fl} {fw : List Addr} (rl : Rl K F0 (jn H0 B) F H σ ρ) (ok : BxOk K F0 H0 F B fp β) (hb : β.lookup p = some (.ins c ns fs)) (hw : FlR K F B fw [y] [w]) (nw : fw.Nodup) (dj : ∀ a ∈ fw, a ∉ fp) :
  ∃ C dx xs, W.nsIn K mainGlobals c = some (some (.ref C)) /\ H p = some (.ins C dx (ns.zip xs)) /\ RlW K F0 H0 F (upd H p (.ins C dx (putF f y (ns.zip xs)))) σ ρ (updB p (.ins c (putN f w ns fs).1 (putN f w ns fs).2) β) := by
 obtain ⟨fq, hc, nq, hin, up⟩ := ok.bx.upd ok.nd hb
 cases hc with
 | @ins fq0 _ dx C _ _ xs _ a1 a2 a3 a4 a5 =>
  have nq1 := List.nodup_cons.mp nq
  have nq2 := List.nodup_cons.mp nq1.2
  have pin : p ∈ fp := hin p (by simp)
  have din : dx ∈ fp := hin dx (by simp)
  obtain ⟨xs', fq', e1, e2, e3, e4, e5⟩ := FlR.put (f := f) hw nw a5 a2 nq2.2 fun a h1 h2 => dj a h1 (hin a (by simp [h2]))
  refine ⟨C, dx, xs, a1, rl.ext.hh _ _ (m9 a3), ?_⟩
  obtain ⟨rl', fa, ha0, hf0⟩ := rl.putB (a := p) (o := .ins C dx (putF f y (ns.zip xs))) ok.out (.inl (by rw [a3]; simp))
  have pn : p ∉ fq' := fun h => by
   rcases e5 p h with z | z
   ·exact nq1.1 (by simp [z])
   ·exact dj p z pin
  have dn : dx ∉ fq' := fun h => by
   rcases e5 dx h with z | z
   ·exact nq2.1 z
   ·exact dj dx z din
  have pd : dx ≠ p := fun z => nq1.1 (by simp [z])
  have hcell : CellR K F (upd B p (.ins C dx (putF f y (ns.zip xs)))) (p :: dx :: fq') p (.ins c (putN f w ns fs).1 (putN f w ns fs).2) :=
   .ins a1 e2 (by rw [y8, e1]) (by rw [x6 pd]; exact a4) (e3.mono (Same.refl _) fun a ha => x6 fun z => pn (z ▸ ha))
  obtain ⟨fp', r', nd', hm⟩ := up _ _ _ F (Same.refl _) hcell (List.nodup_cons.mpr ⟨fun h => by rcases List.mem_cons.mp h with z | z; exact pd z.symm; exact pn z, List.nodup_cons.mpr ⟨dn, e4⟩⟩) (fun a ha hn => x6 fun z => hn (by rw [z]; simp)) (fun a ha => by
   rcases List.mem_cons.mp ha with rfl | ha
   ·exact .inl (by simp)
   ·rcases List.mem_cons.mp ha with rfl | ha
    ·exact .inl (by simp)
    ·rcases e5 a ha with z | z
     ·exact .inl (by simp [z])
     ·exact .inr (dj a z))
  exact ⟨_, fp', rl', zz1 ok.out ⟨ha0, hf0⟩, r', nd', Q2 ok.plain fun _ _ z => by cases z⟩
end
section
variable {X : Cx} {value o : Expr} {pos pos' : Pos} {f : Str}
def yn3 (i : Nat) (c f : Str) (x : Ro -> Bx -> Option D) : MW := fun ρ β => (x ρ β).bind fun d => match ρ[i]? with
 | some (some (.sh (.ptr p))) => (match β.lookup p with
  | some (.ins c' ns fs) => if c' = c /\ ns.length < 1000 then some (.nx ρ, updB p (.ins c' (putN f (.v d) ns fs).1 (putN f (.v d) ns fs).2) β) else none
  | _ => none)
 | _ => none
theorem xu3 {i : Nat} {c : Str} {mv : Ro -> Bx -> Option D} (hc : ∀ C, W.nsIn X.K mainGlobals c = some (some (.ref C)) -> Cls X.K C /\ NoAttr X.K C f) (ho : PD X o (mvar i)) (hv : PDw X value mv) (hs : swapsWith value (some (.Attribute o f pos')) pos.line X.env = pure false := by rfl) :
  PSw X (.Assign [.Attribute o f pos'] value pos) (yn3 i c f mv) := PS.imp (xz4 ho hv hs) fun D σ H hpat => by
 obtain ⟨F0, H0, F, ρ, β, o', β', rw', e, k⟩ := hpat
 unfold yn3 at e
 cases h1 : mv ρ β with
 | none => rw [h1] at e; cases e
 | some d =>
  rw [h1, Option.bind_some] at e
  split at e
  ·rename_i p hp
   split at e
   ·rename_i c' ns fs hb
    split at e
    ·rename_i hz
     obtain ⟨rfl, hz⟩ := hz
     cases e
     refine ⟨F0, H0, F, ρ, β, d, rw', h1, fun v F1 H1 r1 s1 _ rp => ?_⟩
     obtain ⟨B, fp, rl, ok⟩ := r1
     refine ⟨F0, jn H0 B, F1, ρ, .ptr p, rl, by unfold mvar; rw [hp], fun x F2 H2 x2 r2 => ?_⟩
     cases r2
     obtain ⟨C, dx, xs, g1, g2, g3⟩ := RlW.fld (f := f) (rl.go x2) (ok.mono x2.ff) hb (.v (rp.mono x2.ff) .nil) nodup_nil (fun a h => by cases h)
     obtain ⟨k1, k2⟩ := hc C g1
     exact ⟨p, C, dx, _, rfl, g2, k1, k2, by rw [length_zip]; omega, k F2 _ σ g3 (s1.trans x2.ff)⟩
    ·cases e
   ·cases e
  ·cases e
def J8 (i : Nat) (c f : Str) (x : Ro -> Bx -> Option (List D)) : MW := fun ρ β => (x ρ β).bind fun ds => match ρ[i]? with
 | some (some (.sh (.ptr p))) => (match β.lookup p with
  | some (.ins c' ns fs) => if c' = c /\ ns.length < 1000 then some (.nx ρ, updB p (.ins c' (putN f (.l ds) ns fs).1 (putN f (.l ds) ns fs).2) β) else none
  | _ => none)
 | _ => none
def TFw (K : W.Frag) (m : Ro -> Bx -> Option (List D)) : TE := fun σ H Q => ∃ F0 H0 F ρ β ds, RlW K F0 H0 F H σ ρ β /\ m ρ β = some ds /\ ∀ q ys F' H' B fp, Rl K F0 (jn H0 B) F' H' σ ρ -> BxOk K F0 H0 F' B fp β -> Same F F' -> jn H0 B q = none -> H q = none -> F' q = none -> H' q = some (.lst ys) -> Reps K F' ys ds -> Q (.ref q) H'
def PFw (X : Cx) (e : Expr) (m : Ro -> Bx -> Option (List D)) : Prop := PE X e (TFw X.K m)
end
end
section
section
variable {X : Cx} {value e o : Expr} {pos pos' apos cpos : Pos} {f : Str} {st : Stmt} {rest : List Stmt}
theorem pfw {m : ML} (h : PF X e m) : PFw X e (wE m) := PE.imp h fun σ H Q ⟨F0, H0, F, ρ, β, ds, ⟨B, fp, rl, ok⟩, e, q⟩ =>
 ⟨F0, jn H0 B, F, ρ, ds, rl, e, fun p xs F' H' x hp hF hH r => q p xs F' H' B fp (rl.go x) (ok.mono x.ff) x.ff (rl.ext.hh.free hp) hp hF hH r⟩
def yu3 (m : ML) : Ro -> Bx -> Option (List D) := fun ρ β => (m (thaw ρ β)).bind fun ds => if ds.all isSc = true then some ds else none
theorem ys9 {K : W.Frag} {F G : Hp} : ∀ {vs : List V} {ds : List D}, ds.all isSc = true -> Reps K F vs ds -> Reps K G vs ds
 | _, _, _, .nil => .nil
 | _, _, h, .cons r rr => by
  rw [all_cons, Bool.and_eq_true] at h
  exact .cons (ya6 h.1 r) (ys9 h.2 rr)
theorem za4 {m : ML} (h : PF X e m) : PFw X e (yu3 m) := PE.imp h fun σ H Q ⟨F0, H0, F, ρ, β, ds, ⟨B, fp, rl, ok⟩, e, q⟩ => by
 unfold yu3 at e
 cases h1 : m (thaw ρ β) with
 | none => rw [h1] at e; cases e
 | some d' =>
  rw [h1, Option.bind_some] at e
  split at e
  ·rename_i hs
   cases e
   obtain ⟨r1, fb⟩ := RlW.frozen rl ok
   exact ⟨_, _, _, _, _, r1, h1, fun p xs F' H' x hp hF hH r => q p xs F H' B fp (rl.go ⟨Same.refl _, x.hh, rl.fh.trans x.hh, fun b e n => absurd e n, fun _ _ _ z => z⟩) ok (Same.refl _) (rl.ext.hh.free hp) hp (rl.fh.free hp) hH (ys9 hs r)⟩
  ·cases e
theorem ye4 {K : W.Frag} {F0 H0 H F' H' B : Hp} {σ : St} {ρ : Ro} {q : Addr} {ys : List V} (rl : Rl K F0 (jn H0 B) F' H' σ ρ) (hs : ∀ a o, H a = some o -> a ≠ q) (own : ∀ (i : Nat) ds p, ρ[i]? = some (some (.own ds)) -> σ[i]? = some (some (.ref p)) -> ∃ o, H p = some o) (ob : ∀ (i : Nat) p ds, ρ[i]? = some (some (.ob p ds)) -> ∃ o, H p = some o) (hj : jn H0 B q = none) (hF : F' q = none) (hH : H' q = some (.lst ys)) : Rl K F0 (jn H0 (upd B q (.lst ys))) F' H' σ ρ :=
 rl.takeB hH hF hj (fun i ds e z => let ⟨o, h⟩ := own i ds q e z; hs q o h rfl) fun i p ds e z => let ⟨o, h⟩ := ob i p ds e; hs p o h z
theorem K6 {i : Nat} {c : Str} {mv : Ro -> Bx -> Option (List D)} (hc : ∀ C, W.nsIn X.K mainGlobals c = some (some (.ref C)) -> Cls X.K C /\ NoAttr X.K C f) (ho : PD X o (mvar i)) (hv : PFw X value mv) (hs : swapsWith value (some (.Attribute o f pos')) pos.line X.env = pure false := by rfl) :
  PSw X (.Assign [.Attribute o f pos'] value pos) (J8 i c f mv) := PS.imp (xz4 ho hv hs) fun D σ H hpat => by
 obtain ⟨F0, H0, F, ρ, β, o', β', rw', e, k⟩ := hpat
 unfold J8 at e
 cases h1 : mv ρ β with
 | none => rw [h1] at e; cases e
 | some ds =>
  rw [h1, Option.bind_some] at e
  split at e
  ·rename_i p hp
   split at e
   ·rename_i c' ns fs hb
    split at e
    ·rename_i hz
     obtain ⟨rfl, hz⟩ := hz
     cases e
     have rw0 := rw'
     obtain ⟨B0, fp0, rl0, ok0⟩ := rw0
     refine ⟨F0, H0, F, ρ, β, ds, rw', h1, fun q ys F1 H1 B fp rl ok s1 hj hq hF hH rp => ?_⟩
     refine ⟨F0, jn H0 B, F1, ρ, .ptr p, rl, by unfold mvar; rw [hp], fun x F2 H2 x2 r2 => ?_⟩
     cases r2
     have hown : ∀ (i : Nat) ds a, ρ[i]? = some (some (.own ds)) -> σ[i]? = some (some (.ref a)) -> ∃ o, H a = some o := fun i ds a e1 e2 => by
      obtain ⟨z, xs, a1, a2, a3, _⟩ := rl0.own i ds e1
      rw [a1] at e2; cases e2; exact ⟨_, a3⟩
     have hob : ∀ (i : Nat) a ds, ρ[i]? = some (some (.ob a ds)) -> ∃ o, H a = some o := fun i a ds e1 => by
      obtain ⟨_, _, _, xs, a4, _⟩ := rl0.ob i a ds e1
      exact ⟨_, a4⟩
     have nq : ∀ a o, H a = some o -> a ≠ q := fun a o h z => by rw [z, hq] at h; cases h
     have rl2 := rl.go x2
     have hF2 : F2 q = none := by
      cases z : F2 q with
      | none => rfl
      | some u => have := x2.new q hF (by rw [z]; simp); rw [hH] at this; cases this
     have hH2 : H2 q = some (.lst ys) := x2.hh _ _ hH
     have rl3 := ye4 (H := H) rl2 nq hown hob hj hF2 hH2
     obtain ⟨bq, h0q⟩ := X2 hj
     have ok2 := ok.mono x2.ff
     have qn : q ∉ fp := fun z => ok.bx.mem q z bq
     have f0q : F0 q = none := rl2.ext.ff.free hF2
     have ok3 : BxOk X.K F0 H0 F2 (upd B q (.lst ys)) fp β := ⟨zz1 ok2.out ⟨h0q, f0q⟩, ok2.bx.mono (Same.refl _) fun a ha => x6 fun z => qn (z ▸ ha), ok2.nd, Q2 ok2.plain fun _ _ z => by cases z⟩
     obtain ⟨C, dx, xs, g1, g2, g3⟩ := RlW.fld (f := f) rl3 ok3 hb (.l y8 (rp.mono x2.ff) .nil) (by simp) (fun a h => by rw [mem_singleton] at h; rw [h]; exact qn)
     obtain ⟨k1, k2⟩ := hc C g1
     exact ⟨p, C, dx, _, rfl, g2, k1, k2, by rw [length_zip]; omega, k F2 _ σ g3 (s1.trans x2.ff)⟩
    ·cases e
   ·cases e
  ·cases e
def getN (f : Str) : List Str -> List Fl -> Option Fl
 | n :: ns, g :: gs => if n = f then some g else getN f ns gs
 | _, _ => none
theorem FlR.get {K : W.Frag} {F B : Hp} {f : Str} {ds : List D} : ∀ {fq : List Addr} {ns : List Str} {xs : List V} {fs : List Fl}, FlR K F B fq xs fs -> ns.length = xs.length -> fq.Nodup -> getN f ns fs = some (.l ds) ->
  ∃ q ys, (ns.zip xs).lookup f = some (.ref q) /\ q ∈ fq /\ B q = some (.lst ys) /\ Reps K F ys ds /\ ∀ (B' F' : Hp) ys' ds', Same F F' -> B' q = some (.lst ys') -> Reps K F' ys' ds' -> (∀ a ∈ fq, a ≠ q -> B' a = B a) -> FlR K F' B' fq xs (putN f (.l ds') ns fs).2 /\ (putN f (.l ds') ns fs).1 = ns
 | _, [], _, _, .nil, _, _, e => by cases e
 | _, _ :: _, _, _, .nil, hl, _, _ => by cases hl
 | _, [], _, _, .v _ _, hl, _, _ => by cases hl
 | _, [], _, _, .l _ _ _, hl, _, _ => by cases hl
 | fq, n :: ns, x :: xs, _ :: fs, .v r rr, hl, nd, e => by
  have l' : ns.length = xs.length := by simpa using hl
  unfold getN at e
  by_cases hn : n = f
  ·rw [if_pos hn] at e; cases e
  ·rw [if_neg hn] at e
   obtain ⟨q, ys, a1, a2, a3, a4, a5⟩ := FlR.get rr l' nd e
   have hb : (f == n) = false := by
    cases z : f == n with
    | false => rfl
    | true => exact absurd (beq_iff_eq.mp z).symm hn
   refine ⟨q, ys, by rw [zip_cons_cons, lookup_cons, hb]; exact a1, a2, a3, a4, fun B' F' ys' ds' sf b1 b2 b3 => ?_⟩
   obtain ⟨c1, c2⟩ := a5 B' F' ys' ds' sf b1 b2 b3
   unfold putN
   rw [if_neg hn]
   exact ⟨.v (r.mono sf) c1, by simp [c2]⟩
 | _, n :: ns, _ :: xs, _ :: fs, .l (fp := fq) (q := q0) b r rr, hl, nd, e => by
  have l' : ns.length = xs.length := by simpa using hl
  have nd' := List.nodup_cons.mp nd
  unfold getN at e
  by_cases hn : n = f
  ·rw [if_pos hn] at e; cases e
   have hb : (f == n) = true := beq_iff_eq.mpr hn.symm
   refine ⟨q0, _, by rw [zip_cons_cons, lookup_cons, hb], by simp, b, r, fun B' F' ys' ds' sf b1 b2 b3 => ?_⟩
   unfold putN
   rw [if_pos hn]
   exact ⟨.l b1 b2 (rr.mono sf fun a ha => b3 a (by simp [ha]) fun z => nd'.1 (z ▸ ha)), rfl⟩
  ·rw [if_neg hn] at e
   obtain ⟨q, ys, a1, a2, a3, a4, a5⟩ := FlR.get rr l' nd'.2 e
   have hb : (f == n) = false := by
    cases z : f == n with
    | false => rfl
    | true => exact absurd (beq_iff_eq.mp z).symm hn
   refine ⟨q, ys, by rw [zip_cons_cons, lookup_cons, hb]; exact a1, by simp [a2], a3, a4, fun B' F' ys' ds' sf b1 b2 b3 => ?_⟩
   obtain ⟨c1, c2⟩ := a5 B' F' ys' ds' sf b1 b2 fun a ha hq => b3 a (by simp [ha]) hq
   unfold putN
   rw [if_neg hn]
   exact ⟨.l (by rw [b3 q0 (by simp) fun z => nd'.1 (z ▸ a2)]; exact b) (r.mono sf) c1, by simp [c2]⟩
def M1 (i : Nat) (c f : Str) (x : Ro -> Bx -> Option D) : MW := fun ρ β => match ρ[i]? with
 | some (some (.sh (.ptr p))) => (match β.lookup p with
  | some (.ins c' ns fs) => (match getN f ns fs with
   | some (.l ds) => if c' = c /\ ds.length < sizeLine then (x ρ β).map fun d => (.nx ρ, updB p (.ins c' ns (putN f (.l (ds ++ [d])) ns fs).2) β) else none
   | _ => none)
  | _ => none)
 | _ => none
theorem B8 {i : Nat} {c : Str} {mv : Ro -> Bx -> Option D} (hc : ∀ C, W.nsIn X.K mainGlobals c = some (some (.ref C)) -> Cls X.K C /\ NoAttr X.K C f) (ho : PD X o (mvar i)) (hv : PDw X e mv)
  (hb : attributeBase o f X.env (eval o X.env) = eval o X.env) (hE : ∀ to t, PE X (.Attribute o f pos') to -> PA X [e] t -> PE X (.Call (.Attribute (.Attribute o f pos') "append" apos) [e] [] cpos) (tBM X.K "list" zz8 to t))
  (hst : starEach (e :: []) X.env = (false, eval e X.env) :: starEach [] X.env := by rfl) (hs : swapsWith (.Call (.Attribute (.Attribute o f pos') "append" apos) [e] [] cpos) none pos.line X.env = pure false := by rfl) :
  PSw X (.Expr (.Call (.Attribute (.Attribute o f pos') "append" apos) [e] [] cpos) pos) (M1 i c f mv) := PS.imp (Q5 (hE _ _ (xz5 ho hb) (f7 hv pa_nil hst)) hs) fun D σ H hpat => by
 obtain ⟨F0, H0, F, ρ, β, o', β', rw', e, k⟩ := hpat
 unfold M1 at e
 split at e
 ·rename_i p hp
  split at e
  ·rename_i c' ns fs hb
   split at e
   ·rename_i ds hg
    split at e
    ·rename_i hz
     obtain ⟨rfl, hz⟩ := hz
     cases h1 : mv ρ β with
     | none => rw [h1] at e; cases e
     | some d =>
      rw [h1] at e; cases e
      have rw0 := rw'
      obtain ⟨B, fp, rl, ok⟩ := rw0
      refine ⟨F0, jn H0 B, F, ρ, .ptr p, rl, by unfold mvar; rw [hp], fun x F1 H1 x1 r1 => ?_⟩
      cases r1
      obtain ⟨fq, hc1, nq, hin, up⟩ := ok.bx.upd ok.nd hb
      cases hc1 with
      | @ins fq0 _ dx C _ _ xs _ a1 a2 a3 a4 a5 =>
       obtain ⟨k1, k2⟩ := hc C a1
       have nq1 := List.nodup_cons.mp nq
       have nq2 := List.nodup_cons.mp nq1.2
       obtain ⟨q, ys, b1, b2, b3, b4, _⟩ := FlR.get a5 a2 nq2.2 hg
       refine ⟨p, C, dx, _, .ref q, rfl, x1.hh _ _ (rl.ext.hh _ _ (m9 a3)), k1, k2, b1, ?_⟩
       refine ⟨.inl ⟨rfl, _, SqL.of (x1.hh _ _ (rl.ext.hh _ _ (m9 b3)))⟩, ?_⟩
       refine ⟨F0, H0, F1, ρ, β, d, ⟨B, fp, rl.go x1, ok.mono x1.ff⟩, h1, fun v F2 H2 r2 s2 h2 rp => ?_⟩
       obtain ⟨B2, fp2, rl2, ok2⟩ := r2
       obtain ⟨fq', hc2, nq', hin', up'⟩ := ok2.bx.upd ok2.nd hb
       cases hc2 with
       | @ins fq1 _ dx' C' _ _ xs' _ c1 c2 c3 c4 c5 =>
        have e1 : H2 p = some (.ins C dx (ns.zip xs)) := h2 _ _ (x1.hh _ _ (rl.ext.hh _ _ (m9 a3)))
        rw [rl2.ext.hh _ _ (m9 c3)] at e1
        injection e1 with e1
        injection e1 with z1 z2 z3
        have z4 : xs' = xs := by
         have := congrArg (List.map Prod.snd) z3
         rwa [map_snd_zip (by omega), map_snd_zip (by omega)] at this
        subst z4
        have mq1 := List.nodup_cons.mp nq'
        have mq2 := List.nodup_cons.mp mq1.2
        obtain ⟨q', ys', d1, d2, d3, d4, d5⟩ := FlR.get c5 c2 mq2.2 hg
        rw [d1] at b1
        cases b1
        have hq : H2 q = some (.lst ys') := rl2.ext.hh _ _ (m9 d3)
        refine ⟨q, ys', v, rfl, rfl, hq, by rw [d4.length]; exact hz, ?_⟩
        obtain ⟨rl3, fa, ha0, hf0⟩ := rl2.putB (a := q) (o := .lst (ys' ++ [v])) ok2.out (.inl (by rw [d3]; simp))
        have qp : p ≠ q := fun z => mq1.1 (by rw [z]; simp [d2])
        have qd : dx' ≠ q := fun z => mq2.1 (z ▸ d2)
        obtain ⟨g1, g2⟩ := d5 (upd B2 q (.lst (ys' ++ [v]))) F2 (ys' ++ [v]) (ds ++ [d]) (Same.refl _) y8 (d4.append (.cons rp .nil)) fun a ha hn => x6 hn
        have hcell : CellR X.K F2 (upd B2 q (.lst (ys' ++ [v]))) (p :: dx' :: fq1) p (.ins c' ns (putN f (.l (ds ++ [d])) ns fs).2) := .ins c1 c2 (by rw [x6 qp]; exact c3) (by rw [x6 qd]; exact c4) g1
        obtain ⟨fp3, r3, nd3, hm3⟩ := up' _ _ _ F2 (Same.refl _) hcell nq' (fun a ha hn => x6 fun z => hn (by rw [z]; simp [d2])) fun a ha => .inl ha
        exact k F2 _ σ ⟨_, fp3, rl3, zz1 ok2.out ⟨ha0, hf0⟩, r3, nd3, Q2 ok2.plain fun _ _ z => by cases z⟩ (x1.ff.trans s2)
    ·cases e
   ·cases e
  ·cases e
 ·cases e
end
end
section
theorem Rl.forget {K : W.Frag} {F0 H0 F H : Hp} {σ : St} {ρ : Ro} (r : Rl K F0 H0 F H σ ρ) (i : Nat) : Rl K F0 H0 F H σ (ρ.set i none) := by
 have back : ∀ (j : Nat) x, (ρ.set i none)[j]? = some (some x) -> ρ[j]? = some (some x) := fun j x e => by
  by_cases hj : i = j
  ·subst hj
   rcases Nat.lt_or_ge i ρ.length with z | z
   ·rw [getElem?_set_self z] at e; cases e
   ·rw [getElem?_eq_none (by simpa using z)] at e; cases e
  ·rw [getElem?_set_ne hj] at e; exact e
 exact ⟨r.ext, by simp [r.len], fun j d e => r.sh j d (back j _ e), fun j ds e => r.own j ds (back j _ e), fun j k p ds es hjk e1 e2 => r.inj j k p ds es hjk (back j _ e1) (back k _ e2), fun j p ds e => r.ob j p ds (back j _ e), fun j k p ds es e1 e2 => r.obn j k p ds es (back j _ e1) (back k _ e2), fun j k p q ds es e1 e2 => r.ob1 j k p q ds es (back j _ e1) (back k _ e2)⟩
open Classical in
noncomputable def anyN {α : Type} (β : Bx) (f : Addr -> Option α) : Option α := if h : ∃ r, ∀ x, x ∉ β.map Prod.fst -> f x = some r then some (Classical.choose h) else none
theorem yi9 {α : Type} {β : Bx} {f : Addr -> Option α} {r : α} (h : anyN β f = some r) : ∀ x, x ∉ β.map Prod.fst -> f x = some r := by
 unfold anyN at h
 split at h
 ·rename_i hx
  cases h
  exact Classical.choose_spec hx
 ·cases h
theorem yu9 (l : List Addr) : ∃ x, x ∉ l := by
 have aux : ∀ l : List Addr, ∃ b, ∀ a ∈ l, a < b := by
  intro l
  induction l with
  | nil => exact ⟨0, fun a h => by cases h⟩
  | cons a l ih =>
   obtain ⟨b, hb⟩ := ih
   refine ⟨max b (a + 1), fun c hc => ?_⟩
   rcases List.mem_cons.mp hc with rfl | hc
   ·have := Nat.le_max_right b (c + 1); exact Nat.lt_of_lt_of_le (Nat.lt_succ_self c) this
   ·exact Nat.lt_of_lt_of_le (hb c hc) (Nat.le_max_left _ _)
 obtain ⟨b, hb⟩ := aux l
 exact ⟨b, fun h => Nat.lt_irrefl _ (hb b h)⟩
theorem xn3 {α : Type} {β : Bx} {f : Addr -> Option α} {r : α} (h : ∀ x, x ∉ β.map Prod.fst -> f x = some r) : anyN β f = some r := by
 unfold anyN
 have hx : ∃ r, ∀ x, x ∉ β.map Prod.fst -> f x = some r := ⟨r, h⟩
 rw [dif_pos hx]
 obtain ⟨x, hn⟩ := yu9 (β.map Prod.fst)
 have := Classical.choose_spec hx x hn
 rw [h x hn] at this
 exact this.symm
def letGo (i : Nat) (k : Nat) : Out × Bx -> Out × Bx
 | (.nx ρ, β) => (.nx (ρ.set i none), β.drop (β.length - k))
 | (.bk ρ, β) => (.bk (ρ.set i none), β.drop (β.length - k))
 | (.ct ρ, β) => (.ct (ρ.set i none), β.drop (β.length - k))
 | (o, β) => (o, β.drop (β.length - k))
theorem okW.letGo {K : W.Frag} {F0 H0 Fb : Hp} {Dn : Ends} {i k : Nat} : ∀ {o : Out} {β : Bx}, okW K F0 H0 Fb Dn (letGo i k (o, β)).1 (letGo i k (o, β)).2 -> okW K F0 H0 Fb Dn o β
 | .nx ρ, β, h => fun F H σ ⟨B, fp, rl, ok⟩ s => let ⟨fq, ok'⟩ := ok.drop (β.length - k); h F H σ ⟨B, fq, rl.forget i, ok'⟩ s
 | .bk ρ, β, h => fun F H σ ⟨B, fp, rl, ok⟩ s => let ⟨fq, ok'⟩ := ok.drop (β.length - k); h F H σ ⟨B, fq, rl.forget i, ok'⟩ s
 | .ct ρ, β, h => fun F H σ ⟨B, fp, rl, ok⟩ s => let ⟨fq, ok'⟩ := ok.drop (β.length - k); h F H σ ⟨B, fq, rl.forget i, ok'⟩ s
 | .rt d, β, h => fun v F H B fp x ok r => let ⟨fq, ok'⟩ := ok.drop (β.length - k); h v F H B fq x ok' r
 | .rf ds, β, h => fun p xs F H B fp x ok a b c r => let ⟨fq, ok'⟩ := ok.drop (β.length - k); h p xs F H B fq x ok' a b c r
 | .rg d p r, β, h => fun v F H xs B fp x ok a j b c e => let ⟨fq, ok'⟩ := ok.drop (β.length - k); h v F H xs B fq x ok' a j b c e
 | .rp _ _, _, h => h
 | .rgf _ _ _, _, h => h
noncomputable def yo9 (i : Nat) (c : Str) (f : MFW) (m : ML) (rest : MW) : MW := fun ρ β => (m ρ).bind fun ds => anyN β fun x => match f (.ptr x :: ds) ((x, .ins c [] []) :: β) with
 | some (.sh .non, β') => (rest (ρ.set i (some (.sh (.ptr x)))) β').map (letGo i β.length)
 | _ => none
section
variable {X : Cx} {e : Expr} {es : List Expr} {st : Stmt} {rest : List Stmt} {E : XK} {mf : MFW} {m : ML}
theorem BxR.keys {K : W.Frag} {F B : Hp} : ∀ {fp : List Addr} {β : Bx}, BxR K F B fp β -> ∀ p ∈ β.map Prod.fst, B p ≠ none
 | _, _, .nil, p, h => by cases h
 | _, _, .cons (p := q) c r, p, h => by
  rw [map_cons] at h
  rcases List.mem_cons.mp h with z | z
  ·subst z
   cases c with
   | ins _ _ b _ _ => rw [b]; simp
   | row b _ => rw [b]; simp
  ·exact r.keys p z
theorem yf0 {n i : Nat} {c : Str} {C : Addr} {mr : MW} (hC : W.nsIn X.K mainGlobals c = some (some (.ref C))) (hE : ∀ t, PA X es t -> PE X e (xx8 C (spW X.K n mf) [] E t)) (hS : ∀ te, PE X e te -> PS X st (tAsg te (V2 i))) (hl : es.length + 1 = n) (ha : PAs X es m) (hm : ∀ ρ ds, m ρ = some ds -> ds.length = es.length) (hr : PSsw X rest mr) :
  PSsw X (st :: rest) (yo9 i c mf m mr) := PSs.imp (B9 (hS _ (hE _ ha)) hr) fun Dn σ H ⟨F0, H0, F, ρ, β, o, β', ⟨B, fp, rl, ok⟩, e, k⟩ => by
 unfold yo9 at e
 cases h1 : m ρ with
 | none => rw [h1] at e; cases e
 | some ds =>
  rw [h1, Option.bind_some] at e
  refine ⟨F0, jn H0 B, F, ρ, ds, rl, h1, fun vs F1 H1 x1 r1 => ?_⟩
  intro x dx hx hdx hne
  have rl1 := rl.go x1
  have ok1 := ok.mono x1.ff
  have bh : ∀ a, B a ≠ none -> H1 a ≠ none := fun a h => by
   cases q : B a with
   | none => exact absurd q h
   | some u => rw [rl1.ext.hh a u (m9 q)]; simp
  have bx : B x = none := by
   cases q : B x with
   | none => rfl
   | some u => exact absurd hx (bh x (by rw [q]; simp))
  have bdx : B dx = none := by
   cases q : B dx with
   | none => rfl
   | some u => exact absurd hdx (bh dx (by rw [q]; simp))
  have e := yi9 e x fun z => ok.bx.keys x z bx
  have hx' : (upd H1 dx (.own x)) x = none := by rw [x6 (Ne.symm hne)]; exact hx
  obtain ⟨rl2, fa, ha0, hf0⟩ := rl1.putB (a := dx) (o := .own x) ok1.out (.inr hdx)
  have out2 := zz1 (o := HO.own x) ok1.out ⟨ha0, hf0⟩
  obtain ⟨rl3, fb, hb0, hg0⟩ := rl2.putB (a := x) (o := .ins C dx []) out2 (.inr hx')
  have out3 := zz1 (o := HO.ins C dx []) out2 ⟨hb0, hg0⟩
  have nx : x ∉ fp := fun z => ok.bx.mem x z bx
  have ndx : dx ∉ fp := fun z => ok.bx.mem dx z bdx
  have cell : CellR X.K F1 (upd (upd B dx (.own x)) x (.ins C dx [])) [x, dx] x (.ins c [] []) := .ins (xs := []) hC rfl (by rw [y8]; rfl) (by rw [x6 hne, y8]) .nil
  have ok3 : BxOk X.K F0 H0 F1 (upd (upd B dx (.own x)) x (.ins C dx [])) ([x, dx] ++ fp) ((x, .ins c [] []) :: β) :=
   ⟨out3, .cons cell (ok1.bx.mono (Same.refl _) fun a ha => by
    have q1 : a ≠ x := fun z => by subst z; exact nx ha
    have q2 : a ≠ dx := fun z => by subst z; exact ndx ha
    rw [x6 q1, x6 q2]), List.nodup_append.mpr ⟨by simp [Ne.symm hne], ok1.nd, fun a h1 b h2 z => by
    subst z
    rcases List.mem_cons.mp h1 with y | y
    ·exact nx (y ▸ h2)
    ·rw [mem_singleton] at y; exact ndx (y ▸ h2)⟩, Q2 (Q2 ok1.plain fun _ _ z => by cases z) fun _ _ z => by cases z⟩
  split at e
  ·rename_i β1 h2
   show spW X.K n mf (.ref x :: (vs ++ [])) _ _ E
   rw [append_nil]
   refine zw9 rl3 ok3 (by rw [length_cons, r1.length, hm ρ ds h1, hl]) (.cons (.ptr x) r1) (d := .non) (β' := β1) (by rw [h2]; rfl) fun v F' H' rw' sf rp => ?_
   cases rp
   refine ⟨rfl, ?_⟩
   obtain ⟨B', fp', rl', ok'⟩ := rw'
   show TSw X.K mr Dn (σ.set i (some (.ref x))) H'
   cases h3 : mr (ρ.set i (some (.sh (.ptr x)))) β1 with
   | none => rw [h3] at e; cases e
   | some ob =>
    obtain ⟨o1, β2⟩ := ob
    rw [h3] at e
    have e : some (letGo i β.length (o1, β2)) = some (o, β') := e
    have e := Option.some.inj e
    refine ⟨F0, H0, F', _, β1, o1, β2, ⟨B', fp', rl'.set (.ptr x), ok'⟩, h3, okW.letGo (i := i) (k := β.length) ?_⟩
    rw [e]
    exact k.mono (x1.ff.trans sf)
  ·cases e
end
theorem Ext.unjn {F H B F' H' : Hp} (d : ∀ a, B a ≠ none -> H a = none) (x : Ext F (jn H B) F' H') : Ext F H F' H' :=
 ⟨x.ff, fun a o e => x.hh a o (by
  cases q : B a with
  | none => rw [j6 q]; exact e
  | some u => rw [d a (by rw [q]; simp)] at e; cases e), x.fh, fun b e n => (X2 (x.new b e n)).2, x.nf⟩
end
section
def yg3 (n : Nat) (m : MW) : MG := fun p r ds => match m (T0 n p r ds) [] with
 | some (.rg d q r', _) => if q = p then some (.sh d, r') else none
 | _ => none
theorem Fun.okGW {P : Program} {w : World} {K : W.Frag} {mg : Str -> Option Value} {base : Heap} {x qual : Str} {st : Stmt} {f : Addr} {fd : FuncData} {N ps : List Str} {k : Nat} {m : MW} (Fn : Fun K x qual st f fd) (Sc : FnScope N ps (y4 st)) (hn : 0 < N.length)
  (hbody : ∀ (cdv : Value) (A : Around) (outer : List Env) (s : Shared) (H : Hp) (E : XK), Room k (A.deeper (envOfC qual (y4 st) s.heap.objs.size f cdv)) -> PSsw (cxOf CX0 P w K mg base N qual (y4 st) f cdv A outer s H E).nox (b9 st) m) :
  FnOk P w K mg base CX0 (k + 1) f fd ps (spG K ps.length (yg3 N.length m)) := by
 refine Fn.ok Sc (fun vs H Q E h => h.1) fun cdv A outer s H vs Q E hr h => ?_
 obtain ⟨hl, p, ws, F, r0, ds, r, r1, xs, rfl, hH, hF, sf, rx, rs, e, ok⟩ := h
 unfold yg3 at e
 have j0 : jn (del H p) (fun _ => none) = del H p := funext fun a => j6 rfl
 have b0 : BxOk K F (del H p) F (fun _ => none) [] [] := ⟨fun a h => absurd rfl h, .nil, nodup_nil, fun a o u h => by cases h⟩
 split at e
 ·rename_i d q r' β1 h1
  split at e
  ·rename_i hq
   subst hq
   cases e
   refine ⟨_, hbody cdv A outer s H E hr, F, del H q, F, T0 N.length q r0 ds, [], _, β1, ⟨fun _ => none, [], by rw [j0]; exact zn3 hn sf hF hH rx rs, b0⟩, h1, fun v F' H' ys B fp x k' rp _ e1 e2 e3 => ?_⟩
   exact ok v F' H' ys (x.unjn fun a h => (k'.out a h).1) rp e1 e2 e3
  ·cases e
 ·cases e
section
variable {X : Cx} {a b c e o : Expr} {pos : Pos} {st : Stmt} {rest : List Stmt} {E : XK} {es : List Expr} {mf : MFW}
def J7 (i : Nat) (x : Ro -> Bx -> Option D) : MW := fun ρ β => match x ρ β, ρ[i]? with
 | some d, some (some (.ob p r)) => some (.rg d p r, β)
 | _, _ => none
theorem B7 {i : Nat} {ma : Ro -> Bx -> Option D} (h : PS X st (tRet (TDw X.K ma))) : PSw X st (J7 i ma) := PS.imp h fun D σ H hpat => by
 obtain ⟨F0, H0, F, ρ, β, o, β', rw', e, ok⟩ := hpat
 unfold J7 at e
 split at e
 ·rename_i d p r h1 h2
  cases e
  refine ⟨F0, H0, F, ρ, β, d, rw', h1, fun v F1 H1 r1 x1 _ rp => ?_⟩
  obtain ⟨B, fp, rl, k⟩ := r1
  obtain ⟨a1, a2, a3, xs, a4, a5⟩ := rl.ob i p r h2
  exact ok v F1 H1 xs B fp rl.ext k rp a3 a2 a4 a5
 ·cases e
end
end
section
theorem TD.mono {K : W.Frag} {m : ME} {σ : St} {H : Hp} {Q Q' : VK} (h : TD K m σ H Q) (i : ∀ v H', Q v H' -> Q' v H') : TD K m σ H Q' := let ⟨F0, H0, F, ρ, d, rl, e, q⟩ := h; ⟨F0, H0, F, ρ, d, rl, e, fun v F' H' x r => i _ _ (q v F' H' x r)⟩
theorem xx5 {K : W.Frag} {σ : St} {H : Hp} {Q : List V -> Hp -> Prop} (h : TAs K anil σ H Q) : tNil σ H Q := by
 obtain ⟨F0, H0, F, ρ, ds, rl, e, q⟩ := h
 cases e
 exact q [] F H (.refl rl.fh) .nil
section
variable {X : Cx} {e o : Expr} {E : XK}
theorem xk4 {C : Addr} {mn : Str} {sp : Sp} {mo : ME} {σ : St} {H : Hp} {Q : VK} (h : zv5 C mn sp [] E (TD X.K mo) (TAs X.K anil) σ H Q) : zv5 C mn sp [] E (TD X.K mo) tNil σ H Q :=
 TD.mono h fun v H' ⟨a, dx, fs, e1, e2, e3, t⟩ => ⟨a, dx, fs, e1, e2, e3, xx5 t⟩
theorem wx4 {C : Addr} {mn : Str} {sp : Sp} {mo : ME} (h : PE X e (zv5 C mn sp [] E (TD X.K mo) tNil)) : PE X e (zv5 C mn sp [] E (TD X.K mo) (TAs X.K anil)) := PE.imp h fun _ _ _ q => xk4 q
theorem l6 {c mn : Str} {C : Addr} {mo : ME} {mf : MF} (hC : W.nsIn X.K mainGlobals c = some (some (.ref C))) (ho : PD X o mo) (h : ∀ ta, PE X o ta -> PE X e (zv5 C mn (spR X.K 1 mf) [] E ta tNil)) : PD X e (p5 c mn mf mo anil) := by
 have h' := wx4 (h _ ho)
 refine PE.imp h' fun σ H Q q => ?_
 obtain ⟨F0, H0, F, ρ, d, rl, e, q⟩ := q
 unfold p5 at e
 split at e
 ·rename_i c' ns ds0 h0
  split at e
  ·rename_i hz
   obtain ⟨rfl, hz⟩ := hz
   have e : (match mf [.obj c' ns ds0] with | some (.sh d) => some d | some (.fr es) => some (.lst es) | some (.pr d es) => some (.tup [d, .lst es]) | none => none) = some d := e
   refine ⟨F0, H0, F, ρ, _, rl, h0, fun v F1 H1 x1 r1 => ?_⟩
   cases r1 with
   | obj a1 a2 a3 a4 a5 =>
    have a1' := a1
    rw [hC] at a1
    cases a1
    refine ⟨_, _, _, rfl, x1.fh _ _ a3, P6 hz _, F0, H0, F1, ρ, [], rl.go x1, rfl, fun vs F2 H2 x2 r2 => ?_⟩
    cases r2
    have ro := (Rep.obj a1' a2 a3 a4 a5).mono x2.ff
    refine ⟨rfl, F2, [D.obj c' ns ds0], ?_⟩
    have x12 := x1.trans x2
    split at e
    ·rename_i d' h2
     cases e
     exact ⟨_, x2.fh, .cons ro .nil, h2, fun v F3 H3 x3 r3 => q v F3 H3 (x12.trans x3) r3⟩
    ·rename_i es' h2
     cases e
     exact ⟨_, x2.fh, .cons ro .nil, h2, fun p xs F3 H3 x3 hp hF hH r3 => q _ (upd F3 p (.lst xs)) H3 (x12.trans (x3.freeze hF hp hH)) (.lst (SqL.of y8) (r3.mono ((Same.refl F3).put hF)))⟩
    ·rename_i d' es' h2
     cases e
     refine ⟨_, x2.fh, .cons ro .nil, h2, fun t v p xs F3 H3 x3 ht hp hne hFt hFp hHt hHp rv rs => ?_⟩
     have y3 := x3.freeze hFp hp hHp
     have hFt' : upd F3 p (.lst xs) t = none := by rw [x6 hne]; exact hFt
     have s2 : Same F3 (upd F3 p (.lst xs)) := (Same.refl F3).put hFp
     have s3 : Same (upd F3 p (.lst xs)) (upd (upd F3 p (.lst xs)) t (.tup [v, .ref p])) := (Same.refl _).put hFt'
     exact q _ (upd (upd F3 p (.lst xs)) t (.tup [v, .ref p])) H3 (x12.trans (y3.freeze hFt' ht hHt)) (.tup (SqT.of y8) (.cons (rv.mono (s2.trans s3)) (.cons (.lst (SqL.of (by rw [x6 (Ne.symm hne)]; exact y8)) (rs.mono (s2.trans s3))) .nil)))
    ·cases e
  ·cases e
 ·cases e
end
end
section
section
variable {X : Cx} {e : Expr} {pos : Pos}
def yn8 (i : Nat) (x : Ro -> Bx -> Option D) : MW := fun ρ β => match ρ[i]? with
 | some (some (.own ds)) => (x ρ β).bind fun d => if ds.length < sizeLine then some (.nx (ρ.set i (some (.own (ds ++ [d])))), β) else none
 | _ => none
theorem yw6 {i : Nat} {x : Str} {px apos cpos : Pos} {mv : Ro -> Bx -> Option D} (hv : PDw X e mv)
  (hE : ∀ t, PA X [e] t -> PE X (.Call (.Attribute (.Name x px) "append" apos) [e] [] cpos) (tBM X.K "list" zz8 (tVar i) t)) (hst : starEach (e :: []) X.env = (false, eval e X.env) :: starEach [] X.env := by rfl) (hs : swapsWith (.Call (.Attribute (.Name x px) "append" apos) [e] [] cpos) none pos.line X.env = pure false := by rfl) :
  PSw X (.Expr (.Call (.Attribute (.Name x px) "append" apos) [e] [] cpos) pos) (yn8 i mv) := PS.imp (Q5 (hE _ (f7 hv pa_nil hst)) hs) fun D σ H hpat => by
 obtain ⟨F0, H0, F, ρ, β, o, β', rw', e, ok⟩ := hpat
 unfold yn8 at e
 split at e
 ·rename_i ds h1
  cases h2 : mv ρ β with
  | none => rw [h2] at e; cases e
  | some d =>
   rw [h2, Option.bind_some] at e
   split at e
   ·rename_i hz
    cases e
    have rw0 := rw'
    obtain ⟨B0, fp0, rl0, k0⟩ := rw0
    obtain ⟨p, xs, e1, e2, e3, e4, e5⟩ := rl0.own i _ h1
    refine ⟨_, e1, .inl ⟨rfl, _, SqL.of e3⟩, F0, H0, F, ρ, β, d, rw', h2, fun v F1 H1 r1 s1 hh rp => ?_⟩
    obtain ⟨B, fp, rl, k⟩ := r1
    obtain ⟨p', xs', a1, a2, a3, a4, a5⟩ := rl.own i _ h1
    rw [e1] at a1
    cases a1
    exact ⟨p, xs', v, rfl, rfl, a3, by rw [a4.length]; exact hz, ok F1 _ σ ⟨B, fp, rl.write h1 e1 (a4.append (.cons rp .nil)), k⟩ s1⟩
   ·cases e
 ·cases e
end
end
section
section
variable {K : W.Frag} {F0 H0 F H B : Hp} {σ : St} {ρ : Ro} {β : Bx} {fp : List Addr}
end
abbrev MGW := Addr -> List D -> List D -> Bx -> Option (D × List D × Bx)
section
variable {X : Cx} {e : Expr} {pos : Pos} {st : Stmt} {es : List Expr} {E : XK} {mf : MGW} {m : ML}
end
end
section
def zq8 (i : Nat) (m : MW) : MW := fun ρ β => match ρ[i]? with | some (some (.own ds)) => m (ρ.set i (some (.sh (.lst ds)))) β | _ => none
theorem zg5 {X : Cx} {sts : List Stmt} {m : MW} (i : Nat) (h : PSsw X sts m) : PSsw X sts (zq8 i m) := PSs.imp h fun D σ H ⟨F0, H0, F, ρ, β, o, β', ⟨B, fp, rl, k⟩, e, ok⟩ => by
 unfold zq8 at e
 split at e
 ·rename_i ds h1
  obtain ⟨F', rl', s⟩ := rl.freeze h1
  exact ⟨F0, H0, F', _, β, o, β', ⟨B, fp, rl', k.mono s⟩, e, ok.mono s⟩
 ·cases e
end
section
def qfnD (K : W.Frag) (nm ql : Str) (st : Stmt) (x : Addr) : Prop := ∃ (oc : Value) (o1 : Option Addr) (kV dc pm : Value) (o2 : Option Addr) (cd ct : Value) (sl : Array (Option Value)), K.lookup x = some ⟨oc, o1, .func (W.fnOf nm ql (R0 st) (b9 st) (y4 st) .none kV dc pm o2 cd ct), sl⟩ /\ W.codeIn K cd ql = true /\ W.keepIn K (.ref x) = true
def QDn (K : W.Frag) (nm : Str) (st : Stmt) : Prop := ∃ x : Addr, W.nsIn K mainGlobals nm = some (some (.ref x)) /\ qfnD K nm nm st x
def QMn (K : W.Frag) (C : Addr) (nm ql : Str) (st : Stmt) : Prop := ∃ x : Addr, W.findIn K (.ref C) nm = some (some (.ref x)) /\ W.isFn K (.ref x) = true /\ qfnD K nm ql st x
theorem QDn.of {K : W.Frag} {nm : Str} {st : Stmt} {x : Addr} {oc : Value} {o1 : Option Addr} {kV dc pm : Value} {o2 : Option Addr} {cd ct : Value} {sl : Array (Option Value)} (e : W.nsIn K mainGlobals nm = some (some (.ref x))) (l : K.lookup x = some ⟨oc, o1, .func (W.fnOf nm nm (R0 st) (b9 st) (y4 st) .none kV dc pm o2 cd ct), sl⟩) (c : W.codeIn K cd nm = true) (k : W.keepIn K (.ref x) = true) : QDn K nm st := ⟨x, e, oc, o1, kV, dc, pm, o2, cd, ct, sl, l, c, k⟩
theorem QMn.of {K : W.Frag} {C : Addr} {nm ql : Str} {st : Stmt} {x : Addr} {oc : Value} {o1 : Option Addr} {kV dc pm : Value} {o2 : Option Addr} {cd ct : Value} {sl : Array (Option Value)} (e : W.findIn K (.ref C) nm = some (some (.ref x))) (i : W.isFn K (.ref x) = true) (l : K.lookup x = some ⟨oc, o1, .func (W.fnOf nm ql (R0 st) (b9 st) (y4 st) .none kV dc pm o2 cd ct), sl⟩) (c : W.codeIn K cd ql = true) (k : W.keepIn K (.ref x) = true) : QMn K C nm ql st := ⟨x, e, i, oc, o1, kV, dc, pm, o2, cd, ct, sl, l, c, k⟩
abbrev QBdD (nm ql : Str) (st : Stmt) (ps : List Str) (us : List Value) : Prop := ∀ (kV doc pm : Value) (an : Option Addr) (cdv ct : Value), bindArgs (W.fnOf nm ql (R0 st) (b9 st) (y4 st) .none kV doc pm an cdv ct) ⟨us, []⟩ = pure (ps.zip us)
section
variable {P : Program} {w : World} {K : W.Frag} {mg : Str -> Option Value} {base h : Heap} {nm ql cn : Str} {st : Stmt} {ps : List Str} {sp : Sp} {n : Nat} {C : Addr}
def QDf (K : W.Frag) (mg : Str -> Option Value) (nm : Str) (st : Stmt) (ps : List Str) : Prop := ∃ f fd, Fun K nm nm st f fd /\ Binds K fd ps [] /\ mg nm = some (.ref f)
def QHd (P : Program) (w : World) (K : W.Frag) (mg : Str -> Option Value) (base : Heap) (n : Nat) (nm : Str) (ps : List Str) (sp : Sp) : Prop := ∃ f fd, FnOk P w K mg base CX0 n f fd ps sp /\ Binds K fd ps [] /\ W.keepIn K (.ref f) = true /\ mg nm = some (.ref f)
def QMf (K : W.Frag) (C : Addr) (nm ql : Str) (st : Stmt) (ps : List Str) : Prop := ∃ f fd, Fun K nm ql st f fd /\ Binds K fd ps [] /\ Meth K C nm f
def QHm (P : Program) (w : World) (K : W.Frag) (mg : Str -> Option Value) (base : Heap) (n : Nat) (C : Addr) (nm : Str) (ps : List Str) (sp : Sp) : Prop := ∃ f fd, FnOk P w K mg base CX0 n f fd ps sp /\ Binds K fd ps [] /\ Meth K C nm f
def QHi (P : Program) (w : World) (K : W.Frag) (mg : Str -> Option Value) (base : Heap) (n : Nat) (C : Addr) (cn : Str) (ps : List Str) (sp : Sp) : Prop := ∃ f fd, FnOk P w K mg base CX0 n f fd ps sp /\ Binds K fd ps [] /\ Mk K C f /\ mg cn = some (.ref C)
theorem qfnD.mk {x : Addr} (D : qfnD K nm ql st x) (hb : ∀ us : List Value, us.length = ps.length -> QBdD nm ql st ps us) : ∃ fd, Fun K nm ql st x fd /\ Binds K fd ps [] := by
 obtain ⟨oc, o1, kV, dc, pm, o2, cd, ct, sl, l, c, k⟩ := D
 exact ⟨_, yk4 l c k, (yk4 l c k).binds fun _ _ _ _ _ _ us hl => hb us hl _ _ _ _ _ _⟩
theorem QDn.df (D : QDn K nm st) (X : K.In h) (G : h.Ns mainGlobals mg) (hb : ∀ us : List Value, us.length = ps.length -> QBdD nm nm st ps us) : QDf K mg nm st ps := by
 obtain ⟨x, e, D⟩ := D
 obtain ⟨fd, F, b⟩ := D.mk hb
 exact ⟨x, fd, F, b, W.mg_of X G e⟩
theorem QMn.mf (D : QMn K C nm ql st) (hb : ∀ us : List Value, us.length = ps.length -> QBdD nm ql st ps us) : QMf K C nm ql st ps := by
 obtain ⟨x, e, i, D⟩ := D
 obtain ⟨fd, F, b⟩ := D.mk hb
 exact ⟨x, fd, F, b, e, i, F.kp⟩
theorem QDf.mk (D : QDf K mg nm st ps) (h : ∀ f fd, Fun K nm nm st f fd -> FnOk P w K mg base CX0 n f fd ps sp) : QHd P w K mg base n nm ps sp := by
 obtain ⟨f, fd, F, b, a⟩ := D
 exact ⟨f, fd, h f fd F, b, F.kp, a⟩
theorem QMf.mk (D : QMf K C nm ql st ps) (h : ∀ f fd, Fun K nm ql st f fd -> FnOk P w K mg base CX0 n f fd ps sp) : QHm P w K mg base n C nm ps sp := by
 obtain ⟨f, fd, F, b, m⟩ := D
 exact ⟨f, fd, h f fd F, b, m⟩
theorem QHm.hi (H : QHm P w K mg base n C "__init__" ps sp) (m1 : W.makesIn K C = true) (m2 : W.keepIn K (.ref C) = true) (a : mg cn = some (.ref C)) : QHi P w K mg base n C cn ps sp := by
 obtain ⟨f, fd, F, b, m⟩ := H
 exact ⟨f, fd, F, b, ⟨m1, m.at_, m.fn, m2⟩, a⟩
theorem qbd1 {P : List Value -> Prop} (h : ∀ a, P [a]) : ∀ us : List Value, us.length = 1 -> P us
 | [a], _ => h a
theorem qbd2 {P : List Value -> Prop} (h : ∀ a b, P [a, b]) : ∀ us : List Value, us.length = 2 -> P us
 | [a, b], _ => h a b
theorem qbd3 {P : List Value -> Prop} (h : ∀ a b c, P [a, b, c]) : ∀ us : List Value, us.length = 3 -> P us
 | [a, b, c], _ => h a b c
theorem qbd4 {P : List Value -> Prop} (h : ∀ a b c d, P [a, b, c, d]) : ∀ us : List Value, us.length = 4 -> P us
 | [a, b, c, d], _ => h a b c d
end
section
variable {X : Cx} {n k : Nat} {nm cn : Str} {ps : List Str} {sp : Sp} {e o : Expr} {es : List Expr} {ta : TE} {t : TA} {p pos apos : Pos} {C : Addr} {pl : Sem Bool}
theorem qcl (H : QHd X.prog X.w X.K X.mg X.base n nm ps sp) (hr : Room k X.A) (ha : PA X (e :: es) t) (hn : n <= k := by decide) (hg : Gl X nm := by rfl) (hdb : (nm == ("__debug__" : Str)) = false := by decide) (he : starEach (e :: es) X.env = (false, eval e X.env) :: starEach es X.env := by rfl) (hpl : (backTo pos (starEach es X.env)).any (·.1) = false := by rfl) :
  PE X (.Call (.Name nm p) (e :: es) [] pos) (yw3 sp [] E0 t) := by
 obtain ⟨f, fd, F, b, kk, a⟩ := H
 exact xt4 (F.mono hn) hr hg a kk b .nil ye1 ha hdb he hpl
theorem qmt (H : QHm X.prog X.w X.K X.mg X.base n C nm ps sp) (c : Cls X.K C) (hr : Room k X.A) (ho : PE X o ta) (ha : PA X (e :: es) t) (hn : n <= k := by decide)
  (hst : starEach (e :: es) X.env = (false, eval e X.env) :: starEach es X.env := by rfl) (hpl : (backTo pos (starEach es X.env)).any (·.1) = false := by rfl)
  (ht : eval (.Call (.Attribute o nm apos) (e :: es) [] pos) X.env = (do
   let ov ← eval o X.env
   standAt apos.atName
   let (f, first) ← holding [ov] (getMethod ov nm pl)
   callWith pos f first (backTo pos (starEach (e :: es) X.env)) (backToKw pos (keywordEach [] X.env))) := by rfl) :
  PE X (.Call (.Attribute o nm apos) (e :: es) [] pos) (zv5 C nm sp [] E0 ta t) := by
 obtain ⟨f, fd, F, b, m⟩ := H
 exact xt2 ho c m (F.mono hn) hr b .nil ye1 ha hst hpl ht
theorem qmt0 (H : QHm X.prog X.w X.K X.mg X.base n C nm ps sp) (c : Cls X.K C) (hr : Room k X.A) (ho : PE X o ta) (hn : n <= k := by decide)
  (ht : eval (.Call (.Attribute o nm apos) [] [] pos) X.env = (do
   let ov ← eval o X.env
   standAt apos.atName
   let (f, first) ← holding [ov] (getMethod ov nm pl)
   callWith pos f first (backTo pos (starEach [] X.env)) (backToKw pos (keywordEach [] X.env))) := by rfl) :
  PE X (.Call (.Attribute o nm apos) [] [] pos) (zv5 C nm sp [] E0 ta tNil) := by
 obtain ⟨f, fd, F, b, m⟩ := H
 exact yf5 ho c m (F.mono hn) hr b .nil ye1 ht
theorem qmkO (H : QHi X.prog X.w X.K X.mg X.base n C cn ps sp) (hr : Room (k + 1) X.A) (ha : PA X (e :: es) t) (hn : n <= k := by decide) (hg : Gl X cn := by rfl) (hdb : (cn == ("__debug__" : Str)) = false := by decide) (he : starEach (e :: es) X.env = (false, eval e X.env) :: starEach es X.env := by rfl) (hpl : (backTo pos (starEach es X.env)).any (·.1) = false := by rfl) :
  PE X (.Call (.Name cn p) (e :: es) [] pos) (xx8 C sp [] E0 t) := by
 obtain ⟨f, fd, F, b, M, a⟩ := H
 exact xt3 M (F.mono hn) hr hg a b .nil ye1 ha hdb he hpl
end
theorem qap {X : Cx} {o e : Expr} {es : List Expr} {to : TE} {t : TA} {apos cpos : Pos} (ho : PE X o to) (ha : PA X (e :: es) t)
  (hbase : attributeBase o "append" X.env (eval o X.env) = eval o X.env := by rfl)
  (hfew : ((backTo cpos (starEach (e :: es) X.env)).all (fun x => !x.1) && (backToKw cpos (keywordEach [] X.env)).all (fun x => x.1.isSome)
   && decide ((e :: es).length + ([] : List Keyword).length + (if ([] : List Keyword).isEmpty then 0 else 1) < 30)) = true := by rfl)
  (hline : (apos.endLine == cpos.line) = true := by rfl) (hs : starEach (e :: es) X.env = (false, eval e X.env) :: starEach es X.env := by rfl) (hplain : (backTo cpos (starEach es X.env)).any (·.1) = false := by rfl) :
  PE X (.Call (.Attribute o "append" apos) (e :: es) [] cpos) (tBM X.K "list" zz8 to t) := wz9 PySem.F.plainAttrs_list PySem.F.slot_list_append PySem.F.type_list_append zk0 ho ha hbase hfew hline hs hplain
section
variable {a b c d e f : ME} (ρ : Ro) (ds : List D)
theorem qal1 : z8 a anil ρ = some ds -> ds.length = 0 + 1 := F6 G9 ρ ds
theorem qal2 : z8 a (z8 b anil) ρ = some ds -> ds.length = 0 + 1 + 1 := F6 qal1 ρ ds
theorem qal3 : z8 a (z8 b (z8 c anil)) ρ = some ds -> ds.length = 0 + 1 + 1 + 1 := F6 qal2 ρ ds
theorem qal4 : z8 a (z8 b (z8 c (z8 d anil))) ρ = some ds -> ds.length = 0 + 1 + 1 + 1 + 1 := F6 qal3 ρ ds
end
theorem qsc {N P : List Str} {sc : Scope} (a : sc.kind = .function := by rfl) (b : sc.isCoroutine = false := by rfl) (c : sc.isGenerator = false := by rfl) (d : N.Nodup := by decide +kernel) (e : N.take P.length = P := by rfl) (f : ∀ x ∈ P, sc.names.lookup x = some .local \/ sc.names.lookup x = some .cell := by decide +kernel) (g : ∀ y ∈ sc.names, y.2 ≠ .free := by decide +kernel) : FnScope N P sc := ⟨a, b, c, d, e, f, g⟩
abbrev QHF (K : W.Frag) (c f : Str) : Prop := ∀ C, W.nsIn K mainGlobals c = some (some (.ref C)) -> Cls K C /\ NoAttr K C f
end
section
section
variable {X : Cx} {a b c e : Expr} {pos : Pos} {st : Stmt}
@[irreducible] def zc2 (x y : MBm) : MBm := fun ρ => match x ρ with | some (true, ρ1) => y ρ1 | some (false, ρ1) => some (false, ρ1) | none => none
theorem yg6 {ca : MBm} (h : PT X a (TCm X.K ca)) : PW X (.BoolOp .And [a] pos) (TCm X.K ca) := yr8 h
theorem xu0 {ca cb : MBm} {rest : List Expr} (ha : PT X a (TCm X.K ca)) (hb : PW X (.BoolOp .And (b :: rest) pos) (TCm X.K cb)) : PW X (.BoolOp .And (a :: b :: rest) pos) (TCm X.K (zc2 ca cb)) := (ya9 ha hb).imp fun σ H Q hpat => by
 obtain ⟨F0, H0, F, ρ, g, ρ', rl, e, q⟩ := hpat
 unfold zc2 at e
 split at e
 ·rename_i ρ1 h1
  exact ⟨F0, H0, F, ρ, _, ρ1, rl, h1, fun F1 H1 rl1 s1 => iteT ⟨F0, H0, F1, ρ1, g, ρ', rl1, e, fun F2 H2 rl2 s2 => q F2 H2 rl2 (s1.trans s2)⟩⟩
 ·rename_i ρ1 h1
  cases e
  exact ⟨F0, H0, F, ρ, _, _, rl, h1, fun F1 H1 rl1 s1 => iteF (q F1 H1 rl1 s1)⟩
 ·cases e
theorem wy0 {ca : MBm} (h : PW X a (TCm X.K ca)) : PT X a (TCm X.K ca) := h.pt
@[irreducible] def cpu (x : MB) : MBm := fun ρ => match x ρ with | some b => some (b, ρ) | none => none
theorem yf9 {ca : MB} (h : PC' X a ca) : PT X a (TCm X.K (cpu ca)) := PT.imp h fun σ H Q hpat => by
 obtain ⟨F0, H0, F, ρ, g, ρ', rl, e, q⟩ := hpat
 unfold cpu at e
 split at e
 ·rename_i b h1
  cases e
  exact ⟨F0, H0, F, _, _, rl, h1, fun F1 H1 x1 => q F1 H1 (rl.go x1) x1.ff⟩
 ·cases e
def TIm (K : W.Frag) (mi : MLm) : TI := fun σ H R => ∃ F0 H0 F ρ its ρ1, Rl K F0 H0 F H σ ρ /\ mi ρ = some (its, ρ1) /\ ∀ J F' H', Rl K F0 H0 F' H' σ ρ1 -> Same F F' -> ItD K F' J its -> R J H'
@[irreducible] def R6 (f : List D -> Option (List D)) (m : MLm) : MLm := fun ρ => match m ρ with | some (ds, ρ1) => (match f ds with | some its => some (its, ρ1) | none => none) | none => none
theorem zt4 {tg a : Expr} {m : MLm} {p pos : Pos} (hg : Gl X "range") (hm : X.mg "range" = none) (ha : PAm X [a] m) (hs : starEach [a] X.env = [(false, eval a X.env)] := by rfl) : PI X tg (.Call (.Name "range" p) [a] [] pos) (TIm X.K (R6 rng1 m)) := PI.imp (zm2 hg hm ha hs) fun σ H R hpat => by
 obtain ⟨F0, H0, F, ρ, its, ρ1, rl, e, q⟩ := hpat
 unfold R6 at e
 split at e
 ·rename_i ds ρ2 h1
  split at e
  ·rename_i its' h2
   cases e
   refine ⟨F0, H0, F, ρ, ds, _, rl, h1, fun vs F1 H1 rl1 s1 r1 => ?_⟩
   unfold rng1 at h2
   split at h2
   ·rename_i j
    split at h2
    ·rename_i hk
     cases h2
     unfold okR at hk
     simp only [Bool.and_eq_true, decide_eq_true_eq] at hk
     cases r1 with
     | cons r rr =>
      cases rr
      exact ⟨j, by rw [r.i'], hk.1, hk.2, q _ F1 H1 rl1 s1 zx4⟩
    ·cases h2
   ·cases h2
  ·cases e
 ·cases e
@[irreducible] def D3 (src : List (Option Nat)) (mi : MLm) (g : Tg) (c : MB) (elt : ME) : MEm := fun ρ => match mi ρ with
 | some (its, ρ1) => (match V4 g c elt its (g5 src ρ1) [] with | some out => some (.lst out, ρ1) | none => none)
 | none => none
theorem yj4 {K : W.Frag} {src : List (Option Nat)} {mi : MLm} {g : Tg} {c : MB} {elt : ME} {σ : St} {H : Hp} {Q : VK} (h : TDm K (D3 src mi g c elt) σ H Q) : C4 src (TIm K mi) (TGd K g) (TC K c) (TD K elt) σ H Q := by
 obtain ⟨F0, H0, F, ρ0, d, ρ, rl, e, q⟩ := h
 unfold D3 at e
 split at e
 ·rename_i its ρ1 h1
  split at e
  ·rename_i out h2
   cases e
   refine ⟨F0, H0, F, ρ0, its, _, rl, h1, fun J F1 H1 rl1 s1 I p hp => ?_⟩
   obtain ⟨rb, no⟩ := rl1.blk src
   exact zw6 rl1.fh hp (rb.noB no hp) I h2 fun xs F' H' xe hF' hH' ra => q _ (upd F' p (.lst xs)) H' (rl1.go (xe.freeze hF' hp hH')) (s1.trans (xe.ff.trans ((Same.refl F').put hF'))) (.lst (SqL.of y8) (ra.mono ((Same.refl F').put hF')))
  ·cases e
 ·cases e
theorem yw7 {k : Nat} {src : List (Option Nat)} {mi : MLm} {g : Tg} {cc : MB} {me : ME} (h : PS X st (tAsg (C4 src (TIm X.K mi) (TGd X.K g) (TC X.K cc) (TD X.K me)) (V2 k))) : PSd X st (X9 k (D3 src mi g cc me)) := xc7 h fun _ _ _ q => yj4 q
@[irreducible] def P3 (src : List (Option Nat)) (mi : MLm) (i j : Nat) (elt : MEm) : MEm := fun ρ => match mi ρ with
 | some (its, ρ1) => zk7 src (fun _ => some its) i j elt ρ1
 | none => none
theorem yt1 {K : W.Frag} {src : List (Option Nat)} {mi : MLm} {i j : Nat} {elt : MEm} (hs : src[j]? = some (some i)) (hj : j ≠ 0) {σ : St} {H : Hp} {Q : VK} (h : TDm K (P3 src mi i j elt) σ H Q) : C4 src (TIm K mi) (V2 0) tYes (TDm K elt) σ H Q := by
 obtain ⟨F0, H0, F, ρ, g, ρ', rl, e, q⟩ := h
 unfold P3 at e
 split at e
 ·rename_i its ρ1 h0
  unfold zk7 at e
  split at e
  ·rename_i r0 hi
   simp only at e
   split at e
   ·rename_i out ρb h2
    split at e
    ·rename_i r1 h3
     cases e
     refine ⟨F0, H0, F, ρ, its, ρ1, rl, h0, fun J F1 H1 rl1 s1 I p hp => ?_⟩
     obtain ⟨rr, ys, a1, a2, a3, a4, a5⟩ := rl1.own i r0 hi
     have hrp : rr ≠ p := fun w => by rw [w, hp] at a3; cases a3
     exact zs3 rl1.fh hp hrp hj I (rl1.blkJ hs hi a1 hp) (D2 hs a1) h2 h3 fun xs zs F' H' xf b1 b2 b3 b4 b5 => q _ _ _ (rl1.lent hi a1 xf b1 b2 b3) (s1.trans xf.ff) (.lst (SqL.of b4) b5)
    ·cases e
   ·cases e
  ·cases e
 ·cases e
theorem yw9 {sc : Scope} {N : List Str} {src : List (Option Nat)} {tg elt iter : Expr} {mi : MLm} {i j : Nat} {me : MEm} (hsj : src[j]? = some (some i)) (hj : j ≠ 0) (B : Blk X sc N src) (hc : X.calm = true)
  (hi : PI X tg iter (TIm X.K mi)) (hg : ∀ C fp s H, PG (Y8 X sc C N fp s H) tg (V2 0)) (he : ∀ C fp s H, PDm (Y8 X sc C N fp s H) elt me)
  (hs : ∀ x, foldedSetIterable iter X.env x = pure x := by intro _; rfl) :
  PDm X (.ListComp elt [⟨tg, iter, [], 0⟩] sc pos) (P3 src mi i j me) := (zr7 (g := V2 0) (tc := tYes) (te := TDm X.K me) B hc hi hg (fun C fp s H => zz9) (fun C fp s H => he C fp s H) hs).imp fun _ _ _ h => yt1 hsj hj h
def zx8 (k j : Nat) (body : MS) : Nat -> List (List D) -> MS
 | _, [], ρ => some (.nx ρ)
 | n, ds :: dss, ρ => match body ((ρ.set k (some (.sh (.int n)))).set j (some (.own ds))) with
  | some (.nx ρ2) => zx8 k j body (n + 1) dss ρ2
  | some (.ct ρ2) => zx8 k j body (n + 1) dss ρ2
  | some (.bk ρ2) => some (.nx ρ2)
  | o => o
def yz6 (mi : MP) (k j : Nat) (body : MS) : MS := fun ρ => (mi ρ).bind fun dss => zx8 k j body 0 dss ρ
theorem yq5 {iter : Expr} {body : List Stmt} {mi : MP} {k j : Nat} {p0 cpos : Pos} {es : List Expr} {tk : Nat} {tp : Pos} {mb : MS} (hp : PassesOwn (model X.prog X.w) X.A X.env X.xe) (hc : X.calm = true) (hgl : Gl X "enumerate") (hmm : X.mg "enumerate" = none) (hi : PP X iter mi) (hg : PG X (.Tuple es tk tp) (gTup X.K 2 (yc7 (V2 k) (yc7 (V2 j) gNil)))) (hb : PSsd X body mb)
  (hs1 : starEach [iter] X.env = [(false, eval iter X.env)] := by rfl) (hs : ∀ v, foldedSetIterable (.Call (.Name "enumerate" p0) [iter] [] cpos) X.env v = pure v := by intro _; rfl) : PSd X (.For (.Tuple es tk tp) (.Call (.Name "enumerate" p0) [iter] [] cpos) body [] pos) (yz6 mi k j mb) := (yq6 hp hc (yp0 hgl hmm (f7 hi pa_nil (by rw [hs1]; rfl)) hs1) hg hb hs).imp fun Dn σ H hpat => by
 obtain ⟨F0, H0, F, ρ, o, rl, e, ok⟩ := hpat
 unfold yz6 at e
 cases h1 : mi ρ with
 | none => rw [h1] at e; cases e
 | some dss =>
  rw [h1] at e
  have e : zx8 k j mb 0 dss ρ = some o := e
  refine ⟨F0, H0, F, ρ, dss, rl, h1, fun p qs F1 H1 x1 pt => ?_⟩
  have pn := List.nodup_cons.mp pt.nd
  have h0p : H0 p = none := rl.ext.hh.free pt.hp
  have h0q : ∀ q ∈ qs, H0 q = none := fun q hq => rl.ext.hh.free (pt.new q hq).1
  have f0q : ∀ q ∈ qs, F0 q = none := fun q hq => (rl.ext.ff.trans x1.ff).free (pt.new q hq).2
  have sm : ∀ A : List Addr, (∀ b ∈ A, b = p \/ b ∈ qs) -> Same H0 (Hx H0 H1 A) := fun A hA b u e => by
   by_cases hb : b ∈ A
   ·rcases hA b hb with z | z
    ·rw [z, h0p] at e; cases e
    ·rw [h0q b z] at e; cases e
   ·rw [C2 hb]; exact e
  have sub : ∀ i, ∀ b ∈ p :: qs.drop i, b = p \/ b ∈ qs := fun i b hb => by
   rcases List.mem_cons.mp hb with z | z
   ·exact .inl z
   ·exact .inr (mem_of_mem_drop z)
  refine ⟨p, _, rfl, SqL.of pt.at', ?_⟩
  have rl1 := rl.go x1
  have rl0 : Rl X.K F0 (Hx H0 H1 (p :: qs.drop 0)) F1 H1 σ ρ := by
   have fr : ∀ b ∈ p :: qs.drop 0, H b = none /\ F1 b = none := fun b hb => by
    rcases sub 0 b hb with z | z
    ·rw [z]; exact ⟨pt.hp, pt.fp⟩
    ·exact pt.new b z
   have nin : ∀ b u, H b = some u -> b ∉ p :: qs.drop 0 := fun b u e hb => by rw [(fr b hb).1] at e; cases e
   refine ⟨⟨rl1.ext.ff, fun b u e => ?_, rl1.ext.fh, fun b e n => ?_, rl1.ext.nf⟩, rl1.len, rl1.sh, fun i ds h => ?_, rl1.inj, fun i w ds h => ?_, rl1.obn, rl1.ob1⟩
   ·by_cases hb : b ∈ p :: qs.drop 0
    ·rw [zb0 hb] at e; exact e
    ·rw [C2 hb] at e; exact rl1.ext.hh b u e
   ·have nb : b ∉ p :: qs.drop 0 := fun hb => n (fr b hb).2
    rw [C2 nb]; exact rl1.ext.new b e n
   ·obtain ⟨w, xs, a1, a2, a3, a4, a5⟩ := rl.own i ds h
    obtain ⟨w', xs', b1, b2, b3, b4, b5⟩ := rl1.own i ds h
    rw [a1] at b1; cases b1
    exact ⟨w, xs', a1, b2, b3, b4, by rw [C2 (nin _ _ a3)]; exact b5⟩
   ·obtain ⟨a1, a2, a3, xs, a4, a5⟩ := rl.ob i w ds h
    obtain ⟨b1, b2, b3, b4⟩ := rl1.ob i w ds h
    exact ⟨b1, b2, by rw [C2 (nin _ _ a4)]; exact b3, b4⟩
  have hn : qs.length = dss.length := pt.rep.length
  refine ⟨fun i m σ' H' => ∃ F' ρ', Rl X.K F0 (Hx H0 H1 (p :: qs.drop i)) F' H' σ' ρ' /\ Same F1 F' /\ i <= dss.length /\ m = dss.length - i /\ zx8 k j mb i (dss.drop i) ρ' = some o, ⟨_, F1, ρ, rl0, Same.refl _, Nat.zero_le _, rfl, e⟩, ?_⟩
  clear e rl0 rl1
  rintro i m σ' H' ⟨F', ρ', rl', sf, hi', rfl, e'⟩
  have hHp : H' p = some (.lst (qs.map V.ref)) := rl'.ext.hh p _ (by rw [zb0 mem_cons_self]; exact pt.at')
  by_cases hlt : i < dss.length
  ·right
   have hd := getElem?_eq_getElem hlt
   obtain ⟨q, xs, hq, hqH, hqr⟩ := pt.rep.get hd
   have hqm : q ∈ qs := mem_of_getElem? hq
   have hdq : qs.drop i = q :: qs.drop (i + 1) := W1 hq
   have hqH' : H' q = some (.lst xs) := rl'.ext.hh q _ (by rw [zb0 (by rw [hdq]; simp)]; exact hqH)
   have hqF' : F' q = none := by
    cases z : F' q with
    | none => rfl
    | some u =>
     have := rl'.ext.new q (f0q q hqm) (by rw [z]; simp)
     rw [zb0 (by rw [hdq]; simp), hqH] at this; cases this
   have hqx : (qs.map V.ref)[i]? = some (V.ref q) := by rw [getElem?_map, hq]; rfl
   refine ⟨⟨_, _, SqL.of hHp, hqx⟩, fun σ2 H2 => ∃ F2 ρ2, Rl X.K F0 (Hx H0 H1 (p :: qs.drop (i + 1))) F2 H2 σ2 ρ2 /\ Same F1 F2 /\ zx8 k j mb (i + 1) (dss.drop (i + 1)) ρ2 = some o, ?_, fun x H2 y => ?_⟩
   ·rintro σ2 H2 ⟨F2, ρ2, rl2, sf2, e2⟩
    exact ⟨dss.length - (i + 1), by omega, F2, ρ2, rl2, sf2, hlt, rfl, e2⟩
   ·obtain ⟨t, u, rfl, ht, rfl, y⟩ := y
    have yx := y _ (SqL.of hHp)
    rw [hqx] at yx; cases yx
    have ndi : (q :: qs.drop (i + 1)).Nodup := by rw [<- hdq]; exact pn.2.sublist (drop_sublist _ _)
    have nod : q ∉ p :: qs.drop (i + 1) := fun z => by
     rcases List.mem_cons.mp z with z | z
     ·exact pn.1 (z ▸ hqm)
     ·exact (List.nodup_cons.mp ndi).1 z
    have qin : q ∈ p :: qs.drop i := by rw [hdq]; simp
    have hxq : Hx H0 H1 (p :: qs.drop i) q = some (.lst xs) := by rw [zb0 qin]; exact hqH
    have sm2 : Same (Hx H0 H1 (p :: qs.drop (i + 1))) (Hx H0 H1 (p :: qs.drop i)) := fun b u e => by
     by_cases hb : b ∈ p :: qs.drop (i + 1)
     ·have hb2 : b ∈ p :: qs.drop i := by
       rw [hdq]
       rcases List.mem_cons.mp hb with z | z
       ·rw [z]; simp
       ·exact mem_cons_of_mem _ (mem_cons_of_mem _ z)
      rw [zb0 hb] at e; rw [zb0 hb2]; exact e
     ·rw [C2 hb] at e
      by_cases hb2 : b ∈ p :: qs.drop i
      ·rcases sub i b hb2 with z | z
       ·rw [z, h0p] at e; cases e
       ·rw [h0q b z] at e; cases e
      ·rw [C2 hb2]; exact e
    have rlk := (rl'.go (Ext.own (o := .tup [.int i, .ref q]) rl'.fh ht)).set (i := k) (d := .int i) (.int _)
    have hqt : q ≠ t := fun z => by rw [z, ht] at hqH'; cases hqH'
    have rl3 := (rlk.less sm2).setOwn (i := j) hqF' (by rw [x6 hqt]; exact hqH') (hqr.mono sf) (by rw [C2 nod]; exact h0q q hqm) (fun k es hk e1 e2 => by
     obtain ⟨w, zs, a1, a2, a3, a4, a5⟩ := rlk.own k es e1
     rw [a1] at e2; cases e2
     rw [hxq] at a5; cases a5) (fun k w es e1 z => by
     obtain ⟨a1, a2, a3, _⟩ := rlk.ob k w es e1
     rw [z, hxq] at a3; cases a3)
    rw [W1 hd] at e'
    unfold zx8 at e'
    refine ⟨t, _, rfl, SqT.of y8, rfl, _, _, rfl, _, _, rfl, rfl, ?_⟩
    cases h3 : mb ((ρ'.set k (some (.sh (.int i)))).set j (some (.own dss[i]))) with
    | none => simp only [h3] at e'; cases e'
    | some o1 =>
     simp only [h3] at e'
     refine ⟨F0, _, F', _, o1, rl3, h3, ?_⟩
     cases o1 with
     | nx ρ2 => exact fun F4 H4 σ4 rl4 s4 => ⟨F4, ρ2, rl4, sf.trans s4, e'⟩
     | ct ρ2 => exact fun F4 H4 σ4 rl4 s4 => ⟨F4, ρ2, rl4, sf.trans s4, e'⟩
     | bk ρ2 =>
      cases e'
      exact fun F4 H4 σ4 rl4 s4 => ok F4 H4 σ4 (rl4.less (sm _ (sub _))) ((x1.ff.trans sf).trans s4)
     | rt d => cases e'; exact okO.less (o := .rt d) (sm _ (sub _)) ok
     | rf d => cases e'; exact okO.less (o := .rf d) (sm _ (sub _)) ok
     | rp d ds => cases e'; exact okO.less (o := .rp d ds) (sm _ (sub _)) ok
     | rg d p r => cases e'; exact okO.less (o := .rg d p r) (sm _ (sub _)) ok
     | rgf d p r => cases e'; exact okO.less (o := .rgf d p r) (sm _ (sub _)) ok
  ·left
   have hieq : i = dss.length := by omega
   subst hieq
   rw [drop_length] at e'
   have e' : some (Out.nx ρ') = some o := e'
   cases e'
   refine ⟨⟨_, SqL.of hHp, by rw [length_map, hn]; exact Nat.le_refl _⟩, ?_⟩
   exact ok F' H' σ' (rl'.less (sm _ (sub _))) (x1.ff.trans sf)
def yz3 (i : Nat) : MW := fun ρ β => match ρ[i]? with | some (some (.own ds)) => some (.rf ds, β) | _ => none
theorem yg9 (i : Nat) {x : Str} {pos' : Pos} (h : PE X (.Name x pos') (tVar i)) : PSw X (.Return (some (.Name x pos')) pos) (yz3 i) := PS.imp (Q4 h) fun D σ H ⟨F0, H0, F, ρ, β, o, β', ⟨B, fp, rl, k⟩, e, ok⟩ => by
 unfold yz3 at e
 split at e
 ·rename_i ds h1
  cases e
  obtain ⟨p, xs, e1, e2, e3, e4, e5⟩ := rl.own i _ h1
  exact ⟨_, e1, ok p xs F H B fp rl.ext k e5 e2 e3 e4⟩
 ·cases e
end
end
end L2
set_option maxHeartbeats 4000000
namespace Lw
open List
open PySem L2
section
noncomputable section
abbrev tab_OTHER_KIND : List (Str × Str) := [("up", "down"), ("down", "up")]
def xo5 : MS := (mif (v3 (m2 ltD (mvar 0) (mc (.int 1)))) zt6 d7)
def zk9 : MF := runB 1 xo5
def yx6 : MS := (mseq (mapp 2 (mlst (V0 [none, some 1, some 5, some 0] (j8 rng2 (z8 (m2 addD (mvar 4) (mc (.int 1))) (z8 (mlen (bvar 0)) anil))) (.nm 0) (v3 (m2 geD (m2 subD (mix (bvar 3) (mvar 0)) (mvar 2)) (mvar 1))) (mvar 0)))) (mapp 3 (mlst (V0 [none, some 1, some 5, some 0] (j8 rng2 (z8 (m2 addD (mvar 4) (mc (.int 1))) (z8 (mlen (bvar 0)) anil))) (.nm 0) (v3 (m2 geD (m2 subD (mvar 2) (mix (bvar 3) (mvar 0))) (mvar 1))) (mvar 0)))))
def yx5 : MS := (Z0 3 (Z0 2 (mret (mtup (z8 (mvar 2) (z8 (mvar 3) anil))))))
def xo3 : MS := (mseq (Y6 2 (t3 anil)) (mseq (Y6 3 (t3 anil)) (mseq (mfor (j8 zd5 (z8 (mvar 0) anil)) (.tp [4, 5]) yx6) yx5)))
def ym1 : MF := runB 6 xo3
def b_Z6 : MS := (mseq (mset 1 (mlst (mcat (t3 (z8 (mtup (z8 (mc (.int 0)) (z8 (mc (.int 1)) anil))) anil)) (bvar 0)))) (mseq (mset 2 (yn1 (V0 [none, none] (v7 (mvar 1)) (.tp [0, 1]) cyes (mvar 0)))) (mret (mtup (z8 (m2 addD (mvar 2) (mc (.int 1))) (z8 (msum (V0 [none, none, some 2] (v7 (mvar 1)) (.tp [0, 1]) (v3 (m2 eqSD (mvar 0) (mvar 2))) (mvar 1))) anil))))))
def m_Z6 : MF := runB 3 b_Z6
def zc6 : MS := (mseq (a9 4 (mvar 6) (t7 m_Z6 (z8 (mlst (P4 [none, some 5] (v7 (mix (bvar 2) (mvar 6))) (.nm 0) cyes (mix (bvar 1) (mvar 0)))) anil))) (a9 5 (mvar 6) (t7 m_Z6 (z8 (mlst (P4 [none, some 4] (v7 (mix (bvar 3) (mvar 6))) (.nm 0) cyes (mix (bvar 1) (mvar 0)))) anil))))
def zc5 : MS := (Z0 4 (Z0 5 (mseq (mset 7 (zk5 (V0 [none, none] (v7 (m2 addD (mvar 4) (mvar 5))) (.tp [0, 1]) cyes (mvar 0)) (mc (.int 0)))) (mseq (mif (v3 (m2 ltD (mvar 7) (mc (.int 2)))) (mret (D1 yd4 (z8 (mc (.int 1)) (z8 (mlen (bvar 0)) anil)))) d7) (mret (msum (V0 [none, none, some 7] (v7 (m2 addD (mvar 4) (mvar 5))) (.tp [0, 1]) (v3 (m2 eqSD (mvar 0) (mvar 2))) (mvar 1))))))))
def b_Z0 : MS := (mseq (N5 (t7 zk9 (z8 (mvar 1) anil))) (mseq (masg (.tp [2, 3]) (t7 ym1 (z8 (mvar 0) (z8 (mvar 1) anil)))) (mseq (Y6 4 (mrep (t3 (z8 (mtup (z8 (mc (.int 0)) (z8 (mc (.int 0)) anil))) anil)) (mlen (bvar 0)))) (mseq (Y6 5 (mrep (t3 (z8 (mtup (z8 (mc (.int 0)) (z8 (mc (.int 0)) anil))) anil)) (mlen (bvar 0)))) (mseq (mfor (j8 rngD (z8 (mlen (bvar 0)) anil)) (.nm 6) zc6) zc5)))))
def m_Z0 : MF := runB 8 b_Z0
def b_Z9 : MS := (mif (v3 (m2 ltD (mvar 0) (mc (.int 0)))) zt6 d7)
def m_Z9 : MF := runB 1 b_Z9
def yi3 : MS := (N5 (t7 m_Z9 (z8 (mvar 2) anil)))
def b_Z5 : MS := (mseq (mif (v3 (m2 neSD (mlen (bvar 1)) (mlen (bvar 0)))) zt6 d7) (mfor (v7 (mvar 1)) (.nm 2) yi3))
def m_Z5 : MF := runB 3 b_Z5
def yi6 : MS := (mseq (masg (.tp [1, 2]) (mvar 0)) (mret (mtup (z8 (m1 negD (mvar 1)) (z8 (mlen (bvar 2)) (z8 (mvar 2) anil))))))
def yu2 : MF := runB 3 yi6
def b_Z3 : MS := (mret (yn0 (fun d => shOf (yu2 [d])) (mcat (t3 (z8 (mtup (z8 (mc (.int 0)) (z8 (mlst (t3 anil)) anil))) anil)) (bvar 0))))
def m_Z3 : MF := runB 1 b_Z3
def zp7 : MS := (mseq (masg (.tp [8, 9]) (t7 m_Z3 (z8 (mlst (P4 [none, some 6] (v7 (mix (bvar 3) (mvar 7))) (.nm 0) cyes (mix (bvar 1) (mvar 0)))) anil))) (mseq (a9 5 (mvar 7) (mtup (z8 (m2 addD (mix (bvar 2) (mvar 7)) (mvar 8)) (z8 (mlst (mcat (t3 (z8 (mvar 7) anil)) (bvar 9))) anil)))) (mseq (masg (.tp [8, 9]) (t7 m_Z3 (z8 (mlst (P4 [none, some 5] (v7 (mix (bvar 4) (mvar 7))) (.nm 0) cyes (mix (bvar 1) (mvar 0)))) anil))) (a9 6 (mvar 7) (mtup (z8 (m2 addD (mix (bvar 2) (mvar 7)) (mvar 8)) (z8 (mlst (mcat (t3 (z8 (mvar 7) anil)) (bvar 9))) anil)))))))
def yx4 : MS := (Z0 5 (Z0 6 (mret (mtup (z8 (mvar 5) (z8 (mvar 6) anil))))))
def yb6 : MS := (mseq (masg (.tp [3, 4]) (t7 ym1 (z8 (mvar 0) (z8 (mvar 1) anil)))) (mseq (Y6 5 (mrep (t3 (z8 (mtup (z8 (mc (.int 0)) (z8 (mlst (t3 anil)) anil))) anil)) (mlen (bvar 0)))) (mseq (Y6 6 (mrep (t3 (z8 (mtup (z8 (mc (.int 0)) (z8 (mlst (t3 anil)) anil))) anil)) (mlen (bvar 0)))) (mseq (mfor (j8 rngD (z8 (mlen (bvar 0)) anil)) (.nm 7) zp7) yx4))))
def xr9 : MF := runB 10 yb6
def xp9 : MS := (mseq (N5 (t7 zk9 (z8 (mvar 1) anil))) (mseq (N5 (t7 m_Z5 (z8 (mvar 0) (z8 (mvar 2) anil)))) (mseq (masg (.tp [3, 4]) (t7 xr9 (z8 (mvar 0) (z8 (mvar 1) (z8 (mvar 2) anil))))) (mret (t7 m_Z3 (z8 (m2 addD (mvar 3) (mvar 4)) anil))))))
def ze1 : MF := runB 5 xp9
def zp6 : MS := (mseq (mset 6 (m2 subD (mix (bvar 0) (mvar 5)) (mix (bvar 0) (mvar 4)))) (mseq (mif (cand (v3 (m2 geD (mvar 6) (mvar 1))) (v3 (m2 geD (mlen (v7 (mix (bvar 3) (mvar 5)))) (mlen (v7 (mix (bvar 2) (mvar 4))))))) (a9 2 (mvar 4) (mlst (mcat (t3 (z8 (mvar 4) anil)) (v7 (mix (bvar 3) (mvar 5)))))) d7) (mif (cand (v3 (m2 geD (m1 negD (mvar 6)) (mvar 1))) (v3 (m2 geD (mlen (v7 (mix (bvar 2) (mvar 5)))) (mlen (v7 (mix (bvar 3) (mvar 4))))))) (a9 3 (mvar 4) (mlst (mcat (t3 (z8 (mvar 4) anil)) (v7 (mix (bvar 2) (mvar 5)))))) d7)))
def zp5 : MS := (mfor (j8 rng2 (z8 (m2 addD (mvar 4) (mc (.int 1))) (z8 (mlen (bvar 0)) anil))) (.nm 5) zp6)
def yx2 : MS := (Z0 2 (Z0 3 (mret (mtup (z8 (mvar 2) (z8 (mvar 3) anil))))))
def yi4 : MS := (mseq (Y6 2 (V0 [none] (j8 rng1 (z8 (mlen (bvar 0)) anil)) (.nm 0) cyes (mlst (t3 (z8 (mvar 0) anil))))) (mseq (Y6 3 (V0 [none] (j8 rng1 (z8 (mlen (bvar 0)) anil)) (.nm 0) cyes (mlst (t3 (z8 (mvar 0) anil))))) (mseq (mfor (j8 rngD (z8 (mlen (bvar 0)) anil)) (.nm 4) zp5) yx2)))
def xr8 : MF := runB 7 yi4
def yi5 : MS := (mret (mtup (z8 (m1 negD (mlen (bvar 0))) (z8 (mvar 0) anil))))
def zj0 : MF := runB 1 yi5
def xp8 : MS := (mseq (N5 (t7 zk9 (z8 (mvar 1) anil))) (mseq (masg (.tp [2, 3]) (t7 xr8 (z8 (mvar 0) (z8 (mvar 1) anil)))) (mret (yv4 (fun d => shOf (zj0 [d])) (v7 (m2 addD (mvar 2) (mvar 3))) (mlst (t3 anil))))))
def yn9 : MF := runB 4 xp8
def xo0 : MS := (mret (mlen (v7 (t7 yn9 (z8 (mvar 0) (z8 (mvar 1) anil))))))
def J9 : MF := runB 2 xo0
def yx7 : MS := (mseq (mset 6 (m2 subD (mix (bvar 0) (mvar 5)) (mix (bvar 0) (mvar 4)))) (mseq (mif (v3 (m2 eqSD (mvar 2) (mc (.str "down")))) (mset 6 (m1 negD (mvar 6))) d7) (mseq (mif (v3 (m2 leD (mvar 6) (m1 negD (mvar 1)))) (yo7 5) d7) (mif (v3 (m2 gtD (mvar 6) (mc (.int 0)))) (mset 4 (mvar 5)) d7))))
def xo4 : MS := (mseq (mset 4 (mvar 3)) (mseq (mfor (j8 rng2 (z8 (mvar 3) (z8 (mlen (bvar 0)) anil))) (.nm 5) yx7) (mret (mlen (bvar 0)))))
def ze3 : MF := runB 7 xo4
def A7 : MS := (mseq (mapp 6 (mvar 7)) (mseq (mset 7 (t7 ze3 (z8 (mvar 0) (z8 (mvar 1) (z8 (mvar 5) (z8 (mvar 7) anil)))))) (mset 5 (m1 (tabD tab_OTHER_KIND) (mvar 5)))))
def yx3 : MS := (Z0 6 (mret (mtup (z8 (mvar 4) (z8 (mvar 6) anil)))))
def xo1 : MS := (mseq (N5 (t7 zk9 (z8 (mvar 1) anil))) (mseq (mset 2 (t7 ze3 (z8 (mvar 0) (z8 (mvar 1) (z8 (mc (.str "up")) (z8 (mc (.int 0)) anil)))))) (mseq (mset 3 (t7 ze3 (z8 (mvar 0) (z8 (mvar 1) (z8 (mc (.str "down")) (z8 (mc (.int 0)) anil)))))) (mseq (mset 4 (mite (v3 (m2 ltD (mvar 2) (mvar 3))) (mc (.str "down")) (mc (.str "up")))) (mseq (mset 5 (mvar 4)) (mseq (Y6 6 (t3 anil)) (mseq (mset 7 (D1 zf7 (z8 (mvar 2) (z8 (mvar 3) anil)))) (mseq (K2 (v3 (m2 ltD (mvar 7) (mlen (bvar 0)))) A7 1000) yx3))))))))
def ze2 : MF := runB 8 xo1
def X3 : MW := (i8 (wS (N5 (t7 zk9 (z8 (mvar 1) anil)))) (i8 (yn3 0 "Grown" "least_step" (wE (mvar 1))) (i8 (J8 0 "Grown" "numbers" (wE (t3 anil))) (i8 (J8 0 "Grown" "weights" (wE (t3 anil))) (J8 0 "Grown" "lengths" (wE (t3 anil)))))))
def k9 : MFW := runW 2 X3
def xo6 : MS := (mret (t7 ze2 (z8 (mfld "Grown" "numbers" (mvar 0)) (z8 (mfld "Grown" "least_step" (mvar 0)) anil))))
def ze4 : MF := runB 1 xo6
def xo9 : MS := (mseq (masg (.tp [1, 2]) (p5 "Grown" "pieces" ze4 (mvar 0) anil)) (mret (mite (mtru (mfld "Grown" "numbers" (mvar 0))) (m2 addD (mlen (bvar 2)) (mc (.int 1))) (mc (.int 0)))))
def E9 : MF := runB 3 xo9
def L8 : MW := (i8 (wS (N5 (t7 m_Z9 (z8 (mvar 2) anil)))) (i8 (M1 0 "Grown" "numbers" (wE (mvar 1))) (i8 (M1 0 "Grown" "weights" (wE (mvar 2))) (M1 0 "Grown" "lengths" (U8 (p5 "Grown" "length" E9 (mvar 0) anil))))))
def Y0 : MFW := runW 3 L8
def P8 : MW := (i8 (mifW (zp2 (cor (v3 (m2 ltD (mvar 1) (mc (.int 0)))) (v3 (m2 gtD (mvar 1) (mlen (v7 (mfld "Grown" "numbers" (mvar 0)))))))) (wS zt6) (wS d7)) (i8 (yo6 2 (U8 (m2 subD (mlen (v7 (mfld "Grown" "numbers" (mvar 0)))) (mvar 1)))) (i8 (J8 0 "Grown" "numbers" (yu3 (mcut (v7 (mfld "Grown" "numbers" (mvar 0))) g8 (i7 (mvar 2))))) (i8 (J8 0 "Grown" "weights" (yu3 (mcut (v7 (mfld "Grown" "weights" (mvar 0))) g8 (i7 (mvar 2))))) (M1 0 "Grown" "lengths" (U8 (p5 "Grown" "length" E9 (mvar 0) anil)))))))
def a0 : MFW := runW 3 P8
def xo7 : MS := (mseq (masg (.tp [1, 2]) (t7 ze1 (z8 (mfld "Grown" "numbers" (mvar 0)) (z8 (mfld "Grown" "least_step" (mvar 0)) (z8 (mfld "Grown" "weights" (mvar 0)) anil))))) (yo7 1))
def yd7 : MF := runB 3 xo7
def b_Z4 : MS := (mret (t7 m_Z0 (z8 (mfld "Grown" "numbers" (mvar 0)) (z8 (mfld "Grown" "least_step" (mvar 0)) anil))))
def m_Z4 : MF := runB 1 b_Z4
def xo2 : MS := (zf5 (v7 (mfld "Grown" "numbers" (mvar 0))))
def ym0 : MF := runB 1 xo2
def b_Z8 : MS := (zf5 (v7 (mfld "Grown" "lengths" (mvar 0))))
def m_Z8 : MF := runB 1 b_Z8
def yb5 : MS := (mseq (a9 0 (mc (.int 1)) (m2 addD (mix (bvar 0) (mc (.int 1))) (mc (.int 1)))) (mseq (mset 2 (mix (bvar 0) (mc (.int 0)))) (mseq (mif (v3 (m2 geD (mvar 2) (m2 powD (mc (.int 10)) (mc (.int 18))))) (mseq (a9 0 (mc (.int 0)) (m2 zu1 (mvar 2) (mvar 1))) (N4 0 (mpu (m2 modD (mvar 2) (mvar 1))))) d7) (mseq (mset 3 (m2 modD (m2 addD (m2 addD (m2 mulD (mvar 2) (mc (.int 69621))) (m2 mulD (mix (bvar 0) (mc (.int 1))) (mc (.int 7919)))) (mc (.int 13))) (mc (.int 2147483647)))) (mseq (mset 3 (m2 modD (m2 mulD (mvar 3) (mvar 3)) (mc (.int 2147483629)))) (N4 0 (mpu (m2 modD (m2 zu1 (m2 modD (m2 addD (m2 mulD (mvar 3) (mc (.int 48271))) (m2 mulD (mix (bvar 0) (mc (.int 1))) (mc (.int 40692)))) (mc (.int 2147483587))) (mc (.int 8))) (mvar 1)))))))))
def o0 : MG := runG 4 yb5
def O9 : MFP := runP 1 (v3 (m2 eqSD (mlen (bvar 0)) (mc (.int 0)))) (yn2 (t3 (z8 (mc (.int 0)) (z8 (mc (.int 0)) anil)))) (zt8 [none] (v7 (mlst (mcut (bvar 0) g8 (i7 (mc (.int 63)))))) (.nm 0) (t3 (z8 (mvar 0) (z8 (mc (.int 0)) anil))))
def b_Z1 : MS := (mseq (mif (v3 (m2 eqSD (mvar 1) (mc (.int 0)))) (N4 0 (w4 o0 0 (apu (z8 (mc (.int 4)) anil)))) d7) (mseq (mif (v3 (m2 eqSD (mvar 1) (mc (.int 1)))) (N4 0 (m2m subD (w4 o0 0 (apu (z8 (mc (.int 21)) anil))) (mpu (mc (.int 10))))) d7) (mseq (mif (v3 (m2 eqSD (mvar 1) (mc (.int 2)))) (N4 0 (m2m subD (w4 o0 0 (apu (z8 (mc (.int 1001)) anil))) (mpu (mc (.int 500))))) d7) (N4 0 (m2m mulD (m2m ixLD (mpu (mlst (t3 (z8 (m1 negD (mc (.int 1))) (z8 (mc (.int 1)) anil))))) (w4 o0 0 (apu (z8 (mc (.int 2)) anil)))) (m2m addD (mpu (m2 powD (mc (.int 10)) (mc (.int 29)))) (w4 o0 0 (apu (z8 (mc (.int 1000)) anil)))))))))
def m_Z1 : MG := runG 2 b_Z1
def xn0 : MS := (mseq (X9 2 (w4 o0 0 (apu (z8 (mc (.int 4)) anil)))) (mseq (X9 3 (w4 o0 0 (l0 (m2m ixLD (mpu (mlst (t3 (z8 (D1 zf7 (z8 (mc (.int 4)) (z8 (m2 addD (mvar 1) (mc (.int 1))) anil))) (z8 (D1 zf7 (z8 (mc (.int 9)) (z8 (m2 addD (mvar 1) (mc (.int 1))) anil))) (z8 (m2 addD (mvar 1) (mc (.int 1))) anil)))))) (w4 o0 0 (apu (z8 (mc (.int 3)) anil)))) (apu anil)))) (mseq (X9 4 (U7 [none, some 0, some 2] (j8 rng1 (z8 (mvar 3) anil)) 0 1 (w4 m_Z1 1 (apu (z8 (mvar 2) anil))))) (mseq (X9 5 (w4 o0 0 (apu (z8 (mc (.int 6)) anil)))) (mseq (mif (v3 (m2 eqSD (mvar 5) (mc (.int 0)))) (mset 4 (mlst (zq4 (bvar 4)))) d7) (mseq (mif (v3 (m2 eqSD (mvar 5) (mc (.int 1)))) (mset 4 (mlst (V0 [none, none] (j8 zd5 (z8 (mvar 4) anil)) (.tp [0, 1]) cyes (m2 addD (mvar 1) (mix (t3 (z8 (mc (.int 7)) (z8 (m1 negD (mc (.int 7))) anil))) (m2 modD (mvar 0) (mc (.int 2)))))))) d7) (mseq (mif (v3 (m2 eqSD (mvar 5) (mc (.int 2)))) (mset 4 (mlst (mrep (mcut (bvar 4) g8 (i7 (mc (.int 1)))) (mvar 3)))) d7) (N4 0 (mpu (mvar 4))))))))))
def yu1 : MG := runG 6 xn0
def b_Z7 : MS := (N4 0 (m2m ixLD (zv9 (l0 (mpu (mc (.int 1))) (l0 (mpu (mc (.int 1))) (l0 (m2m addD (mpu (mc (.int 1))) (w4 o0 0 (apu (z8 (mc (.int 4)) anil)))) (l0 (m2m addD (mpu (mc (.int 1))) (w4 o0 0 (apu (z8 (mc (.int 40)) anil)))) (apu (z8 (m2 powD (mc (.int 10)) (mc (.int 29))) anil))))))) (w4 o0 0 (apu (z8 (mc (.int 5)) anil)))))
def m_Z7 : MG := runG 1 b_Z7
def b_Z2 : MS := (N4 0 (m2m ixLD (zv9 (l0 (mpu (mc (.int 0))) (l0 (mpu (mc (.int 1))) (l0 (w4 o0 0 (apu (z8 (mc (.int 10)) anil))) (l0 (w4 o0 0 (apu (z8 (mc (.int 1000)) anil))) (l0 (m2m addD (mpu (m2 powD (mc (.int 10)) (mc (.int 29)))) (w4 o0 0 (apu (z8 (mc (.int 1000)) anil)))) (apu anil))))))) (w4 o0 0 (apu (z8 (mc (.int 5)) anil)))))
def m_Z2 : MG := runG 1 b_Z2
def xo8 : MS := (mseq (mif (cor (v3 (meqB true (v7 (p5 "Grown" "row" ym0 (mvar 0) anil)) (bvar 1))) (cor (v3 (m2 (eqFD true) (p5 "Grown" "length" E9 (mvar 0) anil) (t7 J9 (z8 (mvar 1) (z8 (mvar 3) anil))))) (v3 (m2 (eqFD true) (p5 "Grown" "pieces" ze4 (mvar 0) anil) (t7 ze2 (z8 (mvar 1) (z8 (mvar 3) anil))))))) (mret (mc (.bl false))) d7) (mseq (mif (v3 (m2 (eqFD true) (p5 "Grown" "how_many" m_Z4 (mvar 0) anil) (t7 m_Z0 (z8 (mvar 1) (z8 (mvar 3) anil))))) (mret (mc (.bl false))) d7) (mret (m2 (eqFD false) (p5 "Grown" "weight" yd7 (mvar 0) anil) (m2 ixTD (t7 ze1 (z8 (mvar 1) (z8 (mvar 3) (z8 (mvar 2) anil)))) (mc (.int 0)))))))
def zp1 : MF := runB 4 xo8
def c7 : MW := (i8 (M2 (N9 0 "Grown" "put" Y0 (z8 (mix (bvar 1) (mvar 5)) (z8 (mix (bvar 2) (mvar 5)) anil)))) (i8 (yn8 4 (U8 (mix (v7 (p5 "Grown" "moments" m_Z8 (mvar 0) anil)) (m1 negD (mc (.int 1)))))) (mifW (wE (cor (v3 (m2 ltD (mlen (bvar 1)) (mc (.int 81)))) (v3 (m2 eqSD (mvar 5) (m2 subD (mlen (bvar 1)) (mc (.int 1))))))) (wS (a9 4 (m1 negD (mc (.int 1))) (t7 J9 (z8 (mlst (mcut (bvar 1) g8 (i7 (m2 addD (mvar 5) (mc (.int 1)))))) (z8 (mvar 3) anil))))) (wS d7))))
def Q0 : MW := (yz3 4)
def W2 : MW := (i8 (wS (Y6 4 (t3 anil))) (i8 (yv6 (j8 rng1 (z8 (mlen (bvar 1)) anil)) (.nm 5) c7) Q0))
def Z1 : MFW := runW 6 W2
def j7 : MW := (i8 (M2 (N9 4 "Grown" "put" Y0 (z8 (mix (bvar 8) (mvar 10)) (z8 (mix (bvar 9) (mvar 10)) anil)))) (wS (mapp 5 (t7 J9 (z8 (mlst (mcat (mcut (bvar 1) g8 (i7 (mvar 7))) (mcut (bvar 8) g8 (i7 (m2 addD (mvar 10) (mc (.int 1))))))) (z8 (mvar 2) anil))))))
def U6 : MW := (i8 (wS (mset 11 (mlst (mcat (mcut (bvar 1) g8 (i7 (mvar 7))) (bvar 8))))) (i8 (mifW (zp2 (cor (cnot (mtru (t7 zp1 (z8 (mvar 4) (z8 (mvar 11) (z8 (mlst (mcat (mcut (bvar 3) g8 (i7 (mvar 7))) (bvar 9))) (z8 (mvar 2) anil))))))) (v3 (meqB true (v7 (p5 "Grown" "moments" m_Z8 (mvar 4) anil)) (bvar 5))))) (J7 0 (wE (mc (.bl false)))) (wS d7)) (i8 (M2 (N9 4 "Grown" "take" a0 (z8 (mlen (bvar 8)) anil))) (i8 (wS (mapp 5 (t7 J9 (z8 (mlst (mcut (bvar 1) g8 (i7 (mvar 7)))) (z8 (mvar 2) anil))))) (zq8 5 (J7 0 (U8 (mand (t7 zp1 (z8 (mvar 4) (z8 (mlst (mcut (bvar 1) g8 (i7 (mvar 7)))) (z8 (mlst (mcut (bvar 3) g8 (i7 (mvar 7)))) (z8 (mvar 2) anil))))) (meqB false (v7 (p5 "Grown" "moments" m_Z8 (mvar 4) anil)) (bvar 5))))))))))
def Z3 : MW := (i8 (yo5 5 (zk8 Z1 (z8 (mvar 4) (z8 (mvar 1) (z8 (mvar 3) (z8 (mvar 2) anil)))))) (i8 (mifW (zp2 (cor (cnot (mtru (t7 zp1 (z8 (mvar 4) (z8 (mvar 1) (z8 (mvar 3) (z8 (mvar 2) anil))))))) (v3 (meqB true (v7 (p5 "Grown" "moments" m_Z8 (mvar 4) anil)) (bvar 5))))) (J7 0 (wE (mc (.bl false)))) (wS d7)) (i8 (wS (X9 6 (w4 o0 0 (apu (z8 (m2 addD (mlen (bvar 1)) (mc (.int 1))) anil))))) (i8 (wS (mset 7 (m2 subD (mlen (bvar 1)) (mvar 6)))) (i8 (M2 (N9 4 "Grown" "take" a0 (z8 (mvar 6) anil))) (i8 (wS (Y6 5 (mcat (bvar 5) (t3 (z8 (t7 J9 (z8 (mlst (mcut (bvar 1) g8 (i7 (mvar 7)))) (z8 (mvar 2) anil))) anil))))) (i8 (mifW (zp2 (cor (cnot (mtru (t7 zp1 (z8 (mvar 4) (z8 (mlst (mcut (bvar 1) g8 (i7 (mvar 7)))) (z8 (mlst (mcut (bvar 3) g8 (i7 (mvar 7)))) (z8 (mvar 2) anil))))))) (v3 (meqB true (v7 (p5 "Grown" "moments" m_Z8 (mvar 4) anil)) (bvar 5))))) (J7 0 (wE (mc (.bl false)))) (wS d7)) (i8 (wS (X9 8 (w4 yu1 0 (apu (z8 (mc (.int 12)) anil))))) (i8 (wS (X9 9 (U7 [none, some 0] (v7 (mvar 8)) 0 1 (w4 m_Z2 1 (apu anil))))) (i8 (yv6 (j8 rng1 (z8 (mlen (bvar 8)) anil)) (.nm 10) j7) U6))))))))))
def Z4 : MW := (i8 (wS (X9 3 (U7 [none, some 0] (v7 (mvar 1)) 0 1 (w4 m_Z2 1 (apu anil))))) (yo9 4 "Grown" k9 (z8 (mvar 2) anil) Z3))
def i9 : MG := yg3 12 Z4
def A6 : MS := (mseq (X9 3 (w4 yu1 2 (apu (z8 (mc (.int 40)) anil)))) (mseq (X9 4 (w4 m_Z7 2 (apu anil))) (mseq (mifm (zc2 (cpu (v3 (m2 eqSD (mvar 1) (mc (.int 0))))) (P2 (m2m eqSD (w4 o0 2 (apu (z8 (mc (.int 8)) anil))) (mpu (mc (.int 0)))))) (mseq (X9 5 (P3 [none, some 2] (R6 rng1 (l0 (m2m addD (mpu (mc (.int 1))) (w4 o0 2 (apu (z8 (mc (.int 12)) anil)))) (apu anil))) 2 1 (m2m subD (w4 o0 1 (apu (z8 (mc (.int 41)) anil))) (mpu (mc (.int 20)))))) (X9 3 (D3 [none, some 5] (R6 rng1 (l0 (m2m ixLD (zv9 (l0 (m2m addD (mpu (mc (.int 40))) (w4 o0 2 (apu (z8 (mc (.int 41)) anil)))) (apu (z8 (mc (.int 200)) anil)))) (w4 o0 2 (apu (z8 (mc (.int 2)) anil)))) (apu anil))) (.nm 0) cyes (m2 addD (mix (bvar 1) (m2 modD (mvar 0) (mlen (bvar 1)))) (m2 zu1 (mvar 0) (mc (.int 9))))))) d7) (mifm (yb2 (P2 (w4 i9 2 (apu (z8 (mvar 3) (z8 (mvar 4) anil)))))) (mret (mc (.bl false))) d7))))
def xp7 : MS := (mseq (yz6 (yz9 O9 (z8 (mlst (mcut (bvar 0) g8 (i7 (mc (.int 2))))) anil)) 1 2 A6) (mret (mc (.bl true))))
def ze0 : MF := runB 6 xp7
end
end
section
theorem xd8 (i j : Int) : eqS (.int i) (.int j) = some (i == j) := rfl
theorem xc0 (i j : Bool) : eqS (.bl i) (.bl j) = some (i == j) := rfl
theorem xd3 (i j : Str) : eqS (.str i) (.str j) = some (i == j) := rfl
theorem xd4 : eqS .non .non = some true := rfl
theorem xd6 (j : Bool) : eqS .non (.bl j) = some false := rfl
theorem xd9 (j : Bool) : eqS (.bl j) .non = some false := rfl
theorem xd5 (j : Int) : eqS .non (.int j) = some false := rfl
theorem xd7 (j : Int) : eqS (.int j) .non = some false := rfl
local macro_rules | `(tactic| simp_arith [$ls,*]) => `(tactic| simp (config := {decide := true, implicitDefEqProofs := false}) only [runB, u5, map_cons, map_nil, length_cons, length_nil, List.replicate, cons_append, nil_append, mvar, bvar, mc, mlst, v7, m2, v3, subD, mulD, zu1, modD, powD, ltD, leD, gtD, geD, eqSD, neSD, xd8, xc0, xd3, xd4, xd6, xd9, xd5, xd7, m1, negD, mand, mtru, truD, cand, cor, cnot, mite, anil, z8, t3, mtup, mlen, mix, g8, i7, mcut, mcat, addD, D1, yd4, zf7, two2, intF, d7, mseq, mif, zt6, mset, Y6, N5, mret, zf5, yo7, mapp, a9, Z0, masg, wx3, j8, zd5, cyes, t7, meqB, int2, bl2, tgD, zz4, Option.bind_some, Option.map_some, Option.bind_none, Option.map_none, getElem?_cons_zero, getElem?_cons_succ, set_cons_zero, set_cons_succ, isEmpty_cons, isEmpty_nil, Bool.not_true, Bool.not_false, $ls,*])
def stir (c k : Int) : Int := if 10 ^ 18 <= c then (c - 10 ^ 18) / 2 ^ (28 * k).toNat % 2 ^ 28 else
 (((c + 1013 * k + 1) * 16807 % 2147483647) * ((c + 1013 * k + 1) * 16807 % 2147483647) % 2147483629) * 39373 % 2147483587 / 8
theorem zq3 (i j : Int) (h1 : -(2 ^ 64) < j) (h2 : j < 2 ^ 64) : E8 i j = true := by
 unfold E8; simp only [h1, h2, decide_true, Bool.and_self, Bool.or_true]
theorem yo3 (i j : Int) (h1 : -(2 ^ 64) < i) (h2 : i < 2 ^ 64) : E8 i j = true := by
 unfold E8; simp only [h1, h2, decide_true, Bool.and_self, Bool.true_or]
theorem S9 (i j : Int) (h : 0 < j) : zk4 i j = true := by unfold zk4; simp only [h, decide_true]
theorem seqI {x y : MS} {ρ ρ' : Ro} {o : Option Out} (h : x ρ = some (.nx ρ')) (h2 : y ρ' = o) : mseq x y ρ = o := by
 unfold mseq; rw [h]; exact h2
def xx9 {α : Type} (I : List α -> Ro -> Prop) (Q : Out -> Prop) (ds : List α) : Out -> Prop
 | .nx ρ => I ds ρ | .ct ρ => I ds ρ | .bk ρ => Q (.nx ρ) | .rt d => Q (.rt d) | .rf es => Q (.rf es) | .rp d es => Q (.rp d es) | .rg d p r => Q (.rg d p r) | .rgf d p r => Q (.rgf d p r)
theorem zx9 {α : Type} {g : Tg} {body : MS} {f : α -> D} (I : List α -> Ro -> Prop) (Q : Out -> Prop)
  (hs : ∀ d ds ρ, I (d :: ds) ρ -> ∃ ρ1 o, tgD g (f d) ρ = some ρ1 /\ body ρ1 = some o /\ xx9 I Q ds o) (hd : ∀ ρ, I [] ρ -> Q (.nx ρ)) :
  ∀ (ds : List α) (ρ : Ro), I ds ρ -> ∃ o, forD g body (ds.map f) ρ = some o /\ Q o
 | [], ρ, h => ⟨.nx ρ, rfl, hd ρ h⟩
 | d :: ds, ρ, h => by
  obtain ⟨ρ1, o, h1, h2, h3⟩ := hs d ds ρ h
  rw [map_cons]
  unfold forD
  rw [h1]
  simp only [h2]
  cases o with
  | nx ρ2 => exact zx9 I Q hs hd ds ρ2 h3
  | ct ρ2 => exact zx9 I Q hs hd ds ρ2 h3
  | bk ρ2 => exact ⟨_, rfl, h3⟩
  | rt d => exact ⟨_, rfl, h3⟩
  | rf d => exact ⟨_, rfl, h3⟩
  | rp d es => exact ⟨_, rfl, h3⟩
  | rg d p r => exact ⟨_, rfl, h3⟩
  | rgf d p r => exact ⟨_, rfl, h3⟩
theorem V3 {α : Type} {g : Tg} {c : MB} {elt : ME} {f : α -> D} {G : α -> D} (I : List α -> Ro -> Prop)
  (hs : ∀ d ds ρ, I (d :: ds) ρ -> ∃ ρ1, tgD g (f d) ρ = some ρ1 /\ c ρ1 = some true /\ elt ρ1 = some (G d) /\ I ds ρ1) :
  ∀ (ds : List α) (ρ : Ro) (acc : List D), I ds ρ -> acc.length + ds.length <= sizeLine -> V4 g c elt (ds.map f) ρ acc = some (acc ++ ds.map G)
 | [], ρ, acc, h, hl => by simp [V4]
 | d :: ds, ρ, acc, h, hl => by
  obtain ⟨ρ1, h1, h2, h3, h4⟩ := hs d ds ρ h
  rw [map_cons]
  unfold V4
  rw [h1]
  simp only [h2, h3]
  rw [length_cons] at hl
  rw [if_pos (by omega), V3 I hs ds ρ1 _ h4 (by simp; omega)]
  simp
def cutI {α : Type} (xs : List α) (lo hi : Option Int) : List α := (xs.drop (HT.sIx xs.length 0 lo)).take (HT.sIx xs.length xs.length hi - HT.sIx xs.length 0 lo)
theorem G5 {α : Type} (f : α -> D) (xs : List α) (lo hi : Option Int) : cutL (xs.map f) lo hi = (cutI xs lo hi).map f := by
 unfold cutL cutI; rw [length_map, <- map_drop, <- map_take]
theorem zd9 {α : Type} (xs : List α) (k : Nat) : cutI xs none (some (k : Int)) = xs.take k := by
 unfold cutI
 rw [HT.sIx_nat, HT.sIx_none]
 simp
theorem zp9 {α : Type} (f : α -> D) (xs : List α) (k : Int) (h0 : 0 <= k) (h1 : k < xs.length) (dflt : α) : atI (xs.map f) k = some (f (xs.getD k.toNat dflt)) := by
 unfold atI ixN
 rw [length_map, if_pos h0, if_pos h1]
 have hl : k.toNat < xs.length := by omega
 simp [getElem?_map, hl]
theorem atI_last {α : Type} (f : α -> D) (xs : List α) (x : α) : atI ((xs ++ [x]).map f) (-1) = some (f x) := by
 unfold atI ixN
 rw [length_map, if_neg (by decide), if_pos (by simp; omega)]
 have e : (-1 + ((xs ++ [x]).length : Int)).toNat = xs.length := by simp; omega
 rw [e]
 simp
theorem c8 {n : Nat} {m : MS} {ds : List D} {d : D} (h : m (u5 n ds) = some (.rt d)) : runB n m ds = some (.sh d) := by unfold runB; rw [h]
theorem yr5 {n : Nat} {m : MS} {ds : List D} {d : List D} (h : m (u5 n ds) = some (.rf d)) : runB n m ds = some (.fr d) := by unfold runB; rw [h]
theorem xv7 {n : Nat} {m : MS} {ds : List D} {ρ : Ro} (h : m (u5 n ds) = some (.nx ρ)) : runB n m ds = some (.sh .non) := by unfold runB; rw [h]
def after (rest : MS) : Out -> Option Out
 | .nx ρ => rest ρ | .bk ρ => some (.bk ρ) | .ct ρ => some (.ct ρ) | .rt d => some (.rt d) | .rf d => some (.rf d) | .rp d es => some (.rp d es) | .rg d p r => some (.rg d p r) | .rgf d p r => some (.rgf d p r)
theorem f9 {x y : MS} {ρ : Ro} {o : Out} (h : x ρ = some o) : mseq x y ρ = after y o := by
 unfold mseq; rw [h]; cases o <;> rfl
theorem xy1 (i j : Int) : (if j < i then j else i) = min i j := by omega
theorem u7 : 1000000 <= sizeLine := by rw [show sizeLine = 2 ^ 24 from rfl]; decide
theorem u0 {n : Nat} (h : n <= 1000000) : n <= sizeLine := Nat.le_trans h u7
theorem zt0 (j n : Nat) (h : j < n) : List.range' j (n - j) = j :: List.range' (j + 1) (n - (j + 1)) := by
 have : n - j = (n - (j + 1)) + 1 := by omega
 rw [this, range'_succ]
theorem zk3 {x n : Int} (hn : 0 < n) : 0 <= x % n /\ x % n < n := ⟨Int.emod_nonneg _ (by omega), Int.emod_lt_of_pos _ hn⟩
def Run (m : MS) (ρ : Ro) (R : Out -> Prop) : Prop := ∃ o, m ρ = some o /\ R o
def xb0 (rest : MS) (R : Out -> Prop) : Out -> Prop
 | .nx ρ => Run rest ρ R | .bk ρ => R (.bk ρ) | .ct ρ => R (.ct ρ) | .rt d => R (.rt d) | .rf d => R (.rf d) | .rp d es => R (.rp d es) | .rg d p r => R (.rg d p r) | .rgf d p r => R (.rgf d p r)
theorem u6 {x y : MS} {ρ ρ' : Ro} {R : Out -> Prop} (h : x ρ = some (.nx ρ')) (h2 : Run y ρ' R) : Run (mseq x y) ρ R := by
 obtain ⟨o, e, r⟩ := h2
 exact ⟨o, seqI h e, r⟩
theorem U0 {x y : MS} {ρ : Ro} {R : Out -> Prop} (h : Run x ρ (xb0 y R)) : Run (mseq x y) ρ R := by
 obtain ⟨o, e, r⟩ := h
 cases o with
 | nx ρ' => exact u6 e r
 | bk ρ' => exact ⟨_, f9 e, r⟩
 | ct ρ' => exact ⟨_, f9 e, r⟩
 | rt d => exact ⟨_, f9 e, r⟩
 | rf d => exact ⟨_, f9 e, r⟩
 | rp d es => exact ⟨_, f9 e, r⟩
 | rg d p' r' => exact ⟨_, f9 e, r⟩
 | rgf d p' r' => exact ⟨_, f9 e, r⟩
theorem yr3 {α : Type} {mi : ML} {g : Tg} {body : MS} {ρ : Ro} {f : α -> D} (ds : List α) (hi : mi ρ = some (ds.map f)) (I : List α -> Ro -> Prop) (Q : Out -> Prop) (h0 : I ds ρ)
  (hs : ∀ d ds ρ, I (d :: ds) ρ -> ∃ ρ1, tgD g (f d) ρ = some ρ1 /\ Run body ρ1 (xx9 I Q ds)) (hd : ∀ ρ, I [] ρ -> Q (.nx ρ)) : Run (mfor mi g body) ρ Q := by
 obtain ⟨o, e, q⟩ := zx9 (g := g) (body := body) I Q (fun d ds ρ h => by obtain ⟨ρ1, a, o, b, c⟩ := hs d ds ρ h; exact ⟨ρ1, o, a, b, c⟩) hd ds ρ h0
 exact ⟨o, by unfold mfor; rw [hi]; exact e, q⟩
theorem O4 {mi : ML} {g : Tg} {body : MS} {ρ : Ro} {f : Nat -> D} (n : Nat) (hi : mi ρ = some ((List.range n).map f)) (I : Nat -> Ro -> Prop) (Q : Out -> Prop) (h0 : I 0 ρ)
  (hs : ∀ j ρ, j < n -> I j ρ -> ∃ ρ1, tgD g (f j) ρ = some ρ1 /\ Run body ρ1 (xx9 (fun (_ : List Unit) ρ => I (j + 1) ρ) Q [])) (hd : ∀ ρ, I n ρ -> Q (.nx ρ)) : Run (mfor mi g body) ρ Q := by
 refine yr3 (List.range n) hi (I := fun ks ρ => ∃ j, j <= n /\ ks = List.range' j (n - j) /\ I j ρ) (Q := Q) ⟨0, by omega, by rw [range_eq_range']; rfl, h0⟩ ?_ ?_
 ·rintro d ds ρ ⟨j, hj, e, h⟩
  have hlt : j < n := by
   rcases Nat.lt_or_ge j n with z | z
   ·exact z
   ·rw [show n - j = 0 by omega] at e; cases e
  rw [zt0 j n hlt] at e
  obtain ⟨e1, e2⟩ := List.cons.inj e
  subst e1
  obtain ⟨ρ1, a1, o, a2, a3⟩ := hs d ρ hlt h
  refine ⟨ρ1, a1, o, a2, ?_⟩
  cases o with
  | nx r => exact ⟨d + 1, by omega, e2, a3⟩
  | ct r => exact ⟨d + 1, by omega, e2, a3⟩
  | bk r => exact a3
  | rt r => exact a3
  | rf r => exact a3
  | rp r r2 => exact a3
  | rg r r2 r3 => exact a3
  | rgf r r2 r3 => exact a3
 ·rintro ρ ⟨j, hj, e, h⟩
  have : n - j = 0 := by
   rcases Nat.eq_zero_or_pos (n - j) with z | z
   ·exact z
   ·rw [zt0 j n (by omega)] at e; cases e
  have : j = n := by omega
  subst this
  exact hd ρ h
theorem g6 {i : Nat} {m : MS} {ρ : Ro} {ds : List D} {R : Out -> Prop} (h : ρ[i]? = some (some (.own ds))) (h2 : Run m (ρ.set i (some (.sh (.lst ds)))) R) : Run (Z0 i m) ρ R := by
 obtain ⟨o, e, r⟩ := h2
 exact ⟨o, by unfold Z0; rw [h]; exact e, r⟩
theorem ya7 {c : MB} {x y : MS} {ρ : Ro} {R : Out -> Prop} {b : Bool} (h : c ρ = some b) (h2 : Run (if b then x else y) ρ R) : Run (mif c x y) ρ R := by
 obtain ⟨o, e, r⟩ := h2
 refine ⟨o, ?_, r⟩
 unfold mif; rw [h]
 cases b <;> exact e
theorem yg1 {ρ : Ro} {R : Out -> Prop} (h : R (.nx ρ)) : Run d7 ρ R := ⟨_, rfl, h⟩
theorem yo2 {x : Int} (h : 0 <= x) : ∃ n : Nat, x = n := ⟨x.toNat, by omega⟩
theorem xr7 {x y : ME} {ρ : Ro} {a b : Bool} (h1 : x ρ = some (.bl a)) (h2 : y ρ = some (.bl b)) : mand x y ρ = some (.bl (a && b)) := by
 unfold mand; rw [h1]; cases a <;> simp [h2]
theorem T1 (lo : Int) (n : Nat) : T2 lo n = (List.range n).map fun (i : Nat) => D.int (lo + (i : Int)) := rfl
theorem zz7 (n : Nat) : T2 0 n = ((List.range n).map fun (i : Nat) => (i : Int)).map .int := by
 rw [T1, map_map]
 apply map_congr_left
 intro i _
 simp
theorem T6 {j : Int} (h1 : -(2 ^ 62) <= j) (h2 : j < 2 ^ 62) : okR j = true := by unfold okR; simp only [h1, h2, decide_true, Bool.and_self]
theorem zr2 {j : Int} (h : okR j = true) : rng1 [.int j] = some (T2 0 j.toNat) := by
 unfold rng1
 simp only [h, if_true]
theorem zg3 {i j : Int} (h : okR i = true) (h2 : okR j = true) : rng2 [.int i, .int j] = some (T2 i (j - i).toNat) := by
 unfold rng2
 simp only [h, h2, Bool.and_self, if_true]
theorem zw0 (i j : Int) (h : 0 < j) (h2 : j < 1073741824) : zs2 i j = true := by unfold zs2; simp only [h, h2, decide_true, Bool.and_self]
theorem zw1 : ∀ (row : List Int) (k : Nat), zw2 k (row.map .int) = (List.range row.length).map fun (i : Nat) => D.tup [.int ((k + i : Nat) : Int), .int (row.getD i 0)]
 | [], k => rfl
 | x :: row, k => by
  rw [map_cons, zw2, zw1 row (k + 1), length_cons, range_succ_eq_map, map_cons, map_map]
  congr 1
  apply map_congr_left
  intro i _
  simp only [Function.comp, Nat.succ_eq_add_one, getD_cons_succ]
  rw [show k + 1 + i = k + (i + 1) by omega]
theorem yy9 {α : Type} (xs : List α) (lo hi : Option Int) : (cutI xs lo hi).length <= xs.length := by
 unfold cutI; rw [length_take, length_drop]; omega
theorem zb1 (n : Nat) : ∀ xs : List Int, zipE (eqF (n + 1)) (xs.map .int) (xs.map .int) = some true
 | [] => rfl
 | x :: xs => by
  rw [map_cons, zipE, zb1 n xs]
  show (some (x == x)).bind _ = _
  rw [beq_self_eq_true]; rfl
theorem xy7 (n : Nat) (xs : List Int) : eqF (n + 2) (.lst (xs.map .int)) (.lst (xs.map .int)) = some true := by
 show (if _ = _ then zipE (eqF (n + 1)) (xs.map .int) (xs.map .int) else some false) = _
 rw [if_pos rfl, zb1]
theorem K4 {n : Nat} {m : MS} {ds : List D} {d : D} (h : Run m (u5 n ds) (fun o => o = .rt d)) : runB n m ds = some (.sh d) := by
 obtain ⟨o, e, rfl⟩ := h
 exact c8 e
theorem v6 {f : MF} {m : ML} {ρ : Ro} {ds : List D} {d : D} (h : m ρ = some ds) (h2 : f ds = some (.sh d)) : t7 f m ρ = some d := by
 unfold t7; rw [h]; show (match f ds with | some (.sh d) => some d | some (.fr es) => some (D.lst es) | some (.pr d es) => some (.tup [d, .lst es]) | none => none) = _; rw [h2]
theorem z7 {x : ME} {r : ML} {ρ : Ro} {d : D} {ds : List D} (h : x ρ = some d) (h2 : r ρ = some ds) : z8 x r ρ = some (d :: ds) := by
 unfold z8; rw [h, h2]; rfl
theorem y6 {ρ : Ro} : anil ρ = some [] := rfl
theorem P9 (row : List Int) (i : Nat) (h : i < row.length) : atI (row.map D.int) (i : Int) = some (.int (row.getD i 0)) := by
 have := zp9 D.int row (i : Int) (by omega) (by omega) 0
 rw [Int.toNat_natCast] at this
 exact this
theorem zw3 (row : List Int) (i : Nat) (h : i < row.length) : row.drop i = row.getD i 0 :: row.drop (i + 1) := by
 rw [drop_eq_getElem_cons h]
 simp [h]
theorem yd1 {m : ML} {ρ : Ro} {x : Int} {r : List Int} (h : m ρ = some ((x :: r).map .int)) : yn1 m ρ = some (.int (maxI (x :: r))) := by
 unfold yn1; rw [h]; simp only [G2]
theorem ya3 {x y : ME} {ρ : Ro} {i j : Int} (h1 : x ρ = some (.int i)) (h2 : y ρ = some (.int j)) : v3 (m2 ltD x y) ρ = some (decide (i < j)) := by
 unfold v3 m2; rw [h1, h2]; rfl
theorem U5 {α : Type} {g : Tg} {c : MB} {elt : ME} {f : α -> D} {p : α -> Bool} {G : α -> D} (I : List α -> Ro -> Prop)
  (hs : ∀ d ds ρ, I (d :: ds) ρ -> ∃ ρ1, tgD g (f d) ρ = some ρ1 /\ c ρ1 = some (p d) /\ (p d = true -> elt ρ1 = some (G d)) /\ I ds ρ1) :
  ∀ (ds : List α) (ρ : Ro) (acc : List D), I ds ρ -> acc.length + ds.length <= sizeLine -> V4 g c elt (ds.map f) ρ acc = some (acc ++ (ds.filter p).map G)
 | [], ρ, acc, h, hl => by simp [V4]
 | d :: ds, ρ, acc, h, hl => by
  obtain ⟨ρ1, h1, h2, h3, h4⟩ := hs d ds ρ h
  rw [length_cons] at hl
  rw [map_cons]
  unfold V4
  rw [h1]
  simp only [h2]
  cases hp : p d with
  | false =>
   simp only
   rw [U5 I hs ds ρ1 acc h4 (by omega), filter_cons, hp]
   rfl
  | true =>
   simp only [h3 hp]
   rw [if_pos (by omega), U5 I hs ds ρ1 _ h4 (by simp; omega), filter_cons, hp]
   simp
theorem zi1 {x y : MB} {ρ : Ro} {a b : Bool} (h1 : x ρ = some a) (h2 : y ρ = some b) : cor x y ρ = some (a || b) := by
 unfold cor; rw [h1]; cases a <;> simp [h2]
theorem yj6 {x y : MB} {ρ : Ro} {a b : Bool} (h1 : x ρ = some a) (h2 : y ρ = some b) : cand x y ρ = some (a && b) := by
 unfold cand; rw [h1]; cases a <;> simp [h2]
theorem S7 {i : Nat} {x : ME} {ρ : Ro} {d : D} (h : x ρ = some d) : mset i x ρ = some (.nx (ρ.set i (some (.sh d)))) := by unfold mset; rw [h]; rfl
theorem r6 {m : ML} {ρ : Ro} {ds : List D} (h : m ρ = some ds) : mlst m ρ = some (.lst ds) := by unfold mlst; rw [h]; rfl
theorem t5 {m : ML} {ρ : Ro} {ds : List D} (h : m ρ = some ds) (hz : ds.length <= sizeLine) : t3 m ρ = some ds := by
 unfold t3; rw [h]; show (if ds.length <= sizeLine then some ds else none) = _; rw [if_pos hz]
theorem W9 {m : ML} {i : ME} {ρ : Ro} {ds : List D} {k : Int} {d : D} (h1 : m ρ = some ds) (h2 : i ρ = some (.int k)) (h3 : atI ds k = some d) : mix m i ρ = some d := by
 unfold mix; rw [h1, h2]; exact h3
theorem p9 {m : ME} {ρ : Ro} {ds : List D} (h : m ρ = some (.lst ds)) : v7 m ρ = some ds := by unfold v7; rw [h]
theorem P5 {x y : ML} {ρ : Ro} {ds es : List D} (h1 : x ρ = some ds) (h2 : y ρ = some es) (hz : ds.length + es.length <= sizeLine) : mcat x y ρ = some (ds ++ es) := by
 unfold mcat; rw [h1, h2]; show (if ds.length + es.length <= sizeLine then some (ds ++ es) else none) = _; rw [if_pos hz]
theorem P1 {m : ML} {ρ : Ro} {ds : List D} (h : m ρ = some ds) (hz : ds.length <= sizeLine) : mtup m ρ = some (.tup ds) := by
 unfold mtup; rw [t5 h hz]; rfl
theorem W8 {x : ME} {ρ : Ro} {d : D} (h : x ρ = some d) : mret x ρ = some (.rt d) := by unfold mret; rw [h]; rfl
section
open PySem L2
theorem R7 {c : MB} {x y : MS} {ρ : Ro} {b : Bool} (h : c ρ = some b) : mif c x y ρ = (if b then x else y) ρ := by unfold mif; rw [h]; cases b <;> rfl
theorem yz7 {x : ME} {ρ : Ro} {d : D} (h : x ρ = some d) : N5 x ρ = some (.nx ρ) := by unfold N5; rw [h]; rfl
theorem xk6 {x : ME} {ρ : Ro} {i k : Int} (h : x ρ = some (.int i)) : v3 (m2 eqSD x (mc (.int k))) ρ = some (i == k) := by unfold v3 m2 mc; rw [h]; rfl
theorem xk5 {x y : ME} {ρ : Ro} {i k : Int} (h : x ρ = some (.int i)) (h2 : y ρ = some (.int k)) : v3 (m2 ltD x y) ρ = some (decide (i < k)) := by unfold v3 m2; rw [h, h2]; rfl
end
section
open PySem L2
def lx : List Nat -> List Nat -> Bool
 | [], [] => false
 | [], _ :: _ => true
 | _ :: _, [] => false
 | a :: l, b :: m => decide (a < b) || (a == b && lx l m)
def W3 (l m : List Nat) : Bool := decide (m.length < l.length) || (l.length == m.length && lx l m)
theorem ym3 : ∀ l, lx l l = false
 | [] => rfl
 | a :: l => by unfold lx; simp [ym3 l]
theorem yy2 : ∀ {a b c : List Nat}, lx a b = true -> lx b c = true -> lx a c = true
 | [], [], _, h, _ => by cases h
 | [], _ :: _, [], _, h => by cases h
 | [], _ :: _, _ :: _, _, _ => rfl
 | _ :: _, [], _, h, _ => by cases h
 | _ :: _, _ :: _, [], _, h => by cases h
 | a :: l, b :: m, c :: k, h1, h2 => by
  unfold lx at *
  simp only [Bool.or_eq_true, Bool.and_eq_true, decide_eq_true_eq, beq_iff_eq] at *
  rcases h1 with h1 | ⟨rfl, h1⟩ <;> rcases h2 with h2 | ⟨rfl, h2⟩
  ·exact .inl (by omega)
  ·exact .inl h1
  ·exact .inl h2
  ·exact .inr ⟨rfl, yy2 h1 h2⟩
theorem xy2 : ∀ (a b : List Nat), a = b \/ lx a b = true \/ lx b a = true
 | [], [] => .inl rfl
 | [], _ :: _ => .inr (.inl rfl)
 | _ :: _, [] => .inr (.inr rfl)
 | a :: l, b :: m => by
  unfold lx
  simp only [Bool.or_eq_true, Bool.and_eq_true, decide_eq_true_eq, beq_iff_eq]
  rcases Nat.lt_trichotomy a b with h | h | h
  ·exact .inr (.inl (.inl h))
  ·subst h
   rcases xy2 l m with h | h | h
   ·exact .inl (by rw [h])
   ·exact .inr (.inl (.inr ⟨rfl, h⟩))
   ·exact .inr (.inr (.inr ⟨rfl, h⟩))
  ·exact .inr (.inr (.inl h))
theorem V6 (l m : List Nat) : W3 l m = true ↔ m.length < l.length \/ (l.length = m.length /\ lx l m = true) := by
 unfold W3
 simp only [Bool.or_eq_true, Bool.and_eq_true, decide_eq_true_eq, beq_iff_eq]
theorem L9 {a b c : List Nat} (h1 : W3 a b = true) (h2 : W3 b c = true) : W3 a c = true := by
 rw [V6] at *
 rcases h1 with h1 | ⟨h1, h1'⟩ <;> rcases h2 with h2 | ⟨h2, h2'⟩
 ·exact .inl (by omega)
 ·exact .inl (by omega)
 ·exact .inl (by omega)
 ·exact .inr ⟨by omega, yy2 h1' h2'⟩
theorem zh4 (a b : List Nat) : a = b \/ W3 a b = true \/ W3 b a = true := by
 rw [V6, V6]
 rcases Nat.lt_trichotomy a.length b.length with h | h | h
 ·exact .inr (.inr (.inl h))
 ·rcases xy2 a b with z | z | z
  ·exact .inl z
  ·exact .inr (.inl (.inr ⟨h, z⟩))
  ·exact .inr (.inr (.inr ⟨h.symm, z⟩))
 ·exact .inr (.inl (.inl h))
theorem zh5 (a : List Nat) : W3 a a = false := by
 unfold W3; simp [ym3]
theorem yt4 (p : Nat) (a b : List Nat) : W3 (p :: a) (p :: b) = W3 a b := by
 unfold W3
 simp [lx]
def Best (P : List Nat -> Prop) (l : List Nat) : Prop := P l /\ ∀ m, P m -> W3 m l = false
theorem Best.iff {P Q : List Nat -> Prop} {l : List Nat} (a : Best P l) (h : ∀ m, P m ↔ Q m) : Best Q l := ⟨(h l).mp a.1, fun m hm => a.2 m ((h m).mpr hm)⟩
theorem Best.len {P : List Nat -> Prop} {l : List Nat} (a : Best P l) (m : List Nat) (h : P m) : m.length <= l.length := by
 have := a.2 m h
 rcases Nat.lt_or_ge l.length m.length with z | z
 ·rw [(V6 m l).mpr (.inl z)] at this; cases this
 ·exact z
def far (s : Int) (d : Bool) (a b : Int) : Prop := if d then s <= b - a else s <= a - b
instance (s : Int) (d : Bool) (a b : Int) : Decidable (far s d a b) := by unfold far; exact inferInstance
def Wd (x : Nat -> Int) (n : Nat) (s : Int) : Bool -> List Nat -> Prop
 | _, [] => False
 | _, [p] => p < n
 | d, p :: q :: l => p < q /\ far s d (x p) (x q) /\ Wd x n s (!d) (q :: l)
def Wv (x : Nat -> Int) (n : Nat) (s : Int) (l : List Nat) : Prop := l = [] \/ ∃ d, Wd x n s d l
def From (x : Nat -> Int) (n : Nat) (s : Int) (d : Bool) (p t : Nat) (l : List Nat) : Prop := Wd x n s d l /\ (l = [p] \/ ∃ q m, l = p :: q :: m /\ q <= t)
variable {x : Nat -> Int} {n : Nat} {s : Int}
theorem Wd.lt : ∀ {l : List Nat} {d : Bool} {p : Nat}, Wd x n s d (p :: l) -> p < n
 | [], d, p, h => h
 | q :: l, d, p, h => Nat.lt_trans h.1 h.2.2.lt
theorem Wd.len : ∀ {l : List Nat} {d : Bool} {p : Nat}, Wd x n s d (p :: l) -> l.length + p < n
 | [], d, p, h => by have h : p < n := h; simpa using h
 | q :: l, d, p, h => by
  have := h.2.2.len
  have := h.1
  simp; omega
theorem yy7 {d : Bool} {p : Nat} (hp : p < n) : Best (From x n s d p p) [p] := by
 refine ⟨⟨hp, .inl rfl⟩, ?_⟩
 rintro m ⟨h1, h2⟩
 rcases h2 with rfl | ⟨q, m, rfl, hq⟩
 ·exact zh5 _
 ·have := h1.1; omega
theorem zj4 {d : Bool} {p q : Nat} {U T : List Nat} (hq : p < q) (hU : Best (From x n s d p (q - 1)) U) (hT : Best (From x n s (!d) q n) T) (decf : Decidable (far s d (x p) (x q))) :
  Best (From x n s d p q) (if far s d (x p) (x q) /\ U.length <= T.length then p :: T else U) := by
 have hTq : ∃ m, T = q :: m := by
  rcases hT.1.2 with h | ⟨r, m, h, _⟩
  ·exact ⟨_, h⟩
  ·exact ⟨_, h⟩
 have low : ∀ m, From x n s d p (q - 1) m -> From x n s d p q m := fun m h => ⟨h.1, h.2.imp id fun ⟨r, m, e, hr⟩ => ⟨r, m, e, by omega⟩⟩
 have split : ∀ m, From x n s d p q m -> From x n s d p (q - 1) m \/ ∃ k, m = p :: k /\ far s d (x p) (x q) /\ From x n s (!d) q n k := by
  rintro m ⟨h1, h2⟩
  rcases h2 with rfl | ⟨r, m, rfl, hr⟩
  ·exact .inl ⟨h1, .inl rfl⟩
  ·rcases Nat.lt_or_ge r q with z | z
   ·exact .inl ⟨h1, .inr ⟨r, m, rfl, by omega⟩⟩
   ·have : r = q := by omega
    subst this
    refine .inr ⟨_, rfl, h1.2.1, h1.2.2, ?_⟩
    cases m with
    | nil => exact .inl rfl
    | cons t m => exact .inr ⟨t, m, rfl, Nat.le_of_lt h1.2.2.2.2.lt⟩
 obtain ⟨T', eT⟩ := hTq
 split
 ·rename_i h
  refine ⟨⟨?_, ?_⟩, fun m hm => ?_⟩
  ·rw [eT]; exact ⟨hq, h.1, by rw [<- eT]; exact hT.1.1⟩
  ·exact .inr ⟨q, T', by rw [eT], Nat.le_refl _⟩
  ·rcases split m hm with z | ⟨k, rfl, _, z⟩
   ·have := hU.len m z
    cases e : W3 m (p :: T) with
    | false => rfl
    | true =>
     rw [V6] at e
     simp only [length_cons] at e
     omega
   ·rw [yt4]; exact hT.2 k z
 ·rename_i h
  refine ⟨low _ hU.1, fun m hm => ?_⟩
  rcases split m hm with z | ⟨k, rfl, hf, z⟩
  ·exact hU.2 m z
  ·have hl : ¬ U.length <= T.length := fun w => h ⟨hf, w⟩
   have := hT.len k z
   cases e : W3 (p :: k) U with
   | false => rfl
   | true =>
    rw [V6] at e
    simp only [length_cons] at e
    rcases e with e | ⟨e1, e2⟩
    ·omega
    ·rcases hU.1.2 with w | ⟨r, m, w, hr⟩
     ·have : k.length = 0 := by rw [w] at e1; simpa using e1
      rcases z.2 with y | ⟨_, _, y, _⟩ <;> (rw [y] at this; simp at this)
     ·have hk : ∃ k', k = q :: k' := by
       rcases z.2 with y | ⟨_, _, y, _⟩
       ·exact ⟨_, y⟩
       ·exact ⟨_, y⟩
      obtain ⟨k', rfl⟩ := hk
      rw [w] at e2
      unfold lx at e2
      simp only [Nat.lt_irrefl, decide_false, beq_self_eq_true, Bool.true_and, Bool.false_or] at e2
      unfold lx at e2
      simp only [Bool.or_eq_true, Bool.and_eq_true, decide_eq_true_eq, beq_iff_eq] at e2
      omega
theorem yy8 {d : Bool} {p t : Nat} {l : List Nat} (h : Best (From x n s d p t) l) (ht : n <= t + 1) : Best (From x n s d p n) l :=
 h.iff fun m => ⟨fun a => ⟨a.1, a.2.imp id fun ⟨q, k, e, hq⟩ => ⟨q, k, e, by rw [e] at a; exact Nat.le_of_lt a.1.2.2.lt⟩⟩, fun a => ⟨a.1, a.2.imp id fun ⟨q, k, e, hq⟩ => ⟨q, k, e, by rw [e] at a; have := a.1.2.2.lt; omega⟩⟩⟩
theorem zj5 {d : Bool} {p t t' : Nat} {l : List Nat} (h : Best (From x n s d p t) l) (ht : t = t') : Best (From x n s d p t') l := ht ▸ h
theorem xx2 {d : Bool} {p : Nat} {l : List Nat} (h : Wd x n s d (p :: l)) : From x n s d p n (p :: l) := ⟨h, by
 cases l with
 | nil => exact .inl rfl
 | cons q l => exact .inr ⟨q, l, rfl, Nat.le_of_lt h.2.2.lt⟩⟩
theorem yb4 {l : List Nat} {ls : List (List Nat)} (hm : l ∈ ls) (hmin : ∀ m ∈ ls, W3 m l = false) (hw : ∀ m ∈ ls, Wv x n s m) (hall : ∀ d p, p < n -> ∃ m ∈ ls, Best (From x n s d p n) m) (hn : l ≠ []) : Best (Wv x n s) l := by
 refine ⟨hw l hm, fun m h => ?_⟩
 rcases h with rfl | ⟨d, h⟩
 ·cases e : W3 [] l with
  | false => rfl
  | true =>
   rw [V6] at e
   simp only [length_nil] at e
   rcases e with e | ⟨e, _⟩
   ·omega
   ·exact absurd (List.length_eq_zero_iff.mp e.symm) hn
 ·cases m with
  | nil => exact h.elim
  | cons p m =>
   obtain ⟨k, hk, hb⟩ := hall d p h.lt
   have h1 := hb.2 _ (xx2 h)
   have h2 := hmin k hk
   cases e : W3 (p :: m) l with
   | false => rfl
   | true =>
    rcases zh4 k (p :: m) with z | z | z
    ·rw [<- z, h2] at e; cases e
    ·rw [L9 z e] at h2; cases h2
    ·rw [z] at h1; cases h1
theorem yi2 (hn : n = 0) : Best (Wv x n s) [] := by
 refine ⟨.inl rfl, fun m h => ?_⟩
 rcases h with rfl | ⟨d, h⟩
 ·rfl
 ·cases m with
  | nil => exact h.elim
  | cons p m => have := h.lt; omega
end
section
open PySem L2
def dN (p : Nat) : D := .int (p : Int)
def L (l : List Nat) : D := .lst (l.map dN)
def Ky (l : List Nat) : D := .tup [.int (-(l.length : Int)), L l]
theorem xy6 (k : Nat) (a b : Nat) : eqF (k + 1) (dN a) (dN b) = some (a == b) := by
 show some ((a : Int) == (b : Int)) = _
 congr 1
 rw [Bool.eq_iff_iff, beq_iff_eq, beq_iff_eq]
 omega
theorem yt9 (k : Nat) : ∀ (l m : List Nat), l.length = m.length -> zipE (eqF (k + 1)) (l.map dN) (m.map dN) = some (l == m)
 | [], [], _ => rfl
 | [], _ :: _, h => by cases h
 | _ :: _, [], h => by cases h
 | a :: l, b :: m, h => by
  rw [map_cons, map_cons, zipE, xy6, yt9 k l m (by simpa using h)]
  rfl
theorem ym6 (k : Nat) : ∀ (l m : List Nat), lexF (eqF (k + 1)) (ltF (k + 1)) (l.map dN) (m.map dN) = some (lx l m)
 | [], [] => rfl
 | [], _ :: _ => rfl
 | _ :: _, [] => rfl
 | a :: l, b :: m => by
  rw [map_cons, map_cons, lexF, xy6]
  unfold lx
  by_cases h : a = b
  ·subst h
   simp only [beq_self_eq_true, Nat.lt_irrefl, decide_false, Bool.true_and, Bool.false_or]
   exact ym6 k l m
  ·have e : (a == b) = false := by simpa using h
   rw [e]
   simp only [Bool.false_and, Bool.or_false]
   show some (decide ((a : Int) < (b : Int))) = _
   congr 1
   apply decide_eq_decide.mpr
   omega
theorem xf9 (l m : List Nat) : ltF 8 (Ky l) (Ky m) = some (W3 l m) := by
 show lexF (eqF 7) (ltF 7) [.int (-(l.length : Int)), L l] [.int (-(m.length : Int)), L m] = _
 rw [lexF, show eqF 7 (.int (-(l.length : Int))) (.int (-(m.length : Int))) = some (-(l.length : Int) == -(m.length : Int)) from rfl]
 unfold W3
 by_cases h : l.length = m.length
 ·rw [h]
  simp only [beq_self_eq_true, Nat.lt_irrefl, decide_false, Bool.true_and, Bool.false_or]
  have e : eqF 7 (L l) (L m) = some (l == m) := by
   show (if (l.map dN).length = (m.map dN).length then zipE (eqF 6) (l.map dN) (m.map dN) else some false) = _
   rw [if_pos (by simpa using h), yt9 5 l m h]
  rw [lexF, e]
  by_cases hq : l = m
  ·subst hq
   simp only [beq_self_eq_true]
   rw [ym3]; rfl
  ·have e2 : (l == m) = false := by simpa using hq
   rw [e2]
   exact ym6 5 l m
 ·have e : (-(l.length : Int) == -(m.length : Int)) = false := by
   rw [beq_eq_false_iff_ne]; omega
  have e2 : (l.length == m.length) = false := by simpa using h
  rw [e, e2]
  simp only [Bool.false_and, Bool.or_false]
  show some (decide (-(l.length : Int) < -(m.length : Int))) = _
  congr 1
  apply decide_eq_decide.mpr
  omega
theorem zq7 {mk : D -> Option D} (hk : ∀ l, mk (L l) = some (Ky l)) : ∀ (ls : List (List Nat)) (b : List Nat), ∃ r, minF mk (ls.map L) (L b) (Ky b) = some (L r) /\ r ∈ b :: ls /\ ∀ m ∈ b :: ls, W3 m r = false
 | [], b => ⟨b, rfl, by simp, by simp [zh5]⟩
 | m :: ls, b => by
  rw [map_cons]
  unfold minF
  rw [hk m]
  simp only [xf9 m b]
  cases h : W3 m b with
  | true =>
   obtain ⟨r, e, h1, h2⟩ := zq7 hk ls m
   refine ⟨r, e, mem_cons_of_mem _ h1, fun k hk' => ?_⟩
   rcases List.mem_cons.mp hk' with rfl | hk'
   ·cases z : W3 k r with
    | false => rfl
    | true => have := h2 m (by simp); rw [L9 h z] at this; cases this
   ·exact h2 k hk'
  | false =>
   obtain ⟨r, e, h1, h2⟩ := zq7 hk ls b
   refine ⟨r, e, ?_, fun k hk' => ?_⟩
   ·rcases List.mem_cons.mp h1 with h1 | h1
    ·simp [h1]
    ·simp [h1]
   ·have hb := h2 b (by simp)
    rcases List.mem_cons.mp hk' with rfl | hk'
    ·exact hb
    ·rcases List.mem_cons.mp hk' with rfl | hk'
     ·cases z : W3 k r with
      | false => rfl
      | true =>
       rcases zh4 k b with w | w | w
       ·rw [w, hb] at z; cases z
       ·rw [h] at w; cases w
       ·rw [L9 w z] at hb; cases hb
     ·exact h2 k (mem_cons_of_mem _ hk')
abbrev xr (row : List Int) : Nat -> Int := fun i => row.getD i 0
def envU (row : List Int) (s : Int) (U V : List (List Nat)) (o4 o5 o6 : Option S) : Ro := [some (.sh (.lst (row.map .int))), some (.sh (.int s)), some (.own (U.map L)), some (.own (V.map L)), o4, o5, o6]
theorem zo4 {x y : ME} {ρ : Ro} {i j : Int} (h1 : x ρ = some (.int i)) (h2 : y ρ = some (.int j)) : v3 (m2 geD x y) ρ = some (decide (j <= i)) := by
 unfold v3 m2; rw [h1, h2]; rfl
theorem j5 {m : ML} {ρ : Ro} {ds : List D} (h : m ρ = some ds) : mlen m ρ = some (.int ds.length) := by unfold mlen; rw [h]; rfl
theorem at_L (U : List (List Nat)) (p : Nat) (h : p < U.length) : atI (U.map L) (p : Int) = some (L (U.getD p [])) := by
 have := zp9 L U (p : Int) (by omega) (by omega) []
 rw [Int.toNat_natCast] at this
 exact this
theorem ze7 (n p : Nat) (h : p < n) : ixN n (p : Int) = some p := by
 unfold ixN
 rw [if_pos (by omega), if_pos (by omega), Int.toNat_natCast]
def upU (s : Int) (row : List Int) (d : Bool) (U V : List (List Nat)) (p q : Nat) : List (List Nat) :=
 if (if d then s <= xr row q - xr row p else s <= xr row p - xr row q) /\ (U.getD p []).length <= (V.getD q []).length then U.set p (p :: V.getD q []) else U
theorem zh8 (s : Int) (row : List Int) (d : Bool) (U V : List (List Nat)) (p q : Nat) : (upU s row d U V p q).length = U.length := by
 unfold upU
 by_cases hc : ((if d then s <= xr row q - xr row p else s <= xr row p - xr row q) /\ (U.getD p []).length <= (V.getD q []).length)
 ·rw [if_pos hc, length_set]
 ·rw [if_neg hc]
theorem zo2 (s : Int) (row : List Int) (d : Bool) (U V : List (List Nat)) (p q r : Nat) (h : p ≠ r) : (upU s row d U V p q).getD r [] = U.getD r [] := by
 rw [getD_eq_getElem?_getD, getD_eq_getElem?_getD]
 unfold upU
 by_cases hc : ((if d then s <= xr row q - xr row p else s <= xr row p - xr row q) /\ (U.getD p []).length <= (V.getD q []).length)
 ·rw [if_pos hc, getElem?_set_ne h]
 ·rw [if_neg hc]
theorem zd1 (U : List (List Nat)) (p : Nat) (l : List Nat) (h : p < U.length) : (U.set p l).getD p [] = l := by
 rw [getD_eq_getElem?_getD, getElem?_set_self h]; rfl
theorem yw2 (row : List Int) (s : Int) (U V : List (List Nat)) (p q : Nat) (o6 : Option S) (hU : U.length = row.length) (hV : V.length = row.length) (hp : p < row.length) (hq : q < row.length) (bU : (U.getD q []).length <= 1000) (bV : (V.getD q []).length <= 1000) (hpq : p ≠ q) :
  ∃ o6', zp6 (envU row s U V (some (.sh (.int (p : Int)))) (some (.sh (.int (q : Int)))) o6) = some (.nx (envU row s (upU s row true U V p q) (upU s row false V U p q) (some (.sh (.int (p : Int)))) (some (.sh (.int (q : Int)))) o6')) := by
 have big := u7
 have ap := P9 row p hp
 have aq := P9 row q hq
 have i1 : 0 + 1 <= sizeLine := u0 (by decide)
 refine ⟨some (.sh (.int (xr row q - xr row p))), ?_⟩
 unfold zp6
 refine seqI (ρ' := envU row s U V (some (.sh (.int (p : Int)))) (some (.sh (.int (q : Int)))) (some (.sh (.int (xr row q - xr row p))))) ?_ ?_
 ·unfold envU
  simp_arith [ap, aq]
 have go : ∀ (iU iV : Nat) (A B : List (List Nat)) (ρ : Ro), ρ[iU]? = some (some (.own (A.map L))) -> ρ[iV]? = some (some (.own (B.map L))) -> ρ[4]? = some (some (.sh (.int (p : Int)))) -> ρ[5]? = some (some (.sh (.int (q : Int)))) -> A.length = row.length -> B.length = row.length -> (B.getD q []).length <= 1000 ->
   (v3 (m2 geD (mlen (v7 (mix (bvar iV) (mvar 5)))) (mlen (v7 (mix (bvar iU) (mvar 4))))) ρ = some (decide ((A.getD p []).length <= (B.getD q []).length))) /\
   a9 iU (mvar 4) (mlst (mcat (t3 (z8 (mvar 4) anil)) (v7 (mix (bvar iV) (mvar 5))))) ρ = some (.nx (ρ.set iU (some (.own ((A.set p (p :: B.getD q [])).map L))))) := by
  intro iU iV A B ρ hA hB h4 h5 lA lB bB
  have eA : bvar iU ρ = some (A.map L) := by unfold bvar; rw [hA]
  have eB : bvar iV ρ = some (B.map L) := by unfold bvar; rw [hB]
  have e4 : mvar 4 ρ = some (.int (p : Int)) := by unfold mvar; rw [h4]
  have e5 : mvar 5 ρ = some (.int (q : Int)) := by unfold mvar; rw [h5]
  have fB : v7 (mix (bvar iV) (mvar 5)) ρ = some ((B.getD q []).map dN) := p9 (W9 eB e5 (at_L B q (by omega)))
  have fA : v7 (mix (bvar iU) (mvar 4)) ρ = some ((A.getD p []).map dN) := p9 (W9 eA e4 (at_L A p (by omega)))
  constructor
  ·rw [zo4 (j5 fB) (j5 fA)]
   congr 1
   apply decide_eq_decide.mpr
   rw [length_map, length_map]
   omega
  ·have ev : mlst (mcat (t3 (z8 (mvar 4) anil)) (v7 (mix (bvar iV) (mvar 5)))) ρ = some (L (p :: B.getD q [])) := by
    rw [r6 (P5 (t5 (z7 e4 y6) i1) fB (by rw [length_map, length_singleton]; omega))]
    rfl
   unfold a9
   rw [ev, hA, e4]
   show ((ixN (A.map L).length (p : Int)).map fun j => Out.nx (ρ.set iU (some (.own ((A.map L).set j (L (p :: B.getD q []))))))) = _
   rw [length_map, ze7 _ _ (by omega)]
   show some (Out.nx _) = _
   rw [map_set]
 have t1 : ∀ A B o6, v3 (m2 geD (mvar 6) (mvar 1)) (envU row s A B o6 (some (.sh (.int (q : Int)))) (some (.sh (.int (xr row q - xr row p))))) = some (decide (s <= xr row q - xr row p)) := fun A B o6 => zo4 rfl rfl
 have t2 : ∀ A B o6, v3 (m2 geD (m1 negD (mvar 6)) (mvar 1)) (envU row s A B o6 (some (.sh (.int (q : Int)))) (some (.sh (.int (xr row q - xr row p))))) = some (decide (s <= -(xr row q - xr row p))) := fun A B o6 => zo4 rfl rfl
 obtain ⟨c1, c2⟩ := go 2 3 U V (envU row s U V (some (.sh (.int (p : Int)))) (some (.sh (.int (q : Int)))) (some (.sh (.int (xr row q - xr row p))))) rfl rfl rfl rfl hU hV bV
 refine seqI (ρ' := envU row s (upU s row true U V p q) V (some (.sh (.int (p : Int)))) (some (.sh (.int (q : Int)))) (some (.sh (.int (xr row q - xr row p))))) ?_ ?_
 ·unfold mif
  rw [yj6 (t1 _ _ _) c1]
  unfold upU
  by_cases h : s <= xr row q - xr row p /\ (U.getD p []).length <= (V.getD q []).length
  ·rw [if_pos (by simpa using h), decide_eq_true h.1, decide_eq_true h.2]
   exact c2
  ·rw [if_neg (by simpa using h)]
   have : (decide (s <= xr row q - xr row p) && decide ((U.getD p []).length <= (V.getD q []).length)) = false := by
    rw [Bool.eq_false_iff]
    intro z
    rw [Bool.and_eq_true, decide_eq_true_eq, decide_eq_true_eq] at z
    exact h z
   rw [this]
   rfl
 ·have hU' : (upU s row true U V p q).length = row.length := by rw [zh8]; exact hU
  have gU : (upU s row true U V p q).getD q [] = U.getD q [] := zo2 _ _ _ _ _ _ _ _ hpq
  obtain ⟨d1, d2⟩ := go 3 2 V (upU s row true U V p q) (envU row s (upU s row true U V p q) V (some (.sh (.int (p : Int)))) (some (.sh (.int (q : Int)))) (some (.sh (.int (xr row q - xr row p))))) rfl rfl rfl rfl hV hU' (by rw [gU]; exact bU)
  rw [gU] at d1 d2
  unfold mif
  rw [yj6 (t2 _ _ _) d1]
  have ex : upU s row false V U p q = if s <= xr row p - xr row q /\ (V.getD p []).length <= (U.getD q []).length then V.set p (p :: U.getD q []) else V := by
   unfold upU; simp
  rw [ex]
  by_cases h : s <= xr row p - xr row q /\ (V.getD p []).length <= (U.getD q []).length
  ·rw [if_pos h, decide_eq_true (show s <= -(xr row q - xr row p) by omega), decide_eq_true h.2]
   exact d2
  ·rw [if_neg h]
   have : (decide (s <= -(xr row q - xr row p)) && decide ((V.getD p []).length <= (U.getD q []).length)) = false := by
    rw [Bool.eq_false_iff]
    intro z
    rw [Bool.and_eq_true, decide_eq_true_eq, decide_eq_true_eq] at z
    exact h ⟨by omega, z.2⟩
   rw [this]
   rfl
end
section
open PySem L2
theorem d6 (step : Int) (h : 1 <= step) : zk9 [.int step] = some (.sh .non) := by
 have : ¬ step < 1 := by omega
 unfold zk9 xo5
 simp_arith [this, decide_false]
def turn (t : Int × Int × Int) : Bool := decide (max t.1 t.2.2 < t.2.1) || decide (t.2.1 < min t.1 t.2.2)
def NI (cs : List Nat) : List Int := cs.map fun (c : Nat) => (c : Int)
end
section
open PySem L2
abbrev BT (row : List Int) (s : Int) (d : Bool) (p t : Nat) : List Nat -> Prop := Best (From (xr row) row.length s d p t)
theorem BT.len {row : List Int} {s : Int} {d : Bool} {p t : Nat} {l : List Nat} (h : BT row s d p t l) : l.length <= row.length := by
 rcases h.1.2 with e | ⟨q, m, e, _⟩
 ·rw [e] at h ⊢
  have := h.1.1.lt
  simp; omega
 ·rw [e] at h ⊢
  have := h.1.1.len
  simp at this ⊢; omega
def Done (row : List Int) (s : Int) (p : Nat) (U V : List (List Nat)) : Prop := ∀ q, p <= q -> q < row.length -> BT row s true q row.length (U.getD q []) /\ BT row s false q row.length (V.getD q [])
def Yet (p : Nat) (U V : List (List Nat)) : Prop := ∀ q, q < p -> U.getD q [] = [q] /\ V.getD q [] = [q]
theorem ya2 (s : Int) (row : List Int) (d : Bool) (U V : List (List Nat)) (p q : Nat) (hp : p < U.length) : (upU s row d U V p q).getD p [] = if far s d (xr row p) (xr row q) /\ (U.getD p []).length <= (V.getD q []).length then p :: V.getD q [] else U.getD p [] := by
 unfold upU far
 by_cases hc : ((if d then s <= xr row q - xr row p else s <= xr row p - xr row q) /\ (U.getD p []).length <= (V.getD q []).length)
 ·rw [if_pos hc, if_pos hc, zd1 _ _ _ hp]
 ·rw [if_neg hc, if_neg hc]
theorem yu6 (row : List Int) (s : Int) (U V : List (List Nat)) (p k : Nat) (hU : U.length = row.length) (hV : V.length = row.length) (hk : p + 1 + k < row.length) (hd : Done row s (p + 1) U V)
  (h1 : BT row s true p (p + k) (U.getD p [])) (h2 : BT row s false p (p + k) (V.getD p [])) :
  BT row s true p (p + (k + 1)) ((upU s row true U V p (p + 1 + k)).getD p []) /\ BT row s false p (p + (k + 1)) ((upU s row false V U p (p + 1 + k)).getD p []) := by
 obtain ⟨a, b⟩ := hd (p + 1 + k) (by omega) hk
 rw [ya2 _ _ _ _ _ _ _ (by omega), ya2 _ _ _ _ _ _ _ (by omega)]
 have e : p + (k + 1) = p + 1 + k := by omega
 rw [e]
 constructor
 ·exact zj4 (q := p + 1 + k) (by omega) (zj5 h1 (by omega)) b _
 ·exact zj4 (q := p + 1 + k) (by omega) (zj5 h2 (by omega)) a _
theorem yu7 (row : List Int) (s : Int) (hr : row.length <= 300) (U V : List (List Nat)) (p : Nat) (hp : p < row.length) (hU : U.length = row.length) (hV : V.length = row.length) (hd : Done row s (p + 1) U V) (hy : Yet (p + 1) U V) (o5 o6 : Option S) (Q : Out -> Prop)
  (hQ : ∀ U V o5 o6, U.length = row.length -> V.length = row.length -> Done row s p U V -> Yet p U V -> Q (.nx (envU row s U V (some (.sh (.int (p : Int)))) o5 o6))) :
  Run zp5 (envU row s U V (some (.sh (.int (p : Int)))) o5 o6) Q := by
 unfold zp5
 have k1 : okR ((p : Int) + 1) = true := T6 (by omega) (by omega)
 have k2 : okR (row.length : Int) = true := T6 (by omega) (by omega)
 have er : T2 ((p : Int) + 1) ((row.length : Int) - ((p : Int) + 1)).toNat = (List.range (row.length - (p + 1))).map fun (j : Nat) => D.int ((p + 1 + j : Nat) : Int) := by
  rw [T1, show ((row.length : Int) - ((p : Int) + 1)).toNat = row.length - (p + 1) by omega]
  apply map_congr_left
  intro i _
  congr 1
 refine O4 (row.length - (p + 1)) (f := fun (j : Nat) => D.int ((p + 1 + j : Nat) : Int)) (by unfold envU; simp_arith [length_map, zg3 k1 k2, er])
  (I := fun k ρ => ∃ U V o5 o6, U.length = row.length /\ V.length = row.length /\ Done row s (p + 1) U V /\ Yet p U V /\ BT row s true p (p + k) (U.getD p []) /\ BT row s false p (p + k) (V.getD p []) /\ ρ = envU row s U V (some (.sh (.int (p : Int)))) o5 o6) _
  ⟨U, V, o5, o6, hU, hV, hd, fun q hq => hy q (by omega), by rw [(hy p (by omega)).1]; exact yy7 hp, by rw [(hy p (by omega)).2]; exact yy7 hp, rfl⟩ ?_ ?_
 ·rintro k ρ hk ⟨U, V, o5, o6, hU, hV, hd, hy, h1, h2, rfl⟩
  refine ⟨_, rfl, ?_⟩
  obtain ⟨a, b⟩ := hd (p + 1 + k) (by omega) (by omega)
  have la := a.len
  have lb := b.len
  obtain ⟨o6', e⟩ := yw2 row s U V p (p + 1 + k) o6 hU hV hp (by omega) (by omega) (by omega) (by omega)
  obtain ⟨n1, n2⟩ := yu6 row s U V p k hU hV (by omega) hd h1 h2
  refine ⟨_, e, upU s row true U V p (p + 1 + k), upU s row false V U p (p + 1 + k), _, _, by rw [zh8]; exact hU, by rw [zh8]; exact hV, ?_, ?_, n1, n2, rfl⟩
  ·intro q h1 h2
   rw [zo2 _ _ _ _ _ _ _ _ (by omega), zo2 _ _ _ _ _ _ _ _ (by omega)]
   exact hd q h1 h2
  ·intro q h1
   rw [zo2 _ _ _ _ _ _ _ _ (by omega), zo2 _ _ _ _ _ _ _ _ (by omega)]
   exact hy q h1
 ·rintro ρ ⟨U, V, o5, o6, hU, hV, hd, hy, h1, h2, rfl⟩
  refine hQ U V o5 o6 hU hV (fun q h3 h4 => ?_) hy
  rcases Nat.lt_or_ge p q with z | z
  ·exact hd q (by omega) h4
  ·have : q = p := by omega
   subst this
   exact ⟨yy8 h1 (by omega), yy8 h2 (by omega)⟩
theorem zg2 {j : Int} (h : okR j = true) : rngD [.int j] = some (zu2 j.toNat) := by
 unfold rngD
 simp only [h, if_true]
theorem yp9 (row : List Int) (hr : row.length <= 300) (ρ : Ro) (h0 : bvar 0 ρ = some (row.map .int)) : V0 [none] (j8 rng1 (z8 (mlen (bvar 0)) anil)) (.nm 0) cyes (mlst (t3 (z8 (mvar 0) anil))) ρ = some (((List.range row.length).map fun j => [j]).map L) := by
 have k2 : okR (row.length : Int) = true := T6 (by omega) (by omega)
 have i1 : 0 + 1 <= sizeLine := u0 (by decide)
 have e1 : j8 rng1 (z8 (mlen (bvar 0)) anil) ρ = some ((List.range row.length).map dN) := by
  unfold j8
  rw [z7 (j5 h0) y6, Option.bind_some, length_map, zr2 k2, Int.toNat_natCast, zz7, map_map]
  rfl
 unfold V0
 rw [e1]
 refine (V3 (f := dN) (G := fun j => L [j]) (fun _ ρ => ∃ x, ρ = [x]) (by
  rintro d ds ρ ⟨x, rfl⟩
  exact ⟨[some (.sh (dN d))], rfl, rfl, by rw [r6 (t5 (z7 (x := mvar 0) (d := dN d) rfl y6) i1)]; rfl, _, rfl⟩) (List.range row.length) _ [] ⟨none, rfl⟩ (u0 (by simp; omega))).trans ?_
 rw [map_map]
 rfl
theorem yh6 (row : List Int) (s : Int) (hr : row.length <= 300) : ∃ U V : List (List Nat), xr8 [.lst (row.map .int), .int s] = some (.sh (.tup [.lst (U.map L), .lst (V.map L)])) /\ U.length = row.length /\ V.length = row.length /\ Done row s 0 U V := by
 suffices h : ∃ d, runB 7 yi4 [.lst (row.map .int), .int s] = some (.sh d) /\ ∃ U V : List (List Nat), d = .tup [.lst (U.map L), .lst (V.map L)] /\ U.length = row.length /\ V.length = row.length /\ Done row s 0 U V by
  obtain ⟨d, e, U, V, rfl, a, b, c⟩ := h
  exact ⟨U, V, e, a, b, c⟩
 suffices h : Run yi4 (u5 7 [.lst (row.map .int), .int s]) (fun o => ∃ U V : List (List Nat), o = .rt (.tup [.lst (U.map L), .lst (V.map L)]) /\ U.length = row.length /\ V.length = row.length /\ Done row s 0 U V) by
  obtain ⟨o, e, U, V, rfl, r⟩ := h
  exact ⟨_, c8 e, U, V, rfl, r⟩
 unfold yi4
 have k2 : okR (row.length : Int) = true := T6 (by omega) (by omega)
 have i2 : 0 + 1 + 1 <= sizeLine := u0 (by decide)
 refine u6 (ρ' := [some (.sh (.lst (row.map .int))), some (.sh (.int s)), some (.own (((List.range row.length).map fun j => [j]).map L)), none, none, none, none]) (by unfold Y6; rw [yp9 row hr _ rfl]; rfl) ?_
 refine u6 (ρ' := envU row s ((List.range row.length).map fun j => [j]) ((List.range row.length).map fun j => [j]) none none none) (by unfold Y6; rw [yp9 row hr _ rfl]; rfl) ?_
 have ed : zu2 row.length = (List.range row.length).map fun (j : Nat) => D.int ((row.length : Int) - 1 - (j : Int)) := rfl
 have one : ∀ q, q < row.length -> ((List.range row.length).map fun j => [j]).getD q [] = [q] := by
  intro q hq
  rw [getD_eq_getElem?_getD, getElem?_map, getElem?_range hq]; rfl
 refine U0 (O4 row.length (f := fun (j : Nat) => D.int ((row.length : Int) - 1 - (j : Int))) ?_
  (I := fun j ρ => ∃ U V o4 o5 o6, U.length = row.length /\ V.length = row.length /\ Done row s (row.length - j) U V /\ Yet (row.length - j) U V /\ ρ = envU row s U V o4 o5 o6) _
  ⟨_, _, _, _, _, by simp, by simp, fun q h1 h2 => by omega, fun q h1 => ⟨one q (by omega), one q (by omega)⟩, rfl⟩ ?_ ?_)
 ·unfold j8
  rw [z7 (x := mlen (bvar 0)) (d := .int ((row.map D.int).length : Int)) (j5 rfl) y6, Option.bind_some, length_map, zg2 k2, Int.toNat_natCast, ed]
 ·rintro j ρ hj ⟨U, V, o4, o5, o6, hU, hV, hd, hy, rfl⟩
  refine ⟨_, rfl, ?_⟩
  have e : (row.length : Int) - 1 - (j : Int) = ((row.length - 1 - j : Nat) : Int) := by omega
  rw [e]
  have e2 : row.length - 1 - j + 1 = row.length - j := by omega
  refine yu7 row s hr U V (row.length - 1 - j) (by omega) hU hV (by rw [e2]; exact hd) (by rw [e2]; exact hy) o5 o6 _ fun U V o5 o6 hU hV hd hy => ?_
  rw [show row.length - 1 - j = row.length - (j + 1) by omega] at hd hy
  exact ⟨U, V, _, _, _, hU, hV, hd, hy, rfl⟩
 ·rintro ρ ⟨U, V, o4, o5, o6, hU, hV, hd, hy, rfl⟩
  rw [Nat.sub_self] at hd
  unfold yx2
  refine g6 (ds := U.map L) rfl (g6 (ds := V.map L) rfl ⟨_, ?_, U, V, rfl, hU, hV, hd⟩)
  unfold envU
  simp_arith [i2, if_true]
theorem xe5 (l : List Nat) : zj0 [L l] = some (.sh (Ky l)) := by
 unfold zj0 yi5
 have i2 : 0 + 1 + 1 <= sizeLine := u0 (by decide)
 refine c8 ?_
 unfold L
 simp_arith [i2, if_true, length_map]
 rfl
theorem yz8 {U : List (List Nat)} {m : List Nat} (h : m ∈ U) : ∃ q, q < U.length /\ m = U.getD q [] := by
 obtain ⟨q, hq, e⟩ := getElem_of_mem h
 exact ⟨q, hq, by rw [getD_eq_getElem?_getD, getElem?_eq_getElem hq, <- e]; rfl⟩
theorem yy6 {U : List (List Nat)} {q : Nat} (h : q < U.length) : U.getD q [] ∈ U := by
 rw [getD_eq_getElem?_getD, getElem?_eq_getElem h]; exact getElem_mem h
theorem yu4 (row : List Int) (s : Int) (hs : 1 <= s) (hr : row.length <= 300) : ∃ l, yn9 [.lst (row.map .int), .int s] = some (.sh (L l)) /\ Best (Wv (xr row) row.length s) l := by
 obtain ⟨U, V, et, hU, hV, hd⟩ := yh6 row s hr
 have i0 : 0 <= sizeLine := Nat.zero_le _
 have ek : ∀ l, shOf (zj0 [L l]) = some (Ky l) := fun l => by rw [xe5]; rfl
 have hres : ∃ l, minD (fun d => shOf (zj0 [d])) ((U ++ V).map L) (.lst []) = some (L l) /\ Best (Wv (xr row) row.length s) l := by
  cases hc : U ++ V with
  | nil =>
   have : row.length = 0 := by
    have := congrArg List.length hc
    rw [length_append, length_nil] at this
    omega
   exact ⟨[], rfl, yi2 this⟩
  | cons b ls =>
   obtain ⟨r, e, h1, h2⟩ := zq7 (mk := fun d => shOf (zj0 [d])) ek ls b
   refine ⟨r, ?_, ?_⟩
   ·show (match shOf (zj0 [L b]) with | some kd => minF _ (ls.map L) (L b) kd | none => none) = _
    rw [ek b]
    exact e
   ·rw [<- hc] at h1 h2
    have all : ∀ m ∈ U ++ V, ∃ d q, BT row s d q row.length m := by
     intro m hm
     rcases List.mem_append.mp hm with h | h
     ·obtain ⟨q, hq, rfl⟩ := yz8 h
      exact ⟨true, q, (hd q (Nat.zero_le _) (by omega)).1⟩
     ·obtain ⟨q, hq, rfl⟩ := yz8 h
      exact ⟨false, q, (hd q (Nat.zero_le _) (by omega)).2⟩
    refine yb4 h1 h2 (fun m hm => ?_) (fun d p hp => ?_) ?_
    ·obtain ⟨d, q, h⟩ := all m hm
     exact .inr ⟨d, h.1.1⟩
    ·cases d
     ·exact ⟨_, mem_append_right _ (yy6 (q := p) (by omega)), (hd p (Nat.zero_le _) hp).2⟩
     ·exact ⟨_, mem_append_left _ (yy6 (q := p) (by omega)), (hd p (Nat.zero_le _) hp).1⟩
    ·obtain ⟨d, q, h⟩ := all r h1
     intro z
     rw [z] at h
     exact h.1.1
 obtain ⟨l, e, hb⟩ := hres
 refine ⟨l, ?_, hb⟩
 unfold yn9 xp8
 refine K4 ?_
 ((apply u6; focus (simp_arith [d6 s hs]; rfl)))
 refine u6 (ρ' := [some (.sh (.lst (row.map .int))), some (.sh (.int s)), some (.sh (.lst (U.map L))), some (.sh (.lst (V.map L)))]) ?_ ?_
 ·unfold masg
  rw [v6 (z7 (d := .lst (row.map .int)) rfl (z7 (d := .int s) rfl y6)) et]
  rfl
 ·refine ⟨_, ?_, rfl⟩
  have e1 : v7 (m2 addD (mvar 2) (mvar 3)) [some (.sh (.lst (row.map .int))), some (.sh (.int s)), some (.sh (.lst (U.map L))), some (.sh (.lst (V.map L)))] = some ((U ++ V).map L) := by
   have hz : (U.map L).length + (V.map L).length <= sizeLine := u0 (by simp; omega)
   refine p9 ?_
   unfold m2
   show (if (U.map L).length + (V.map L).length <= sizeLine then some (D.lst (U.map L ++ V.map L)) else none) = _
   rw [if_pos hz, map_append]
  have e2 : mlst (t3 anil) [some (.sh (.lst (row.map .int))), some (.sh (.int s)), some (.sh (.lst (U.map L))), some (.sh (.lst (V.map L)))] = some (.lst []) := r6 (t5 y6 i0)
  unfold mret
  rw [yd0 e1 e2, e]
  rfl
theorem ze9 (row : List Int) (s : Int) (l : List Nat) (h : yn9 [.lst (row.map .int), .int s] = some (.sh (L l))) : J9 [.lst (row.map .int), .int s] = some (.sh (.int (l.length : Int))) := by
 unfold J9 xo0
 refine c8 ?_
 unfold mret
 rw [j5 (p9 (ds := l.map dN) (v6 (z7 (d := .lst (row.map .int)) rfl (z7 (d := .int s) rfl y6)) h)), length_map]
 rfl
end
section
open PySem L2
theorem R3 (w : Int) (h : 0 <= w) : m_Z9 [.int w] = some (.sh .non) := by
 have : ¬ w < 0 := by omega
 unfold m_Z9 b_Z9
 simp_arith [this, decide_false]
theorem E3 (row ws : List Int) (hw : ws.length = row.length) (h0 : ∀ x ∈ ws, 0 <= x) : m_Z5 [.lst (row.map .int), .lst (ws.map .int)] = some (.sh .non) := by
 unfold m_Z5 b_Z5
 suffices h : Run _ (u5 3 [.lst (row.map .int), .lst (ws.map .int)]) (fun o => ∃ ρ, o = .nx ρ) by
  obtain ⟨o, e, ρ, rfl⟩ := h
  exact xv7 e
 ((apply u6; focus (simp_arith [length_map, hw, beq_self_eq_true, Bool.not_true]; rfl)))
 refine yr3 ws (f := D.int) (by simp_arith []) (I := fun ys ρ => (∀ x ∈ ys, 0 <= x) /\ ∃ o2, ρ = [some (.sh (.lst (row.map .int))), some (.sh (.lst (ws.map .int))), o2]) _ ⟨h0, _, rfl⟩ ?_ ?_
 ·rintro x ys ρ ⟨hx, o2, rfl⟩
  refine ⟨_, rfl, ?_⟩
  unfold yi3
  refine ⟨_, by simp_arith [R3 x (hx x (by simp))]; rfl, ?_⟩
  exact ⟨fun y hy => hx y (by simp [hy]), _, rfl⟩
 ·rintro ρ ⟨_, o2, rfl⟩
  exact ⟨_, rfl⟩
end
section
open PySem L2
def gn (up : Bool) (x b : Int) : Int := if up then x - b else b - x
def okP (up : Bool) (s : Int) : Int -> List Int -> Bool
 | _, [] => true
 | b, x :: r => if gn up x b <= -s then false else okP up s (if 0 < gn up x b then x else b) r
def fb (up : Bool) (s : Int) : Int -> List Int -> Nat
 | _, [] => 0
 | b, x :: r => if gn up x b <= -s then 0 else fb up s (if 0 < gn up x b then x else b) r + 1
def pr (up : Bool) (s : Int) : List Int -> Bool
 | [] => true
 | x :: r => okP up s x r
def fbs (up : Bool) (s : Int) : List Int -> Nat
 | [] => 0
 | x :: r => fb up s x (x :: r)
theorem xq8 (up : Bool) (x : Int) : gn up x x = 0 := by unfold gn; split <;> omega
theorem yk7 (up : Bool) (s x : Int) (r : List Int) (hs : 1 <= s) : fb up s x (x :: r) = fb up s x r + 1 := by
 rw [fb, xq8, if_neg (by omega), if_neg (by omega)]
theorem xd0 (up : Bool) (s : Int) : ∀ (r : List Int) (b : Int) (k : Nat), k <= r.length -> (decide (fb up s b r < k) = !okP up s b (r.take k))
 | r, b, 0, _ => by simp [okP]
 | [], b, k + 1, h => by simp at h
 | x :: r, b, k + 1, h => by
  rw [fb, take_succ_cons, okP]
  split
  ·simp
  ·rw [<- xd0 up s r _ k (by simpa using h)]
   simp
theorem xe9 (up : Bool) (s : Int) (hs : 1 <= s) (xs : List Int) (k : Nat) (h : k <= xs.length) : decide (fbs up s xs < k) = !pr up s (xs.take k) := by
 cases xs with
 | nil => simp at h; subst h; rfl
 | cons x r =>
  cases k with
  | zero => simp [pr]
  | succ k =>
   rw [take_succ_cons, pr, fbs, yk7 up s x r hs, <- xd0 up s r x k (by simpa using h)]
   simp
def rel (up : Bool) (s a c : Int) : Prop := -(gn up c a) < s
theorem yo0 (up : Bool) (s : Int) : ∀ (r : List Int) (b : Int), okP up s b r = true ↔ (b :: r).Pairwise (rel up s)
 | [], b => by simp [okP]
 | x :: r, b => by
  rw [okP, pairwise_cons]
  by_cases h : gn up x b <= -s
  ·rw [if_pos h]
   refine ⟨fun z => (by cases z), fun z => ?_⟩
   have := z.1 x (by simp)
   unfold rel at this
   omega
  ·rw [if_neg h, yo0 up s r, pairwise_cons, pairwise_cons]
   have key : ∀ c, rel up s (if 0 < gn up x b then x else b) c ↔ (rel up s x c /\ rel up s b c) := by
    intro c
    unfold rel gn at *
    cases up <;> simp at * <;> split <;> omega
   constructor
   ·rintro ⟨h1, h2⟩
    refine ⟨fun c hc => ?_, fun c hc => ((key c).mp (h1 c hc)).1, h2⟩
    rcases List.mem_cons.mp hc with z | z
    ·subst z; unfold rel; omega
    ·exact ((key c).mp (h1 c z)).2
   ·rintro ⟨h1, h2, h3⟩
    exact ⟨fun c hc => (key c).mpr ⟨h2 c hc, h1 c (mem_cons_of_mem _ hc)⟩, h3⟩
theorem zt3 (up : Bool) (s : Int) (xs : List Int) : pr up s xs = true ↔ xs.Pairwise (rel up s) := by
 cases xs with
 | nil => simp [pr]
 | cons x r => exact yo0 up s r x
theorem yx1 (s : Int) (hs : 1 <= s) : ∀ (xs : List Int), (xs.Pairwise (rel true s) /\ xs.Pairwise (rel false s)) ↔ ∀ a ∈ xs, ∀ c ∈ xs, a - c < s
 | [] => by simp
 | x :: r => by
  rw [pairwise_cons, pairwise_cons]
  have ih := yx1 s hs r
  constructor
  ·rintro ⟨⟨h1, h2⟩, h3, h4⟩ a ha c hc
   have ih := ih.mp ⟨h2, h4⟩
   rcases List.mem_cons.mp ha with za | za <;> rcases List.mem_cons.mp hc with zc | zc
   ·subst za zc; omega
   ·subst za; have := h1 c zc; unfold rel gn at this; simp at this; omega
   ·subst zc; have := h3 a za; unfold rel gn at this; simp at this; omega
   ·exact ih a za c zc
  ·intro h
   have ih := ih.mpr fun a ha c hc => h a (mem_cons_of_mem _ ha) c (mem_cons_of_mem _ hc)
   refine ⟨⟨fun c hc => ?_, ih.1⟩, fun c hc => ?_, ih.2⟩
   ·have := h x (by simp) c (mem_cons_of_mem _ hc); unfold rel gn; simp; omega
   ·have := h c (mem_cons_of_mem _ hc) x (by simp); unfold rel gn; simp; omega
def seg (row : List Int) (p : Nat × Nat) : List Int := (row.take p.2).drop p.1
def rise (n : Nat) : Nat -> List Nat -> Prop
 | _, [] => True
 | l, c :: cs => l < c /\ c < n /\ rise n c cs
def alt (s : Int) (row : List Int) : Bool -> Nat -> List Nat -> Bool
 | up, st, [] => pr up s (seg row (st, row.length))
 | up, st, c :: cs => pr up s (seg row (st, c)) && alt s row (!up) c cs
theorem ys7 (up : Bool) (s : Int) (hs : 1 <= s) (row : List Int) (st e : Nat) (h1 : st <= e) (h2 : e <= row.length) : decide (((st + fbs up s (row.drop st) : Nat) : Int) < (e : Int)) = !pr up s (seg row (st, e)) := by
 unfold seg
 rw [drop_take, <- xe9 up s hs (row.drop st) (e - st) (by simp; omega)]
 apply decide_eq_decide.mpr
 omega
def kd (up : Bool) : Str := if up then "up" else "down"
theorem ud : (("up" : Str) == ("down" : Str)) = false := by decide
theorem dd : (("down" : Str) == ("down" : Str)) = true := by decide
theorem yc8 (up : Bool) (s : Int) (row : List Int) (st : Nat) : fbs up s (row.drop st) = fb up s (row.getD st 0) (row.drop st) := by
 by_cases h : st < row.length
 ·rw [zw3 row st h]; rfl
 ·rw [drop_eq_nil_of_le (by omega)]; rfl
def envB (row : List Int) (s : Int) (up : Bool) (st e : Nat) (o5 o6 : Option S) : Ro := [some (.sh (.lst (row.map .int))), some (.sh (.int s)), some (.sh (.str (kd up))), some (.sh (.int (st : Int))), some (.sh (.int (e : Int))), o5, o6]
theorem U9 (row : List Int) (s : Int) (up : Bool) (st : Nat) (hst : st <= row.length) (hr : row.length <= 1000) :
  ze3 [.lst (row.map .int), .int s, .str (kd up), .int (st : Int)] = some (.sh (.int ((st + fbs up s (row.drop st) : Nat) : Int))) := by
 unfold ze3 xo4
 refine K4 ?_
 ((apply u6; focus (simp_arith []; rfl)))
 have k1 : okR (st : Int) = true := T6 (by omega) (by omega)
 have k2 : okR (row.length : Int) = true := T6 (by omega) (by omega)
 have er : T2 (st : Int) ((row.length : Int) - (st : Int)).toNat = (List.range (row.length - st)).map fun (j : Nat) => D.int ((st + j : Nat) : Int) := by
  rw [T1, show ((row.length : Int) - (st : Int)).toNat = row.length - st by omega]
  apply map_congr_left
  intro i _
  congr 1
 refine U0 (O4 (row.length - st) (f := fun (j : Nat) => D.int ((st + j : Nat) : Int)) (by simp_arith [length_map, zg3 k1 k2, er])
  (I := fun j ρ => ∃ (e : Nat) (o5 o6 : Option S), (j < row.length - st -> e < row.length) /\ st + fbs up s (row.drop st) = st + j + fb up s (row.getD e 0) (row.drop (st + j)) /\ ρ = envB row s up st e o5 o6) _ ⟨st, none, none, by omega, by rw [yc8]; rfl, rfl⟩ ?_ ?_)
 ·rintro j ρ hj ⟨e, o5, o6, he, ht, rfl⟩
  have he := he hj
  have hx : st + j < row.length := by omega
  have a1 := P9 row (st + j) hx
  have a2 := P9 row e he
  rw [zw3 row (st + j) hx, fb] at ht
  generalize hx' : row.getD (st + j) 0 = x at a1 ht
  generalize hb' : row.getD e 0 = b at a2 ht
  refine ⟨_, rfl, ?_⟩
  unfold yx7 envB
  ((apply u6; focus (simp_arith [a1, a2]; rfl)))
  refine u6 (ρ' := envB row s up st e (some (.sh (.int ((st + j : Nat) : Int)))) (some (.sh (.int (gn up x b))))) ?_ ?_
  ·unfold envB
   cases up
   ·have : gn false x b = -(x - b) := by unfold gn; simp; omega
    rw [this]
    simp_arith [kd, dd, Bool.false_eq_true, if_false]
   ·have : gn true x b = x - b := rfl
    rw [this]
    simp_arith [kd, ud, if_true]
  unfold envB
  by_cases hb : gn up x b <= -s
  ·rw [if_pos hb] at ht
   refine U0 ⟨.rt (.int ((st + j : Nat) : Int)), by simp_arith [hb, decide_true], ?_⟩
   show Out.rt _ = Out.rt _
   rw [ht]; rfl
  ·rw [if_neg hb] at ht
   ((apply u6; focus (simp_arith [hb, decide_false]; rfl)))
   by_cases hg : 0 < gn up x b
   ·rw [if_pos hg] at ht
    refine ⟨_, by simp_arith [hg, decide_true]; rfl, ?_⟩
    refine ⟨st + j, _, _, fun _ => hx, ?_, rfl⟩
    rw [hx', ht, show st + (j + 1) = st + j + 1 by omega]; omega
   ·rw [if_neg hg] at ht
    refine ⟨_, by simp_arith [hg, decide_false]; rfl, ?_⟩
    refine ⟨e, _, _, fun _ => he, ?_, rfl⟩
    rw [hb', ht, show st + (j + 1) = st + j + 1 by omega]; omega
 ·rintro ρ ⟨e, o5, o6, he, ht, rfl⟩
  refine ⟨_, by unfold envB; simp_arith [length_map]; rfl, ?_⟩
  rw [show st + (row.length - st) = row.length by omega, drop_length, fb] at ht
  rw [ht]; rfl
theorem xk1 (up : Bool) : tabD tab_OTHER_KIND (.str (kd up)) = some (.str (kd (!up))) := by
 have h : tab_OTHER_KIND.lookup (kd up) = some (kd (!up)) := by cases up <;> decide +kernel
 show (tab_OTHER_KIND.lookup (kd up)).map D.str = _
 rw [h]; rfl
def ent (n : Nat) (cs : List Nat) : Nat := match cs with | [] => n | c :: _ => c
def N7 (s : Int) (row : List Int) : Nat -> Bool -> Nat -> List Nat
 | 0, _, _ => []
 | f + 1, k, c => if c < row.length then c :: N7 s row f (!k) (c + fbs k s (row.drop c)) else []
def brk (k : Bool) (s : Int) (row : List Int) (st e : Nat) : Bool := (seg row (st, e)).any fun x => decide (s <= -(gn k (row.getD e 0) x))
theorem yg0 (row : List Int) (st e : Nat) (h1 : st <= e) (h2 : e < row.length) : seg row (st, e + 1) = seg row (st, e) ++ [row.getD e 0] := by
 unfold seg
 have : row.take (e + 1) = row.take e ++ [row.getD e 0] := by
  rw [take_succ]
  simp [h2]
 show (row.take (e + 1)).drop st = (row.take e).drop st ++ [row.getD e 0]
 rw [this, drop_append_of_le_length (by simp; omega)]
theorem xu4 (k : Bool) (s : Int) (row : List Int) (st e : Nat) (h1 : st <= e) (h2 : e < row.length) : pr k s (seg row (st, e + 1)) = (pr k s (seg row (st, e)) && !brk k s row st e) := by
 rw [Bool.eq_iff_iff, Bool.and_eq_true, zt3, zt3, yg0 row st e h1 h2, pairwise_append]
 unfold brk
 constructor
 ·rintro ⟨a, _, b⟩
  refine ⟨a, ?_⟩
  rw [Bool.not_eq_true', any_eq_false]
  intro x hx z
  have := b x hx _ (List.mem_singleton.mpr rfl)
  unfold rel at this
  have z := of_decide_eq_true z
  omega
 ·rintro ⟨a, b⟩
  refine ⟨a, pairwise_singleton _ _, fun x hx y hy => ?_⟩
  rw [List.mem_singleton.mp hy]
  rw [Bool.not_eq_true', any_eq_false] at b
  have := b x hx
  unfold rel
  have this : ¬ s <= -(gn k (row.getD e 0) x) := fun z => this (decide_eq_true z)
  omega
theorem L3 (k : Bool) (s : Int) (hs : 1 <= s) (row : List Int) (c : Nat) (h : c < row.length) : 1 <= fbs k s (row.drop c) := by
 rw [zw3 row c h]
 show 1 <= fb k s (row.getD c 0) (row.getD c 0 :: row.drop (c + 1))
 rw [yk7 k s _ _ hs]
 omega
theorem xd1 (k : Bool) (s : Int) : ∀ (r : List Int) (b : Int), fb k s b r <= r.length
 | [], b => Nat.le_refl _
 | x :: r, b => by
  rw [fb]
  split
  ·exact Nat.zero_le _
  ·have := xd1 k s r (if 0 < gn k x b then x else b); rw [length_cons]; omega
theorem xy5 (k : Bool) (s : Int) (r : List Int) : fbs k s r <= r.length := by
 cases r with
 | nil => exact Nat.le_refl _
 | cons x r => exact xd1 k s _ _
def envQ (row : List Int) (s fall rise : Int) (k0 k : Bool) (cs : List Nat) (c : Nat) : Ro := [some (.sh (.lst (row.map .int))), some (.sh (.int s)), some (.sh (.int fall)), some (.sh (.int rise)), some (.sh (.str (kd k0))), some (.sh (.str (kd k))), some (.own ((NI cs).map .int)), some (.sh (.int (c : Int)))]
theorem xr2 (row : List Int) (s : Int) (hr : row.length <= 300) (fall rise : Int) (k0 k : Bool) (cs : List Nat) (c : Nat) (hc : c < row.length) (hl : cs.length <= c) :
  A7 (envQ row s fall rise k0 k cs c) = some (.nx (envQ row s fall rise k0 (!k) (cs ++ [c]) (c + fbs k s (row.drop c)))) := by
 have big := u7
 unfold A7
 refine seqI (ρ' := envQ row s fall rise k0 k (cs ++ [c]) c) ?_ ?_
 ·have l2 : ((NI cs).map D.int).length < sizeLine := by unfold NI; simp; omega
  unfold envQ
  simp_arith [l2, if_true]
  unfold NI
  simp
 have hfb : t7 ze3 (z8 (mvar 0) (z8 (mvar 1) (z8 (mvar 5) (z8 (mvar 7) anil)))) (envQ row s fall rise k0 k (cs ++ [c]) c) = some (.int ((c + fbs k s (row.drop c) : Nat) : Int)) :=
  v6 (z7 (d := .lst (row.map .int)) rfl (z7 (d := .int s) rfl (z7 (d := .str (kd k)) rfl (z7 (d := .int (c : Int)) rfl y6)))) (U9 row s k c (by omega) (by omega))
 refine seqI (ρ' := envQ row s fall rise k0 k (cs ++ [c]) (c + fbs k s (row.drop c))) ((S7 hfb).trans rfl) ?_
 unfold envQ
 simp_arith [xk1]
theorem A9 (row : List Int) (s : Int) (hs : 1 <= s) (hr : row.length <= 300) (fall rise : Int) (k0 : Bool) : ∀ (f : Nat) (k : Bool) (cs : List Nat) (c : Nat), row.length - c < f -> cs.length <= c ->
  ∃ k' c', K2 (v3 (m2 ltD (mvar 7) (mlen (bvar 0)))) A7 f (envQ row s fall rise k0 k cs c) = some (.nx (envQ row s fall rise k0 k' (cs ++ N7 s row f k c) c'))
 | 0, _, _, _, h, _ => by omega
 | f + 1, k, cs, c, h, hl => by
  have ht : v3 (m2 ltD (mvar 7) (mlen (bvar 0))) (envQ row s fall rise k0 k cs c) = some (decide ((c : Int) < (row.length : Int))) := ya3 rfl (by unfold envQ; simp_arith [length_map])
  unfold K2
  rw [ht]
  by_cases hc : c < row.length
  ·have hci : ((c : Int) < (row.length : Int)) := by omega
   simp only [hci, decide_true]
   rw [xr2 row s hr fall rise k0 k cs c hc hl]
   have hp := L3 k s hs row c hc
   obtain ⟨k', c', e⟩ := A9 row s hs hr fall rise k0 f (!k) (cs ++ [c]) (c + fbs k s (row.drop c)) (by omega) (by simp; omega)
   refine ⟨k', c', ?_⟩
   simp only
   rw [e, N7, if_pos hc]
   simp
  ·have hci : ¬ ((c : Int) < (row.length : Int)) := by omega
   simp only [hci, decide_false]
   refine ⟨k, c, ?_⟩
   rw [N7, if_neg hc, append_nil]
def N6 (s : Int) (row : List Int) : Nat := fbs true s row
def N3 (s : Int) (row : List Int) : Nat := fbs false s row
def W0 (s : Int) (row : List Int) : Bool := !decide (N6 s row < N3 s row)
def cut0 (s : Int) (row : List Int) : Nat := min (N6 s row) (N3 s row)
def Z7 (s : Int) (row : List Int) : List Nat := N7 s row 1000 (W0 s row) (cut0 s row)
theorem zm1 (row : List Int) (s : Int) (hs : 1 <= s) (hr : row.length <= 300) : ze2 [.lst (row.map .int), .int s] = some (.sh (.tup [.str (kd (W0 s row)), .lst ((NI (Z7 s row)).map .int)])) := by
 unfold ze2 xo1
 refine K4 ?_
 ((apply u6; focus (simp_arith [d6 s hs]; rfl)))
 have f1 := U9 row s true 0 (Nat.zero_le _) (by omega)
 have f2 := U9 row s false 0 (Nat.zero_le _) (by omega)
 rw [drop_zero, Nat.zero_add] at f1 f2
 refine u6 ((S7 (v6 (z7 (d := .lst (row.map .int)) rfl (z7 (d := .int s) rfl (z7 (d := .str (kd true)) rfl (z7 (d := .int ((0 : Nat) : Int)) rfl y6)))) f1)).trans rfl) ?_
 refine u6 (ρ' := [some (.sh (.lst (row.map .int))), some (.sh (.int s)), some (.sh (.int (N6 s row : Int))), some (.sh (.int (N3 s row : Int))), none, none, none, none]) ((S7 (v6 (z7 (d := .lst (row.map .int)) rfl (z7 (d := .int s) rfl (z7 (d := .str (kd false)) rfl (z7 (d := .int ((0 : Nat) : Int)) rfl y6)))) f2)).trans rfl) ?_
 refine u6 (ρ' := [some (.sh (.lst (row.map .int))), some (.sh (.int s)), some (.sh (.int (N6 s row : Int))), some (.sh (.int (N3 s row : Int))), some (.sh (.str (kd (W0 s row)))), none, none, none]) ?_ ?_
 ·by_cases h : N6 s row < N3 s row
  ·have hi : (N6 s row : Int) < (N3 s row : Int) := by omega
   have hk : W0 s row = false := by unfold W0; simp [h]
   rw [hk]
   simp_arith [hi, decide_true]
   rfl
  ·have hi : ¬ (N6 s row : Int) < (N3 s row : Int) := by omega
   have hk : W0 s row = true := by unfold W0; simp [h]
   rw [hk]
   simp_arith [hi, decide_false]
   rfl
 ((apply u6; focus (simp_arith []; rfl)))
 have i0 : 0 <= sizeLine := Nat.zero_le _
 ((apply u6; focus (simp_arith [i0, if_true]; rfl)))
 refine u6 (ρ' := envQ row s (N6 s row) (N3 s row) (W0 s row) (W0 s row) [] (cut0 s row)) ?_ ?_
 ·have hm : min (N6 s row : Int) (N3 s row : Int) = ((cut0 s row : Nat) : Int) := by unfold cut0; omega
  simp_arith [xy1, hm]
  rfl
 obtain ⟨k', c', e⟩ := A9 row s hs hr (N6 s row) (N3 s row) (W0 s row) 1000 (W0 s row) [] (cut0 s row) (by omega) (by simp)
 refine u6 e ?_
 unfold yx3
 refine g6 (ds := (NI (Z7 s row)).map .int) rfl ?_
 refine ⟨_, ?_, rfl⟩
 have i2 : 0 + 1 + 1 <= sizeLine := u0 (by decide)
 unfold envQ
 simp_arith [i2, if_true, Z7, nil_append]
section
variable {x y : Nat -> Int} {n k : Nat} {s t : Int}
end
section
variable {x y : Nat -> Int} {n k : Nat} {s t : Int}
end
theorem zw8 (s : Int) (row : List Int) (f : Nat) (k : Bool) (c : Nat) (h : row.length <= c) : N7 s row f k c = [] := by
 cases f with
 | zero => rfl
 | succ f => rw [N7, if_neg (by omega)]
theorem R9 (s : Int) (d : Bool) (a b : Int) : far s d a b ↔ s <= gn d b a := by
 unfold far gn; cases d <;> simp
theorem D7 (d : Bool) (a b : Int) : gn (!d) a b = -(gn d a b) := by
 unfold gn; cases d <;> simp <;> omega
theorem F9 (row : List Int) (st e p : Nat) (h1 : st <= p) (h2 : p < e) (h3 : e <= row.length) : (seg row (st, e))[p - st]? = some (xr row p) := by
 unfold seg
 show ((row.take e).drop st)[p - st]? = some (row.getD p 0)
 rw [getElem?_drop, show st + (p - st) = p by omega, getElem?_take_of_lt h2, getD_eq_getElem?_getD, getElem?_eq_getElem (by omega)]
 rfl
theorem S4 {k : Bool} {s : Int} {row : List Int} {st e p q : Nat} (h : pr k s (seg row (st, e)) = true) (h1 : st <= p) (h2 : p < q) (h3 : q < e) (h4 : e <= row.length) : ¬ far s (!k) (xr row p) (xr row q) := by
 rw [zt3, pairwise_iff_getElem] at h
 have a := F9 row st e p h1 (by omega) h4
 have b := F9 row st e q (by omega) h3 h4
 obtain ⟨ha, ea⟩ := List.getElem?_eq_some_iff.mp a
 obtain ⟨hb, eb⟩ := List.getElem?_eq_some_iff.mp b
 have := h (p - st) (q - st) ha hb (by omega)
 rw [ea, eb] at this
 unfold rel at this
 rw [R9, D7]
 omega
theorem T9 (row : List Int) (s : Int) : ∀ (cs : List Nat) (k : Bool) (st : Nat) (d : Bool) (p : Nat) (l : List Nat), rise row.length st cs -> alt s row k st cs = true -> st <= p -> Wd (xr row) row.length s d (p :: l) -> (p :: l).length <= cs.length + 1 + (if d = k then 1 else 0)
 | [], k, st, d, p, l, hr, h, hp, hw => by
  have h : pr k s (seg row (st, row.length)) = true := h
  cases l with
  | nil => simp
  | cons q l =>
   have hq := hw.2.2.lt
   by_cases e : d = k
   ·rw [if_pos e]
    cases l with
    | nil => simp
    | cons r l =>
     exfalso
     have h2 := hw.2.2
     rw [e] at h2
     exact S4 h (by have := hw.1; omega) h2.1 h2.2.2.lt (Nat.le_refl _) h2.2.1
   ·exfalso
    have e2 : d = !k := by cases d <;> cases k <;> simp_all
    rw [e2] at hw
    exact S4 h hp hw.1 hq (Nat.le_refl _) hw.2.1
 | c :: cs, k, st, d, p, l, hr, h, hp, hw => by
  obtain ⟨r1, r2, r3⟩ := hr
  have h : (pr k s (seg row (st, c)) && alt s row (!k) c cs) = true := h
  rw [Bool.and_eq_true] at h
  obtain ⟨h1, h2⟩ := h
  rcases Nat.lt_or_ge p c with z | z
  ·cases l with
   | nil => simp; omega
   | cons q l =>
    by_cases e : d = k
    ·rw [if_pos e]
     rcases Nat.lt_or_ge q c with w | w
     ·cases l with
      | nil => simp
      | cons r l =>
       have hw2 := hw.2.2
       have hrc : c <= r := by
        rcases Nat.lt_or_ge r c with y | y
        ·exfalso
         rw [e] at hw2
         exact S4 h1 (by have := hw.1; omega) hw2.1 y (by omega) hw2.2.1
        ·exact y
       have := T9 row s cs (!k) c (!(!d)) r l r3 h2 hrc hw2.2.2
       rw [e, Bool.not_not, if_neg (by cases k <;> simp)] at this
       simp only [length_cons] at this ⊢
       omega
     ·have := T9 row s cs (!k) c (!d) q l r3 h2 w hw.2.2
      rw [e, if_pos rfl] at this
      simp only [length_cons] at this ⊢
      omega
    ·have e2 : d = !k := by cases d <;> cases k <;> simp_all
     have hqc : c <= q := by
      rcases Nat.lt_or_ge q c with y | y
      ·exfalso
       rw [e2] at hw
       exact S4 h1 hp hw.1 y (by omega) hw.2.1
      ·exact y
     have := T9 row s cs (!k) c (!d) q l r3 h2 hqc hw.2.2
     rw [e2, Bool.not_not, if_neg (by cases k <;> simp)] at this
     rw [if_neg e]
     simp only [length_cons] at this ⊢
     omega
  ·have := T9 row s cs (!k) c d p l r3 h2 z hw
   simp only [length_cons] at this ⊢
   split at this <;> split <;> omega
theorem zf2 (row : List Int) (s : Int) (k : Bool) (cs : List Nat) (hr : rise row.length 0 cs) (h1 : pr (!k) s (row.take (ent row.length cs)) = true) (h2 : alt s row k 0 cs.tail = true) {l : List Nat} (h : Wv (xr row) row.length s l) : l.length <= cs.length + 1 := by
 rcases h with rfl | ⟨d, h⟩
 ·simp
 ·cases l with
  | nil => exact h.elim
  | cons p l =>
   cases cs with
   | nil =>
    have b := T9 row s [] k 0 d p l True.intro h2 (Nat.zero_le _) h
    cases l with
    | nil => simp
    | cons q l =>
     exfalso
     have hq := h.2.2.lt
     have h1 : pr (!k) s (seg row (0, row.length)) = true := h1
     have h2 : pr k s (seg row (0, row.length)) = true := h2
     by_cases e : d = k
     ·rw [e] at h
      have := S4 h1 (Nat.zero_le _) h.1 hq (Nat.le_refl _)
      rw [Bool.not_not] at this
      exact this h.2.1
     ·have e2 : d = !k := by cases d <;> cases k <;> simp_all
      rw [e2] at h
      exact S4 h2 (Nat.zero_le _) h.1 hq (Nat.le_refl _) h.2.1
   | cons c cs =>
    obtain ⟨r1, r2, r3⟩ := hr
    have r4 : rise row.length 0 cs := by
     cases cs with
     | nil => exact True.intro
     | cons c2 cs => exact ⟨by have := r3.1; omega, r3.2.1, r3.2.2⟩
    have b := T9 row s cs k 0 d p l r4 h2 (Nat.zero_le _) h
    simp only [length_cons] at b ⊢
    split at b <;> omega
theorem zc4 {k : Bool} {s : Int} {row : List Int} {st e : Nat} (h : brk k s row st e = true) (h2 : e <= row.length) : ∃ j, st <= j /\ j < e /\ far s (!k) (xr row j) (xr row e) := by
 unfold brk at h
 obtain ⟨x, hx, hd⟩ := List.any_eq_true.mp h
 have hd := of_decide_eq_true hd
 obtain ⟨i, hi, ei⟩ := getElem_of_mem hx
 have hl : (seg row (st, e)).length = e - st := by unfold seg; simp; omega
 have g := F9 row st e (st + i) (by omega) (by omega) h2
 rw [show st + i - st = i by omega, getElem?_eq_getElem hi, ei] at g
 cases g
 refine ⟨st + i, by omega, by omega, ?_⟩
 rw [R9, D7]
 exact hd
theorem zd3 (k : Bool) (s : Int) (hs : 1 <= s) (row : List Int) (c e : Nat) (hc : c < row.length) (he : c + fbs k s (row.drop c) = e) (hn : e < row.length) : c < e /\ pr k s (seg row (c, e)) = true /\ brk k s row c e = true := by
 have hp := L3 k s hs row c hc
 have a := ys7 k s hs row c e (by omega) (by omega)
 have b := ys7 k s hs row c (e + 1) (by omega) (by omega)
 rw [he, decide_eq_false (show ¬ ((e : Nat) : Int) < (e : Int) by omega)] at a
 rw [he, decide_eq_true (show ((e : Nat) : Int) < ((e + 1 : Nat) : Int) by omega), xu4 k s row c e (by omega) hn] at b
 cases h : pr k s (seg row (c, e)) with
 | false => rw [h] at a; cases a
 | true =>
  rw [h] at b
  cases h2 : brk k s row c e with
  | false => rw [h2] at b; cases b
  | true => exact ⟨by omega, rfl, rfl⟩
theorem xj6 (row : List Int) (s : Int) (hs : 1 <= s) : ∀ (f : Nat) (k : Bool) (c p : Nat), p < c -> c < row.length -> far s k (xr row p) (xr row c) -> ∃ l, Wd (xr row) row.length s k (p :: l) /\ l.length = (N7 s row f k c).length
 | 0, k, c, p, h1, h2, h3 => ⟨[], show p < row.length by omega, rfl⟩
 | f + 1, k, c, p, h1, h2, h3 => by
  rw [N7, if_pos h2]
  generalize he : c + fbs k s (row.drop c) = e
  rcases Nat.lt_or_ge e row.length with z | z
  ·obtain ⟨g1, g2, g3⟩ := zd3 k s hs row c e h2 he z
   obtain ⟨j0, j1, j2, j3⟩ := zc4 g3 (by omega)
   have : ∃ j, c <= j /\ j < e /\ far s (!k) (xr row j) (xr row e) /\ far s k (xr row p) (xr row j) := by
    rw [R9, D7] at j3
    rw [R9] at h3
    by_cases w : 0 <= gn k (xr row j0) (xr row c)
    ·refine ⟨j0, j1, j2, by rw [R9, D7]; exact j3, ?_⟩
     rw [R9]
     unfold gn at *
     cases k <;> simp at * <;> omega
    ·refine ⟨c, Nat.le_refl _, g1, ?_, by rw [R9]; exact h3⟩
     rw [R9, D7]
     unfold gn at *
     cases k <;> simp at * <;> omega
   obtain ⟨j, q1, q2, q3, q4⟩ := this
   obtain ⟨l, hl, el⟩ := xj6 row s hs f (!k) e j q2 z q3
   exact ⟨j :: l, ⟨by omega, q4, hl⟩, by simp [el]⟩
  ·rw [zw8 s row f _ e z]
   exact ⟨[c], ⟨h1, h3, h2⟩, rfl⟩
theorem yr7 (row : List Int) (s : Int) (hs : 1 <= s) (hn : row ≠ []) : ∃ l, Wv (xr row) row.length s l /\ l.length = (Z7 s row).length + 1 := by
 have hp : 0 < row.length := List.length_pos_iff.mpr hn
 by_cases h : cut0 s row < row.length
 ·have fe : ∀ k, (if k then N3 s row else N6 s row) = cut0 s row -> ∃ j, j < cut0 s row /\ far s k (xr row j) (xr row (cut0 s row)) := by
   intro k hk
   have e : 0 + fbs (!k) s (row.drop 0) = cut0 s row := by
    rw [<- hk, drop_zero, Nat.zero_add]
    cases k <;> rfl
   obtain ⟨_, _, g3⟩ := zd3 (!k) s hs row 0 _ hp e h
   obtain ⟨j, _, j2, j3⟩ := zc4 g3 (by omega)
   rw [Bool.not_not] at j3
   exact ⟨j, j2, j3⟩
  have hk : (if W0 s row then N3 s row else N6 s row) = cut0 s row := by
   unfold W0 cut0
   by_cases w : N6 s row < N3 s row
   ·rw [decide_eq_true w]; simp; omega
   ·rw [decide_eq_false w]; simp; omega
  obtain ⟨j, j1, j2⟩ := fe _ hk
  obtain ⟨l, hl, el⟩ := xj6 row s hs 1000 (W0 s row) (cut0 s row) j j1 h j2
  exact ⟨j :: l, .inr ⟨_, hl⟩, by simp only [length_cons]; rw [el]; rfl⟩
 ·refine ⟨[0], .inr ⟨true, hp⟩, ?_⟩
  unfold Z7
  rw [zw8 s row _ _ _ (by omega)]; rfl
theorem zg6 {k : Bool} {s : Int} {row : List Int} {st e : Nat} (h4 : e <= row.length) (h : ∀ p q, st <= p -> p < q -> q < e -> ¬ far s (!k) (xr row p) (xr row q)) : pr k s (seg row (st, e)) = true := by
 rw [zt3, pairwise_iff_getElem]
 have hl : (seg row (st, e)).length = e - st := by unfold seg; simp; omega
 intro i j hi hj hij
 have a := F9 row st e (st + i) (by omega) (by omega) h4
 have b := F9 row st e (st + j) (by omega) (by omega) h4
 rw [show st + i - st = i by omega, getElem?_eq_getElem hi] at a
 rw [show st + j - st = j by omega, getElem?_eq_getElem hj] at b
 have := h (st + i) (st + j) (by omega) (by omega) (by omega)
 rw [R9, D7, <- Option.some.inj a, <- Option.some.inj b] at this
 unfold rel
 omega
theorem zr5 (k : Bool) (s : Int) (hs : 1 <= s) (row : List Int) (c e : Nat) (hc : c <= e) (he : e <= row.length) (hn : e <= c + fbs k s (row.drop c)) : pr k s (seg row (c, e)) = true := by
 have a := ys7 k s hs row c e hc he
 rw [decide_eq_false (by omega)] at a
 cases h : pr k s (seg row (c, e)) with
 | true => rfl
 | false => rw [h] at a; cases a
theorem zs5 (s : Int) (hs : 1 <= s) (row : List Int) : ∀ (f : Nat) (k : Bool) (l c : Nat), l < c -> rise row.length l (N7 s row f k c)
 | 0, _, _, _, _ => True.intro
 | f + 1, k, l, c, h => by
  rw [N7]
  split
  ·rename_i hc
   have := L3 k s hs row c hc
   exact ⟨h, hc, zs5 s hs row f _ c _ (by omega)⟩
  ·exact True.intro
theorem zi4 (s : Int) (hs : 1 <= s) (row : List Int) : ∀ (f : Nat) (k : Bool) (st c : Nat), row.length - c < f -> st <= c -> pr k s (seg row (st, min c row.length)) = true -> alt s row k st (N7 s row f (!k) c) = true
 | 0, _, _, _, h, _, _ => by omega
 | f + 1, k, st, c, h, hst, hp => by
  rw [N7]
  split
  ·rename_i hc
   have hpos := L3 (!k) s hs row c hc
   rw [Nat.min_eq_left (by omega)] at hp
   show (pr k s (seg row (st, c)) && alt s row (!k) c (N7 s row f (!(!k)) (c + fbs (!k) s (row.drop c)))) = true
   rw [hp, Bool.true_and]
   exact zi4 s hs row f (!k) c _ (by omega) (by omega) (zr5 _ s hs row c _ (by omega) (by omega) (by omega))
  ·rename_i hc
   rw [Nat.min_eq_right (by omega)] at hp
   exact hp
theorem zm0 (row : List Int) (s : Int) (hs : 1 <= s) (hr : row.length <= 300) : rise row.length 0 (Z7 s row) /\ pr (!(W0 s row)) s (row.take (ent row.length (Z7 s row))) = true /\ alt s row (W0 s row) 0 (Z7 s row).tail = true := by
 have hfl : N6 s row <= row.length := xy5 _ _ _
 have hrl : N3 s row <= row.length := xy5 _ _ _
 have fk : ∀ k, fbs k s (row.drop 0) = if k then N6 s row else N3 s row := by intro k; rw [drop_zero]; cases k <;> rfl
 have near : ∀ k, pr k s (seg row (0, cut0 s row)) = true := fun k => zr5 k s hs row 0 _ (Nat.zero_le _) (by unfold cut0; omega) (by rw [fk k]; unfold cut0; cases k <;> simp <;> omega)
 by_cases h : cut0 s row < row.length
 ·have hp : 0 < row.length := by omega
  have e : Z7 s row = cut0 s row :: N7 s row 999 (!(W0 s row)) (cut0 s row + fbs (W0 s row) s (row.drop (cut0 s row))) := by
   unfold Z7
   rw [show (1000 : Nat) = 999 + 1 from rfl, N7, if_pos h]
  have c0 : 0 < cut0 s row := by
   have a := L3 true s hs row 0 hp
   have b := L3 false s hs row 0 hp
   rw [fk] at a b
   unfold cut0
   simp at a b
   omega
  have hk : fbs (!(W0 s row)) s (row.drop 0) = cut0 s row := by
   rw [fk]
   unfold W0 cut0
   by_cases w : N6 s row < N3 s row
   ·rw [decide_eq_true w]; simp; omega
   ·rw [decide_eq_false w]; simp; omega
  obtain ⟨_, _, g3⟩ := zd3 (!(W0 s row)) s hs row 0 (cut0 s row) hp (by rw [hk]; omega) h
  obtain ⟨j, _, j2, j3⟩ := zc4 g3 (by omega)
  rw [Bool.not_not] at j3
  have nn := (yx1 s hs (seg row (0, cut0 s row))).mp ⟨(zt3 _ _ _).mp (near true), (zt3 _ _ _).mp (near false)⟩
  have mem : ∀ p, p < cut0 s row -> xr row p ∈ seg row (0, cut0 s row) := fun p hp => mem_of_getElem? (F9 row 0 (cut0 s row) p (Nat.zero_le _) hp (by omega))
  generalize hkk : W0 s row = k at *
  generalize hc1 : cut0 s row = c1 at *
  have hpos := L3 k s hs row c1 h
  have p2 : pr k s (seg row (c1, min (c1 + fbs k s (row.drop c1)) row.length)) = true := zr5 k s hs row c1 _ (by omega) (by omega) (by omega)
  have p3 : pr k s (seg row (0, min (c1 + fbs k s (row.drop c1)) row.length)) = true := by
   refine zg6 (by omega) fun p q _ hpq hq hf => ?_
   rcases Nat.lt_or_ge q c1 with z | z
   ·exact S4 (near k) (Nat.zero_le _) hpq z (by omega) hf
   ·rcases Nat.lt_or_ge p c1 with y | y
    ·have n1 := nn _ (mem p y) _ (mem j j2)
     have n2 := nn _ (mem j j2) _ (mem p y)
     rw [R9, D7] at hf
     rw [R9] at j3
     rcases Nat.lt_or_ge c1 q with x | x
     ·have := S4 p2 (Nat.le_refl _) x hq (by omega)
      rw [R9, D7] at this
      unfold gn at *
      cases k <;> simp at * <;> omega
     ·have : q = c1 := by omega
      subst this
      unfold gn at *
      cases k <;> simp at * <;> omega
    ·exact S4 p2 y hpq hq (by omega) hf
  rw [e]
  refine ⟨⟨c0, h, zs5 s hs row _ _ _ _ (by omega)⟩, near (!k), ?_⟩
  exact zi4 s hs row 999 k 0 _ (by omega) (by omega) p3
 ·have e : Z7 s row = [] := zw8 s row _ _ _ (by omega)
  have ec : cut0 s row = row.length := by unfold cut0 at *; omega
  rw [ec] at near
  rw [e]
  exact ⟨True.intro, near _, near _⟩
abbrev BW (row : List Int) (s : Int) : List Nat -> Prop := Best (Wv (xr row) row.length s)
theorem xc4 {row : List Int} {s : Int} {l : List Nat} (h : BW row s l) (hn : row.isEmpty = true) : l.length = 0 := by
 have : row = [] := by simpa using hn
 subst this
 rcases h.1 with rfl | ⟨d, hd⟩
 ·rfl
 ·cases l with
  | nil => rfl
  | cons p l => have := hd.lt; simp at this
theorem yw1 {row : List Int} {s : Int} (hs : 1 <= s) (hr : row.length <= 300) {l : List Nat} (h : BW row s l) : (if row.isEmpty then 0 else 1 + (((NI (Z7 s row)).length : Nat) : Int)) = (l.length : Int) := by
 have en : (NI (Z7 s row)).length = (Z7 s row).length := by unfold NI; simp
 rw [en]
 cases hn : row.isEmpty with
 | true => rw [xc4 h hn]; rfl
 | false =>
  have hne : row ≠ [] := by intro z; rw [z] at hn; cases hn
  obtain ⟨a, b, c⟩ := zm0 row s hs hr
  have u := zf2 row s _ _ a b c h.1
  obtain ⟨m, hm, em⟩ := yr7 row s hs hne
  have v := h.len m hm
  simp only [Bool.false_eq_true, if_false]
  omega
end
section
open PySem L2
theorem g4 {f : D -> D -> Option D} {x y : ME} {ρ : Ro} {a b : D} (h1 : x ρ = some a) (h2 : y ρ = some b) : m2 f x y ρ = f a b := by
 unfold m2; rw [h1, h2]; rfl
theorem yy1 {α : Type} (f : Nat -> α) (j : Nat) : (List.range (j + 1)).map f = (List.range j).map f ++ [f j] := by
 rw [range_succ, map_append]; rfl
def abv (row : List Int) (s : Int) (d : Bool) (p : Nat) : List Nat := ((List.range (row.length - (p + 1))).map fun j => p + 1 + j).filter fun q => decide (far s d (xr row p) (xr row q))
theorem abv_mem {row : List Int} {s : Int} {d : Bool} {p q : Nat} : q ∈ abv row s d p ↔ p < q /\ q < row.length /\ far s d (xr row p) (xr row q) := by
 unfold abv
 rw [mem_filter, mem_map, decide_eq_true_eq]
 constructor
 ·rintro ⟨⟨j, hj, rfl⟩, h⟩
  have := List.mem_range.mp hj
  exact ⟨by omega, by omega, h⟩
 ·rintro ⟨h1, h2, h3⟩
  exact ⟨⟨q - (p + 1), List.mem_range.mpr (by omega), by omega⟩, h3⟩
theorem zv1 (row : List Int) (s : Int) (d : Bool) (p : Nat) : (abv row s d p).length <= row.length := by
 unfold abv
 refine Nat.le_trans (length_filter_le _ _) ?_
 rw [length_map, length_range]; omega
def zj9 (row : List Int) (s : Int) (A B : List (List Nat)) (o4 o5 : Option S) : Ro := [some (.sh (.lst (row.map .int))), some (.sh (.int s)), some (.own (A.map L)), some (.own (B.map L)), o4, o5]
theorem yg4 (row : List Int) (p : Nat) (hr : row.length <= 300) (hp : p < row.length) : T2 ((p : Int) + 1) ((row.length : Int) - ((p : Int) + 1)).toNat = ((List.range (row.length - (p + 1))).map fun j => p + 1 + j).map dN := by
 rw [T1, show ((row.length : Int) - ((p : Int) + 1)).toNat = row.length - (p + 1) by omega, map_map]
 apply map_congr_left
 intro i _
 show D.int _ = D.int _
 congr 1
theorem yx9 (row : List Int) (s : Int) (d : Bool) (p : Nat) (hr : row.length <= 300) (hp : p < row.length) (A B : List (List Nat)) (test : MB)
  (ht : ∀ q : Nat, q < row.length -> test [some (.sh (dN q)), some (.sh (.int s)), some (.sh (.int (xr row p))), some (.sh (.lst (row.map .int)))] = some (decide (far s d (xr row p) (xr row q)))) :
  V0 [none, some 1, some 5, some 0] (j8 rng2 (z8 (m2 addD (mvar 4) (mc (.int 1))) (z8 (mlen (bvar 0)) anil))) (.nm 0) test (mvar 0) (zj9 row s A B (some (.sh (.int (p : Int)))) (some (.sh (.int (xr row p))))) = some ((abv row s d p).map dN) := by
 have k1 : okR ((p : Int) + 1) = true := T6 (by omega) (by omega)
 have k2 : okR (row.length : Int) = true := T6 (by omega) (by omega)
 have e1 : j8 rng2 (z8 (m2 addD (mvar 4) (mc (.int 1))) (z8 (mlen (bvar 0)) anil)) (zj9 row s A B (some (.sh (.int (p : Int)))) (some (.sh (.int (xr row p))))) = some (((List.range (row.length - (p + 1))).map fun j => p + 1 + j).map dN) := by
  unfold zj9
  simp_arith [length_map, zg3 k1 k2, yg4 row p hr hp]
 unfold V0
 rw [e1, Option.bind_some]
 show V4 _ _ _ _ [none, some (.sh (.int s)), some (.sh (.int (xr row p))), some (.sh (.lst (row.map .int)))] [] = _
 rw [U5 (f := dN) (p := fun q => decide (far s d (xr row p) (xr row q))) (G := dN) (fun qs ρ => (∀ q ∈ qs, q < row.length) /\ ∃ o, ρ = [o, some (.sh (.int s)), some (.sh (.int (xr row p))), some (.sh (.lst (row.map .int)))])
  (by
   rintro q qs ρ ⟨hq, o, rfl⟩
   exact ⟨_, rfl, ht q (hq q (by simp)), fun _ => rfl, fun r hr => hq r (by simp [hr]), _, rfl⟩) _ _ [] ⟨fun q hq => by
    obtain ⟨j, hj, rfl⟩ := List.mem_map.mp hq
    have := List.mem_range.mp hj
    omega, _, rfl⟩ (u0 (by simp; omega)), nil_append]
 rfl
theorem M3 (row : List Int) (s : Int) (hr : row.length <= 300) : ym1 [.lst (row.map .int), .int s] = some (.sh (.tup [.lst (((List.range row.length).map (abv row s true)).map L), .lst (((List.range row.length).map (abv row s false)).map L)])) := by
 unfold ym1 xo3
 refine K4 ?_
 have big := u7
 have i0 : 0 <= sizeLine := Nat.zero_le _
 have i2 : 2 <= sizeLine := u0 (by decide)
 refine u6 (ρ' := [some (.sh (.lst (row.map .int))), some (.sh (.int s)), some (.own []), none, none, none]) (by unfold Y6; rw [t5 y6 i0]; rfl) ?_
 refine u6 (ρ' := zj9 row s [] [] none none) (by unfold Y6; rw [t5 y6 i0]; rfl) ?_
 have ee : j8 zd5 (z8 (mvar 0) anil) (zj9 row s [] [] none none) = some ((List.range row.length).map fun (i : Nat) => D.tup [.int (i : Int), .int (xr row i)]) := by
  unfold j8
  rw [z7 (x := mvar 0) (d := .lst (row.map .int)) rfl y6, Option.bind_some]
  show some (zw2 0 (row.map .int)) = _
  rw [zw1]
  congr 1
  apply map_congr_left
  intro i _
  rw [Nat.zero_add]
 refine U0 (O4 row.length (f := fun (i : Nat) => D.tup [.int (i : Int), .int (xr row i)]) ee
  (I := fun j ρ => ∃ o4 o5, ρ = zj9 row s ((List.range j).map (abv row s true)) ((List.range j).map (abv row s false)) o4 o5) _ ⟨_, _, rfl⟩ ?_ ?_)
 ·rintro j ρ hj ⟨o4, o5, rfl⟩
  refine ⟨zj9 row s ((List.range j).map (abv row s true)) ((List.range j).map (abv row s false)) (some (.sh (.int (j : Int)))) (some (.sh (.int (xr row j)))), rfl, ?_⟩
  unfold yx6
  have aj : ∀ q : Nat, q < row.length -> mix (bvar 3) (mvar 0) [some (.sh (dN q)), some (.sh (.int s)), some (.sh (.int (xr row j))), some (.sh (.lst (row.map .int)))] = some (.int (xr row q)) := fun q hq => W9 rfl rfl (P9 row q hq)
  have c1 := yx9 row s true j hr hj ((List.range j).map (abv row s true)) ((List.range j).map (abv row s false)) (v3 (m2 geD (m2 subD (mix (bvar 3) (mvar 0)) (mvar 2)) (mvar 1))) (fun q hq => by
   rw [zo4 ((g4 (aj q hq) rfl).trans (show subD (.int (xr row q)) (.int (xr row j)) = some (.int (xr row q - xr row j)) from rfl)) rfl]
   unfold far; simp)
  have c2 := yx9 row s false j hr hj ((List.range (j + 1)).map (abv row s true)) ((List.range j).map (abv row s false)) (v3 (m2 geD (m2 subD (mvar 2) (mix (bvar 3) (mvar 0))) (mvar 1))) (fun q hq => by
   rw [zo4 ((g4 (show mvar 2 _ = some (.int (xr row j)) from rfl) (aj q hq)).trans (show subD (.int (xr row j)) (.int (xr row q)) = some (.int (xr row j - xr row q)) from rfl)) rfl]
   unfold far; simp)
  have app : ∀ (ρ : Ro) (i : Nat) (M : List (List Nat)) (m : ML) (l : List Nat), ρ[i]? = some (some (.own (M.map L))) -> m ρ = some (l.map dN) -> M.length < sizeLine -> mapp i (mlst m) ρ = some (.nx (ρ.set i (some (.own ((M ++ [l]).map L))))) := by
   intro ρ i M m l h1 h2 h3
   unfold mapp
   rw [h1, r6 h2]
   show (some (D.lst (l.map dN))).bind (fun d => if (M.map L).length < sizeLine then some (Out.nx (ρ.set i (some (.own (M.map L ++ [d]))))) else none) = _
   rw [Option.bind_some, if_pos (by rw [length_map]; exact h3), map_append]
   rfl
  refine u6 (ρ' := zj9 row s ((List.range (j + 1)).map (abv row s true)) ((List.range j).map (abv row s false)) (some (.sh (.int (j : Int)))) (some (.sh (.int (xr row j))))) ?_ ?_
  ·rw [app _ 2 _ _ _ rfl c1 (by simp; omega), <- yy1]
   rfl
  ·refine ⟨_, app _ 3 _ _ _ rfl c2 (by simp; omega), ?_⟩
   rw [<- yy1]
   exact ⟨_, _, rfl⟩
 ·rintro ρ ⟨o4, o5, rfl⟩
  unfold yx5
  refine g6 (ds := ((List.range row.length).map (abv row s false)).map L) rfl (g6 (ds := ((List.range row.length).map (abv row s true)).map L) rfl ⟨_, W8 (P1 (z7 (d := .lst (((List.range row.length).map (abv row s true)).map L)) rfl (z7 (d := .lst (((List.range row.length).map (abv row s false)).map L)) rfl y6)) i2), rfl⟩)
theorem yh7 (ns : List Nat) : (ns.map fun (k : Nat) => (k : Int)).sum = ((ns.sum : Nat) : Int) := by
 induction ns with
 | nil => rfl
 | cons n ns ih => rw [map_cons, sum_cons, sum_cons, ih]; omega
theorem dns (ns : List Nat) : ns.map dN = (ns.map fun (k : Nat) => (k : Int)).map .int := by rw [map_map]; rfl
theorem yo4 {m : ML} {ρ : Ro} {ns : List Nat} (h : m ρ = some (ns.map dN)) : msum m ρ = some (dN ns.sum) := by
 unfold msum
 rw [h, dns]
 simp only [G2, yh7]
 rfl
end
section
open PySem L2
end
section
open PySem L2
theorem U4 {x : ME} {ρ : Ro} {b : Bool} (h : x ρ = some (.bl b)) : v3 x ρ = some b := by unfold v3; rw [h]
theorem A3 {i : Nat} {x : ML} {ρ : Ro} {ds : List D} (h : x ρ = some ds) : Y6 i x ρ = some (.nx (ρ.set i (some (.own ds)))) := by unfold Y6; rw [h]; rfl
end
section
open PySem L2
def PN (q : Nat × Nat) : D := .tup [dN q.1, dN q.2]
theorem xr5 (ns : List Nat) : ∃ v : Nat, maxI (0 :: ns.map fun (k : Nat) => (k : Int)) = (v : Int) /\ (∀ y ∈ ns, y <= v) /\ (v = 0 \/ v ∈ ns) := by
 have hm : maxI (0 :: ns.map fun (k : Nat) => (k : Int)) ∈ 0 :: ns.map fun (k : Nat) => (k : Int) := yy0 (by simp)
 have hg : ∀ y ∈ ns, (y : Int) <= maxI (0 :: ns.map fun (k : Nat) => (k : Int)) := fun y hy => yn7 (mem_cons_of_mem _ (List.mem_map.mpr ⟨y, hy, rfl⟩))
 generalize maxI (0 :: ns.map fun (k : Nat) => (k : Int)) = w at hm hg
 rcases List.mem_cons.mp hm with h | h
 ·exact ⟨0, by rw [h]; rfl, fun y hy => by have := hg y hy; omega, .inl rfl⟩
 ·obtain ⟨y, hy, e⟩ := List.mem_map.mp h
  exact ⟨y, e.symm, fun z hz => by have := hg z hz; rw [<- e] at this; omega, .inr hy⟩
theorem xd2 (a b : Nat) : eqSD (.int (a : Int)) (.int (b : Int)) = some (.bl (decide (a = b))) := by
 show some (D.bl ((a : Int) == (b : Int))) = _
 by_cases h : a = b
 ·rw [h, beq_self_eq_true, decide_eq_true rfl]
 ·rw [decide_eq_false h, beq_eq_false_iff_ne.mpr (by omega)]
theorem zj8 {mi : ML} {ρ : Ro} (T : List (Nat × Nat)) (h : mi ρ = some (T.map PN)) (hl : T.length <= 1000) : V0 [none, none] mi (.tp [0, 1]) cyes (mvar 0) ρ = some ((T.map (·.1)).map dN) := by
 have big := u7
 unfold V0
 rw [h, Option.bind_some]
 show V4 _ _ _ _ [none, none] [] = _
 rw [V3 (f := PN) (G := fun q => dN q.1) (fun _ ρ => ∃ x y, ρ = [x, y]) (by
  rintro q qs ρ ⟨x, y, rfl⟩
  exact ⟨[some (.sh (dN q.1)), some (.sh (dN q.2))], rfl, rfl, rfl, _, _, rfl⟩) T _ [] ⟨none, none, rfl⟩ (by simp; omega), nil_append, map_map]
 rfl
theorem zb3 {mi : ML} {ρ : Ro} {i : Nat} (T : List (Nat × Nat)) (v : Nat) (h : mi ρ = some (T.map PN)) (hb : g5 [none, none, some i] ρ = [none, none, some (.sh (dN v))]) (hl : T.length <= 1000) : V0 [none, none, some i] mi (.tp [0, 1]) (v3 (m2 eqSD (mvar 0) (mvar 2))) (mvar 1) ρ = some (((T.filter fun q => decide (q.1 = v)).map (·.2)).map dN) := by
 have big := u7
 unfold V0
 rw [h, Option.bind_some, hb]
 show V4 _ _ _ _ [none, none, some (.sh (dN v))] [] = _
 rw [U5 (f := PN) (p := fun q => decide (q.1 = v)) (G := fun q => dN q.2) (fun _ ρ => ∃ x y, ρ = [x, y, some (.sh (dN v))]) (by
  rintro q qs ρ ⟨x, y, rfl⟩
  exact ⟨[some (.sh (dN q.1)), some (.sh (dN q.2)), some (.sh (dN v))], rfl, U4 ((g4 (a := dN q.1) (b := dN v) rfl rfl).trans (xd2 q.1 v)), fun _ => rfl, _, _, rfl⟩) T _ [] ⟨none, none, rfl⟩ (by simp; omega), nil_append, map_map]
 rfl
theorem D0 (T : List (Nat × Nat)) (hl : T.length <= 300) : ∃ v : Nat, (∀ q ∈ T, q.1 <= v) /\ (v = 0 \/ ∃ q ∈ T, q.1 = v) /\ m_Z6 [.lst (T.map PN)] = some (.sh (PN (v + 1, ((((0, 1) :: T).filter fun q => decide (q.1 = v)).map (·.2)).sum))) := by
 obtain ⟨v, e, g1, g2⟩ := xr5 (T.map (·.1))
 refine ⟨v, fun q hq => g1 _ (List.mem_map.mpr ⟨q, hq, rfl⟩), ?_, ?_⟩
 ·rcases g2 with z | z
  ·exact .inl z
  ·obtain ⟨q, hq, z⟩ := List.mem_map.mp z
   exact .inr ⟨q, hq, z⟩
 have big := u7
 have i2 : 2 <= sizeLine := u0 (by decide)
 have i1 : 1 <= sizeLine := u0 (by decide)
 unfold m_Z6 b_Z6
 refine c8 ?_
 have c1 := P5 (t5 (m := z8 (mtup (z8 (mc (.int 0)) (z8 (mc (.int 1)) anil))) anil) (ρ := u5 3 [.lst (T.map PN)]) (z7 (P1 (z7 (d := .int 0) rfl (z7 (d := .int 1) rfl y6)) i2) y6) i1) (show bvar 0 (u5 3 [.lst (T.map PN)]) = some (T.map PN) from rfl) (by simp; omega)
 refine seqI (ρ' := [some (.sh (.lst (T.map PN))), some (.sh (.lst ((((0, 1) :: T : List (Nat × Nat))).map PN))), none]) ((S7 (r6 c1)).trans rfl) ?_
 have c2 := zj8 (mi := v7 (mvar 1)) (ρ := [some (.sh (.lst (T.map PN))), some (.sh (.lst ((((0, 1) :: T : List (Nat × Nat))).map PN))), none]) ((0, 1) :: T) (p9 rfl) (by simp; omega)
 have c3 := yd1 (x := 0) (r := (T.map (·.1)).map fun (k : Nat) => (k : Int)) (c2.trans (by rw [map_cons, dns]; rfl))
 rw [e] at c3
 refine seqI (ρ' := [some (.sh (.lst (T.map PN))), some (.sh (.lst ((((0, 1) :: T : List (Nat × Nat))).map PN))), some (.sh (dN v))]) ((S7 c3).trans rfl) ?_
 have c4 := yo4 (zb3 (mi := v7 (mvar 1)) (i := 2) (ρ := [some (.sh (.lst (T.map PN))), some (.sh (.lst ((((0, 1) :: T : List (Nat × Nat))).map PN))), some (.sh (dN v))]) ((0, 1) :: T) v (p9 rfl) rfl (by simp; omega))
 have c5 : m2 addD (mvar 2) (mc (.int 1)) [some (.sh (.lst (T.map PN))), some (.sh (.lst ((((0, 1) :: T : List (Nat × Nat))).map PN))), some (.sh (dN v))] = some (dN (v + 1)) := (g4 (a := dN v) (b := .int 1) rfl rfl).trans rfl
 exact W8 (P1 (z7 c5 (z7 c4 y6)) i2)
end
section
open PySem L2
theorem ww3 (T : List (Nat × Nat)) (q : Nat) (h : q < T.length) : atI (T.map PN) (q : Int) = some (PN (T.getD q (0, 0))) := by
 have := zp9 PN T (q : Int) (by omega) (by omega) (0, 0)
 rw [Int.toNat_natCast] at this
 exact this
def envX (row : List Int) (s : Int) (A B : List (Nat × Nat)) (o6 : Option S) : Ro := [some (.sh (.lst (row.map .int))), some (.sh (.int s)), some (.sh (.lst (((List.range row.length).map (abv row s true)).map L))), some (.sh (.lst (((List.range row.length).map (abv row s false)).map L))), some (.own (A.map PN)), some (.own (B.map PN)), o6, none]
theorem xb1 (row : List Int) (s : Int) (d : Bool) (p : Nat) (h : p < row.length) : atI (((List.range row.length).map (abv row s d)).map L) (p : Int) = some (L (abv row s d p)) := by
 have := at_L ((List.range row.length).map (abv row s d)) p (by simp; omega)
 rw [this, getD_eq_getElem?_getD, getElem?_map, getElem?_range h]; rfl
theorem xz0 (i : Nat) (A : List (Nat × Nat)) (p : Nat) (q : Nat × Nat) (x : ME) (ρ : Ro) (hi : ρ[i]? = some (some (.own (A.map PN)))) (hp : mvar 6 ρ = some (.int (p : Int))) (hx : x ρ = some (PN q)) (hlt : p < A.length) : a9 i (mvar 6) x ρ = some (.nx (ρ.set i (some (.own ((A.set p q).map PN))))) := by
 unfold a9
 rw [hx, hi, hp]
 show ((ixN (A.map PN).length (p : Int)).map fun j => Out.nx (ρ.set i (some (.own ((A.map PN).set j (PN q)))))) = _
 rw [length_map, ze7 _ _ hlt]
 show some (Out.nx _) = _
 rw [map_set]
theorem ww0 (a b : Nat) : gtI (dN b) (dN a) = some (decide (a < b)) := by
 show some (decide ((a : Int) < (b : Int))) = _
 congr 1
 apply decide_eq_decide.mpr
 omega
theorem zf9 : ∀ (ns : List Nat) (a : Nat), ∃ v, maxP (ns.map dN) (dN a) = some (dN v) /\ (∀ y ∈ a :: ns, y <= v) /\ v ∈ a :: ns
 | [], a => ⟨a, rfl, by simp, by simp⟩
 | b :: ns, a => by
  rw [map_cons, maxP, ww0]
  by_cases h : a < b
  ·rw [decide_eq_true h]
   obtain ⟨v, e, g1, g2⟩ := zf9 ns b
   refine ⟨v, e, fun y hy => ?_, mem_cons_of_mem _ g2⟩
   rcases List.mem_cons.mp hy with z | z
   ·have := g1 b (by simp); omega
   ·exact g1 y z
  ·rw [decide_eq_false h]
   obtain ⟨v, e, g1, g2⟩ := zf9 ns a
   refine ⟨v, e, fun y hy => ?_, ?_⟩
   ·rcases List.mem_cons.mp hy with z | z
    ·exact g1 y (by simp [z])
    ·rcases List.mem_cons.mp z with z | z
     ·have := g1 a (by simp); omega
     ·exact g1 y (by simp [z])
   ·rcases List.mem_cons.mp g2 with z | z
    ·simp [z]
    ·simp [z]
theorem xr6 (ns : List Nat) : ∃ v, maxE (ns.map dN) (.int 0) = some (dN v) /\ (∀ y ∈ ns, y <= v) /\ (ns = [] /\ v = 0 \/ v ∈ ns) := by
 cases ns with
 | nil => exact ⟨0, rfl, by simp, .inl ⟨rfl, rfl⟩⟩
 | cons a ns =>
  obtain ⟨v, e, g1, g2⟩ := zf9 ns a
  exact ⟨v, e, g1, .inr g2⟩
theorem mmaxE_ev {m : ML} {md : ME} {ρ : Ro} {ds : List D} {d0 : D} (h1 : m ρ = some ds) (h2 : md ρ = some d0) : zk5 m md ρ = maxE ds d0 := by
 unfold zk5
 rw [h1, h2]; rfl
theorem ys0 (n : Nat) : (List.replicate n [D.tup [.int 0, .int 0]]).flatten = ((List.range n).map fun _ => ((0, 0) : Nat × Nat)).map PN := by
 induction n with
 | zero => rfl
 | succ n ih => rw [replicate_succ', flatten_append, ih, range_succ, map_append, map_append]; rfl
theorem zb2 (row : List Int) (hr : row.length <= 300) (ρ : Ro) (h0 : bvar 0 ρ = some (row.map .int)) : mrep (t3 (z8 (mtup (z8 (mc (.int 0)) (z8 (mc (.int 0)) anil))) anil)) (mlen (bvar 0)) ρ = some (((List.range row.length).map fun _ => ((0, 0) : Nat × Nat)).map PN) := by
 have big := u7
 have i2 : 2 <= sizeLine := u0 (by decide)
 have i1 : 1 <= sizeLine := u0 (by decide)
 have rk : zr3 1 (row.length : Int) = true := by
  unfold zr3
  rw [decide_eq_true (by omega), decide_eq_true (by omega), decide_eq_true (by rw [Int.toNat_natCast]; omega)]; rfl
 have el : mlen (bvar 0) ρ = some (.int (row.length : Int)) := by rw [j5 h0, length_map]
 have rp := zf6 (x := t3 (z8 (mtup (z8 (mc (.int 0)) (z8 (mc (.int 0)) anil))) anil)) (ρ := ρ) (t5 (z7 (P1 (z7 (d := .int 0) rfl (z7 (d := .int 0) rfl y6)) i2) y6) i1) el rk
 rw [Int.toNat_natCast, ys0] at rp
 exact rp
def envZ (row : List Int) (s : Int) (A B : List (Nat × Nat)) (o6 o7 : Option S) : Ro := [some (.sh (.lst (row.map .int))), some (.sh (.int s)), some (.sh (.lst (((List.range row.length).map (abv row s true)).map L))), some (.sh (.lst (((List.range row.length).map (abv row s false)).map L))), some (.sh (.lst (A.map PN))), some (.sh (.lst (B.map PN))), o6, o7]
theorem xp5 (row : List Int) (s : Int) (A B : List (Nat × Nat)) (o6 o7 : Option S) (hA : A.length <= 300) (hB : B.length <= 300) : v7 (m2 addD (mvar 4) (mvar 5)) (envZ row s A B o6 o7) = some ((A ++ B).map PN) := by
 have big := u7
 refine p9 ((g4 (a := .lst (A.map PN)) (b := .lst (B.map PN)) rfl rfl).trans ?_)
 show (if (A.map PN).length + (B.map PN).length <= sizeLine then some (D.lst (A.map PN ++ B.map PN)) else none) = _
 rw [if_pos (by rw [length_map, length_map]; omega), map_append]
theorem zb7 {row : List Int} {s : Int} (hr : row.length <= 300) (p : Nat) (hj : p < row.length) (d : Bool) (ia io : Nat) (ρ : Ro) (A : List (Nat × Nat)) (lA : A.length = row.length) (ha : bvar ia ρ = some (((List.range row.length).map (abv row s d)).map L)) (hp : mvar 6 ρ = some (.int (p : Int)))
  (hb : C0 [none, some io] ρ = [none, some (.own (A.map PN))]) : P4 [none, some io] (v7 (mix (bvar ia) (mvar 6))) (.nm 0) cyes (mix (bvar 1) (mvar 0)) ρ = some (((abv row s d p).map fun q => A.getD q (0, 0)).map PN) := by
 have big := u7
 have la := zv1 row s d p
 have ea : v7 (mix (bvar ia) (mvar 6)) ρ = some ((abv row s d p).map dN) := p9 (W9 ha hp (xb1 row s d p hj))
 unfold P4
 rw [ea, Option.bind_some, hb]
 rw [V3 (f := dN) (G := fun q => PN (A.getD q (0, 0))) (fun es ρ => (∀ q ∈ es, q < row.length) /\ ∃ o, ρ = [o, some (.own (A.map PN))]) (fun q es ρ hI => by
  obtain ⟨h, o, rfl⟩ := hI
  exact ⟨[some (.sh (dN q)), some (.own (A.map PN))], rfl, rfl, W9 (ds := A.map PN) (k := (q : Int)) rfl rfl (ww3 _ q (by rw [lA]; exact h q (by simp))), fun z hz => h z (by simp [hz]), _, rfl⟩) (abv row s d p) _ [] ⟨fun q hq => (abv_mem.mp hq).2.1, none, rfl⟩ (by simp; omega), nil_append, map_map]
 rfl
theorem yd5 {row : List Int} {s : Int} (hr : row.length <= 300) (A B : List (Nat × Nat)) (lA : A.length = row.length) (lB : B.length = row.length) (p : Nat) (hp : p < row.length) :
  ∃ A' B' : List (Nat × Nat), A'.length = row.length /\ B'.length = row.length /\ zc6 (envX row s A B (some (.sh (.int (p : Int))))) = some (.nx (envX row s A' B' (some (.sh (.int (p : Int)))))) := by
 unfold zc6
 have jn : ∀ (d : Bool) (C : List (Nat × Nat)), ∃ q, m_Z6 [.lst (((abv row s d p).map fun q => C.getD q (0, 0)).map PN)] = some (.sh (PN q)) := fun d C => by
  obtain ⟨v, _, _, e⟩ := D0 ((abv row s d p).map fun q => C.getD q (0, 0)) (by rw [length_map]; exact Nat.le_trans (zv1 row s d p) hr)
  exact ⟨_, e⟩
 obtain ⟨q1, j1⟩ := jn true B
 have r1 := zb7 (s := s) hr p hp true 2 5 (envX row s A B (some (.sh (.int (p : Int))))) B lB rfl rfl rfl
 have p1 := xz0 4 A p q1 _ (envX row s A B (some (.sh (.int (p : Int))))) rfl rfl (v6 (z7 (r6 r1) y6) j1) (by omega)
 obtain ⟨q2, j2⟩ := jn false (A.set p q1)
 have lA' : (A.set p q1).length = row.length := by rw [length_set, lA]
 have r2 := zb7 (s := s) hr p hp false 3 4 (envX row s (A.set p q1) B (some (.sh (.int (p : Int))))) (A.set p q1) lA' rfl rfl rfl
 have p2 := xz0 5 B p q2 _ (envX row s (A.set p q1) B (some (.sh (.int (p : Int))))) rfl rfl (v6 (z7 (r6 r2) y6) j2) (by omega)
 exact ⟨A.set p q1, B.set p q2, lA', by rw [length_set, lB], seqI (p1.trans rfl) (p2.trans rfl)⟩
theorem yv8 (row : List Int) (s : Int) (hs : 1 <= s) (hr : row.length <= 300) : ∃ d : Int, m_Z0 [.lst (row.map .int), .int s] = some (.sh (.int d)) := by
 have big := u7
 suffices h : Run b_Z0 (u5 8 [.lst (row.map .int), .int s]) (fun o => ∃ d : Int, o = .rt (.int d)) by
  obtain ⟨o, e, d, rfl⟩ := h
  exact ⟨d, by unfold m_Z0; exact c8 e⟩
 unfold b_Z0
 refine u6 (ρ' := [some (.sh (.lst (row.map .int))), some (.sh (.int s)), none, none, none, none, none, none]) ?_ ?_
 ·unfold N5
  rw [v6 (z7 (d := .int s) rfl y6) (d6 s hs)]; rfl
 refine u6 (ρ' := [some (.sh (.lst (row.map .int))), some (.sh (.int s)), some (.sh (.lst (((List.range row.length).map (abv row s true)).map L))), some (.sh (.lst (((List.range row.length).map (abv row s false)).map L))), none, none, none, none]) ?_ ?_
 ·have e := v6 (ρ := [some (.sh (.lst (row.map .int))), some (.sh (.int s)), none, none, none, none, none, none]) (z7 (x := mvar 0) (d := .lst (row.map .int)) rfl (z7 (x := mvar 1) (d := .int s) rfl y6)) (M3 row s hr)
  unfold masg
  rw [e]; rfl
 refine u6 (ρ' := [some (.sh (.lst (row.map .int))), some (.sh (.int s)), some (.sh (.lst (((List.range row.length).map (abv row s true)).map L))), some (.sh (.lst (((List.range row.length).map (abv row s false)).map L))), some (.own (((List.range row.length).map fun _ => ((0, 0) : Nat × Nat)).map PN)), none, none, none]) ((A3 (zb2 row hr _ rfl)).trans rfl) ?_
 refine u6 (ρ' := envX row s ((List.range row.length).map fun _ => (0, 0)) ((List.range row.length).map fun _ => (0, 0)) none) ((A3 (zb2 row hr _ rfl)).trans rfl) ?_
 have k2 : okR (row.length : Int) = true := T6 (by omega) (by omega)
 have ed : zu2 row.length = (List.range row.length).map fun (j : Nat) => D.int ((row.length : Int) - 1 - (j : Int)) := rfl
 refine U0 (O4 row.length (f := fun (j : Nat) => D.int ((row.length : Int) - 1 - (j : Int))) ?_
  (I := fun j ρ => ∃ A B o6, A.length = row.length /\ B.length = row.length /\ ρ = envX row s A B o6) _ ⟨_, _, _, by simp, by simp, rfl⟩ ?_ ?_)
 ·unfold j8
  rw [z7 (x := mlen (bvar 0)) (d := .int ((row.map D.int).length : Int)) (j5 rfl) y6, Option.bind_some, length_map, zg2 k2, Int.toNat_natCast, ed]
 ·intro j ρ hj hI
  obtain ⟨A, B, o6, lA, lB, rfl⟩ := hI
  obtain ⟨A', B', lA', lB', e⟩ := yd5 (s := s) hr A B lA lB (row.length - 1 - j) (by omega)
  refine ⟨envX row s A B (some (.sh (.int ((row.length - 1 - j : Nat) : Int)))), ?_, _, e, A', B', _, lA', lB', rfl⟩
  rw [show (row.length : Int) - 1 - (j : Int) = ((row.length - 1 - j : Nat) : Int) by omega]; rfl
 intro ρ hI
 obtain ⟨A, B, o6, lA, lB, rfl⟩ := hI
 show Run zc5 _ _
 unfold zc5
 refine g6 (ds := A.map PN) rfl (g6 (ds := B.map PN) rfl ?_)
 show Run _ (envZ row s A B o6 none) _
 have eb := fun o7 => xp5 row s A B o6 o7 (by omega) (by omega)
 have ef := zj8 (ρ := envZ row s A B o6 none) _ (eb none) (by rw [length_append]; omega)
 obtain ⟨v, ev, _, _⟩ := xr6 ((A ++ B).map (·.1))
 refine u6 (ρ' := envZ row s A B o6 (some (.sh (dN v)))) ((S7 ((mmaxE_ev (d0 := .int 0) ef rfl).trans ev)).trans rfl) ?_
 have et : v3 (m2 ltD (mvar 7) (mc (.int 2))) (envZ row s A B o6 (some (.sh (dN v)))) = some (decide ((v : Int) < 2)) := U4 ((g4 (a := dN v) (b := .int 2) rfl rfl).trans rfl)
 by_cases h : (v : Int) < 2
 ·refine U0 (ya7 (b := true) (by rw [et, decide_eq_true h]) ?_)
  have em : ∃ w : Int, D1 yd4 (z8 (mc (.int 1)) (z8 (mlen (bvar 0)) anil)) (envZ row s A B o6 (some (.sh (dN v)))) = some (.int w) := by
   unfold D1
   rw [z7 (x := mc (.int 1)) (d := .int 1) rfl (z7 (j5 (ds := row.map .int) rfl) y6)]
   exact ⟨_, rfl⟩
  obtain ⟨w, em⟩ := em
  exact ⟨.rt (.int w), W8 em, w, rfl⟩
 ·refine U0 (ya7 (b := false) (by rw [et, decide_eq_false h]) (yg1 ?_))
  show Run _ _ _
  exact ⟨_, W8 (yo4 (zb3 (i := 7) (ρ := envZ row s A B o6 (some (.sh (dN v)))) _ v (eb _) rfl (by rw [length_append]; omega))), _, rfl⟩
end
section
open PySem L2
def wt (w : Nat -> Int) (l : List Nat) : Int := (l.map w).sum
theorem xx0 (w : Nat -> Int) (p : Nat) (l : List Nat) : wt w (p :: l) = w p + wt w l := by unfold wt; rw [map_cons, sum_cons]
def HT (w : Nat -> Int) (l : List Nat) : D := .tup [.int (wt w l), L l]
def KH (w : Nat -> Int) (l : List Nat) : D := .tup [.int (-(wt w l)), .int (l.length : Int), L l]
theorem keyH (w : Nat -> Int) (l : List Nat) : yu2 [HT w l] = some (.sh (KH w l)) := by
 unfold yu2 yi6
 have i3 : 0 + 1 + 1 + 1 <= sizeLine := u0 (by decide)
 refine c8 ?_
 refine seqI (ρ' := [some (.sh (HT w l)), some (.sh (.int (wt w l))), some (.sh (L l))]) rfl ?_
 unfold HT KH L
 simp_arith [i3, if_true, length_map]
theorem zu6 : ∀ l m : List Nat, ∃ b, zipE (eqF 6) (l.map dN) (m.map dN) = some b
 | [], _ => ⟨true, by unfold zipE; rfl⟩
 | _ :: _, [] => ⟨true, rfl⟩
 | a :: l, b :: m => by
  obtain ⟨c, e⟩ := zu6 l m
  rw [map_cons, map_cons, zipE, e]
  exact ⟨_, rfl⟩
theorem zt9 : ∀ l m : List Nat, ∃ b, lexF (eqF 6) (ltF 6) (l.map dN) (m.map dN) = some b
 | [], [] => ⟨_, rfl⟩
 | [], _ :: _ => ⟨_, rfl⟩
 | _ :: _, [] => ⟨_, rfl⟩
 | a :: l, b :: m => by
  obtain ⟨c, e⟩ := zt9 l m
  rw [map_cons, map_cons, lexF, show eqF 6 (dN a) (dN b) = some ((a : Int) == (b : Int)) from rfl]
  cases ((a : Int) == (b : Int)) with
  | true => exact ⟨c, e⟩
  | false => exact ⟨_, rfl⟩
theorem yd8 (w : Nat -> Int) (l m : List Nat) : ∃ b, ltF 8 (KH w l) (KH w m) = some b := by
 show ∃ b, lexF (eqF 7) (ltF 7) [.int (-(wt w l)), .int (l.length : Int), L l] [.int (-(wt w m)), .int (m.length : Int), L m] = some b
 rw [lexF, show eqF 7 (.int (-(wt w l))) (.int (-(wt w m))) = some (-(wt w l) == -(wt w m)) from rfl]
 cases (-(wt w l) == -(wt w m)) with
 | false => exact ⟨_, rfl⟩
 | true =>
  simp only
  rw [lexF, show eqF 7 (.int (l.length : Int)) (.int (m.length : Int)) = some ((l.length : Int) == (m.length : Int)) from rfl]
  cases ((l.length : Int) == (m.length : Int)) with
  | false => exact ⟨_, rfl⟩
  | true =>
   simp only
   obtain ⟨b, e⟩ := zu6 l m
   have e7 : eqF 7 (L l) (L m) = some (if (l.map dN).length = (m.map dN).length then b else false) := by
    show (if (l.map dN).length = (m.map dN).length then zipE (eqF 6) (l.map dN) (m.map dN) else some false) = _
    rw [e]; split <;> rfl
   rw [lexF, e7]
   cases (if (l.map dN).length = (m.map dN).length then b else false) with
   | true => exact ⟨_, rfl⟩
   | false => exact zt9 l m
theorem zy8 {w : Nat -> Int} {mk : D -> Option D} (hk : ∀ l, mk (HT w l) = some (KH w l)) : ∀ (ls : List (List Nat)) (b : List Nat), ∃ r, minF mk (ls.map (HT w)) (HT w b) (KH w b) = some (HT w r) /\ r ∈ b :: ls
 | [], b => ⟨b, rfl, by simp⟩
 | m :: ls, b => by
  rw [map_cons]
  unfold minF
  rw [hk m]
  obtain ⟨c, e⟩ := yd8 w m b
  simp only [e]
  cases c with
  | true =>
   obtain ⟨r, e, h1⟩ := zy8 hk ls m
   exact ⟨r, e, mem_cons_of_mem _ h1⟩
  | false =>
   obtain ⟨r, e, h1⟩ := zy8 hk ls b
   refine ⟨r, e, ?_⟩
   rcases List.mem_cons.mp h1 with h1 | h1
   ·simp [h1]
   ·simp [h1]
theorem Y1 (w : Nat -> Int) (ls : List (List Nat)) (hl : ls.length <= 1000) : ∃ r, m_Z3 [.lst (ls.map (HT w))] = some (.sh (HT w r)) /\ r ∈ [] :: ls := by
 obtain ⟨r, e, h1⟩ := zy8 (w := w) (mk := fun d => shOf (yu2 [d])) (fun l => by rw [keyH]; rfl) ls []
 refine ⟨r, ?_, h1⟩
 have big := u7
 unfold m_Z3 b_Z3
 refine c8 (W8 ?_)
 have i1 : 1 <= sizeLine := u0 (by decide)
 have i2 : 2 <= sizeLine := u0 (by decide)
 have e0 : t3 (z8 (mtup (z8 (mc (.int 0)) (z8 (mlst (t3 anil)) anil))) anil) (u5 1 [.lst (ls.map (HT w))]) = some [HT w []] :=
  t5 (z7 (P1 (z7 (d := .int 0) rfl (z7 (r6 (t5 y6 (Nat.zero_le _))) y6)) i2) y6) i1
 have e1 : mcat (t3 (z8 (mtup (z8 (mc (.int 0)) (z8 (mlst (t3 anil)) anil))) anil)) (bvar 0) (u5 1 [.lst (ls.map (HT w))]) = some (HT w [] :: ls.map (HT w)) :=
  P5 e0 (show bvar 0 (u5 1 [.lst (ls.map (HT w))]) = some (ls.map (HT w)) from rfl) (by rw [length_map, length_singleton]; omega)
 rw [ye9 e1]
 show (match shOf (yu2 [HT w []]) with | some kd => minF _ (ls.map (HT w)) (HT w []) kd | none => none) = _
 rw [keyH]
 exact e
def envH (row ws : List Int) (s : Int) (U V : List (List Nat)) (o7 o8 o9 : Option S) : Ro := [some (.sh (.lst (row.map .int))), some (.sh (.int s)), some (.sh (.lst (ws.map .int))), some (.sh (.lst (((List.range row.length).map (abv row s true)).map L))), some (.sh (.lst (((List.range row.length).map (abv row s false)).map L))), some (.own (U.map (HT (xr ws)))), some (.own (V.map (HT (xr ws)))), o7, o8, o9]
theorem ww4 (w : Nat -> Int) (U : List (List Nat)) (p : Nat) (h : p < U.length) : atI (U.map (HT w)) (p : Int) = some (HT w (U.getD p [])) := by
 have := zp9 (HT w) U (p : Int) (by omega) (by omega) []
 rw [Int.toNat_natCast] at this
 exact this
theorem yg5 {α : Type} (f : Nat -> α) (n p : Nat) (h : p < n) (d : α) : ((List.range n).map f).getD p d = f p := by
 rw [getD_eq_getElem?_getD, getElem?_map, getElem?_range h]; rfl
theorem xy3 (row ws : List Int) (s : Int) (hw : ws.length = row.length) (d : Bool) (i ia : Nat) (U V M : List (List Nat)) (p : Nat) (hp : p < row.length) (hr : row.length <= 300) (hM : M.length = row.length) (ρ : Ro)
  (hi : ρ[i]? = some (some (.own (M.map (HT (xr ws)))))) (ha : ρ[ia]? = some (some (.sh (.lst (((List.range row.length).map (abv row s d)).map L))))) (h7 : ρ[7]? = some (some (.sh (.int (p : Int))))) :
  P4 [none, some i] (v7 (mix (bvar ia) (mvar 7))) (.nm 0) cyes (mix (bvar 1) (mvar 0)) ρ = some (((abv row s d p).map fun q => M.getD q []).map (HT (xr ws))) := by
 have e7 : mvar 7 ρ = some (.int (p : Int)) := by unfold mvar; rw [h7]
 have ea : bvar ia ρ = some (((List.range row.length).map (abv row s d)).map L) := by unfold bvar; rw [ha]
 have e1 : v7 (mix (bvar ia) (mvar 7)) ρ = some ((abv row s d p).map dN) := by
  refine p9 (W9 ea e7 ?_)
  rw [at_L _ p (by simp; exact hp), yg5 _ _ _ hp]; rfl
 have eb : C0 [none, some i] ρ = [none, some (.own (M.map (HT (xr ws))))] := by
  unfold C0
  simp only [map_cons, map_nil, Option.bind_none, Option.bind_some, hi]
 have al := zv1 row s d p
 unfold P4
 rw [e1, Option.bind_some, eb]
 rw [V3 (f := dN) (G := fun q => HT (xr ws) (M.getD q [])) (fun qs ρ => (∀ q ∈ qs, q < row.length) /\ ∃ o, ρ = [o, some (.own (M.map (HT (xr ws))))])
  (by
   rintro q qs ρ ⟨hq, o, rfl⟩
   have := hq q (by simp)
   exact ⟨_, rfl, rfl, W9 (ds := M.map (HT (xr ws))) (k := (q : Int)) rfl rfl (ww4 _ M q (by omega)), fun r hr => hq r (by simp [hr]), _, rfl⟩) (abv row s d p) _ [] ⟨fun q hq => (abv_mem.mp hq).2.1, none, rfl⟩ (u0 (by simp only [length_nil]; omega)), nil_append, map_map]
 rfl
theorem xz2 (ws : List Int) (i : Nat) (U : List (List Nat)) (p : Nat) (r : List Nat) (hp : p < ws.length) (hU : U.length = ws.length) (hr : r.length <= 1000) (ρ : Ro) (hi : ρ[i]? = some (some (.own (U.map (HT (xr ws)))))) (h2 : ρ[2]? = some (some (.sh (.lst (ws.map .int))))) (h7 : ρ[7]? = some (some (.sh (.int (p : Int)))))
  (h8 : ρ[8]? = some (some (.sh (.int (wt (xr ws) r))))) (h9 : ρ[9]? = some (some (.sh (L r)))) :
  a9 i (mvar 7) (mtup (z8 (m2 addD (mix (bvar 2) (mvar 7)) (mvar 8)) (z8 (mlst (mcat (t3 (z8 (mvar 7) anil)) (bvar 9))) anil))) ρ = some (.nx (ρ.set i (some (.own ((U.set p (p :: r)).map (HT (xr ws))))))) := by
 have big := u7
 have i1 : 1 <= sizeLine := u0 (by decide)
 have i2 : 2 <= sizeLine := u0 (by decide)
 have e7 : mvar 7 ρ = some (.int (p : Int)) := by unfold mvar; rw [h7]
 have e8 : mvar 8 ρ = some (.int (wt (xr ws) r)) := by unfold mvar; rw [h8]
 have e2 : bvar 2 ρ = some (ws.map .int) := by unfold bvar; rw [h2]
 have e9 : bvar 9 ρ = some (r.map dN) := by unfold bvar; rw [h9]; rfl
 have a1 : m2 addD (mix (bvar 2) (mvar 7)) (mvar 8) ρ = some (.int (wt (xr ws) (p :: r))) := by
  rw [g4 (W9 e2 e7 (P9 ws p hp)) e8, xx0]; rfl
 have a2 : mlst (mcat (t3 (z8 (mvar 7) anil)) (bvar 9)) ρ = some (L (p :: r)) := by
  rw [r6 (P5 (t5 (z7 e7 y6) i1) e9 (by rw [length_map, length_singleton]; omega))]; rfl
 have ev : mtup (z8 (m2 addD (mix (bvar 2) (mvar 7)) (mvar 8)) (z8 (mlst (mcat (t3 (z8 (mvar 7) anil)) (bvar 9))) anil)) ρ = some (HT (xr ws) (p :: r)) := P1 (z7 a1 (z7 a2 y6)) i2
 unfold a9
 rw [ev, hi, e7]
 show ((ixN (U.map (HT (xr ws))).length (p : Int)).map fun j => Out.nx (ρ.set i (some (.own ((U.map (HT (xr ws))).set j (HT (xr ws) (p :: r))))))) = _
 rw [length_map, ze7 _ _ (by omega)]
 show some (Out.nx _) = _
 rw [map_set]
theorem xp0 {α : Type} (l : List α) (q : Nat) (h : q < l.length) (d : α) : l.getD q d ∈ l := by
 rw [getD_eq_getElem?_getD, getElem?_eq_getElem h]; exact getElem_mem h
theorem zo9 {U : List (List Nat)} {p N : Nat} {r : List Nat} (h : ∀ l ∈ U, l.length <= N) (hr : r.length <= N) : ∀ l ∈ U.set p r, l.length <= N := fun l hl => by
 rcases mem_or_eq_of_mem_set hl with z | z
 ·exact h l z
 ·rw [z]; exact hr
theorem zb6 {row : List Int} {s : Int} {d : Bool} {p N : Nat} {M : List (List Nat)} (lM : M.length = row.length) (hM : ∀ l ∈ M, l.length <= N) {r : List Nat} (h : r ∈ [] :: (abv row s d p).map fun q => M.getD q []) : r.length <= N := by
 rcases List.mem_cons.mp h with rfl | h
 ·simp
 ·obtain ⟨q, hq, rfl⟩ := List.mem_map.mp h
  exact hM _ (xp0 M q (by rw [lM]; exact (abv_mem.mp hq).2.1) [])
def Bd (N : Nat) (U V : List (List Nat)) : Prop := (∀ l ∈ U, l.length <= N) /\ ∀ l ∈ V, l.length <= N
theorem xx4 (row ws : List Int) (s : Int) (hw : ws.length = row.length) (hr : row.length <= 300) (U V : List (List Nat)) (p N : Nat) (hN : N <= 700) (hp : p < row.length) (hU : U.length = row.length) (hV : V.length = row.length) (hd : Bd N U V) (o8 o9 : Option S) :
  ∃ U' V' o8' o9', U'.length = row.length /\ V'.length = row.length /\ Bd (N + 2) U' V' /\ zp7 (envH row ws s U V (some (.sh (.int (p : Int)))) o8 o9) = some (.nx (envH row ws s U' V' (some (.sh (.int (p : Int)))) o8' o9')) := by
 unfold zp7
 have al1 := zv1 row s true p
 have al2 := zv1 row s false p
 obtain ⟨r1, e1, m1⟩ := Y1 (xr ws) ((abv row s true p).map fun q => V.getD q []) (by rw [length_map]; omega)
 have c1 := xy3 row ws s hw true 6 3 U V V p hp hr hV (envH row ws s U V (some (.sh (.int (p : Int)))) o8 o9) rfl rfl rfl
 have l1 := zb6 hV hd.2 m1
 have hU' : (U.set p (p :: r1)).length = row.length := by rw [length_set]; exact hU
 have dU' : ∀ l ∈ U.set p (p :: r1), l.length <= N + 1 := zo9 (fun l hl => Nat.le_succ_of_le (hd.1 l hl)) (by simp; omega)
 obtain ⟨r2, e2, m2'⟩ := Y1 (xr ws) ((abv row s false p).map fun q => (U.set p (p :: r1)).getD q []) (by rw [length_map]; omega)
 have c2 := xy3 row ws s hw false 5 4 U V (U.set p (p :: r1)) p hp hr hU' (envH row ws s (U.set p (p :: r1)) V (some (.sh (.int (p : Int)))) (some (.sh (.int (wt (xr ws) r1)))) (some (.sh (L r1)))) rfl rfl rfl
 have l2 := zb6 hU' dU' m2'
 refine ⟨U.set p (p :: r1), V.set p (p :: r2), some (.sh (.int (wt (xr ws) r2))), some (.sh (L r2)), hU', by rw [length_set]; exact hV, ⟨fun l hl => Nat.le_succ_of_le (dU' l hl), zo9 (fun l hl => Nat.le_trans (hd.2 l hl) (by omega)) (by simp; omega)⟩, ?_⟩
 refine seqI (ρ' := envH row ws s U V (some (.sh (.int (p : Int)))) (some (.sh (.int (wt (xr ws) r1)))) (some (.sh (L r1)))) (by unfold masg; rw [v6 (z7 (r6 c1) y6) e1]; rfl) ?_
 refine seqI (ρ' := envH row ws s (U.set p (p :: r1)) V (some (.sh (.int (p : Int)))) (some (.sh (.int (wt (xr ws) r1)))) (some (.sh (L r1)))) ((xz2 ws 5 U p r1 (by omega) (by omega) (by omega) (envH row ws s U V (some (.sh (.int (p : Int)))) (some (.sh (.int (wt (xr ws) r1)))) (some (.sh (L r1)))) rfl rfl rfl rfl rfl).trans rfl) ?_
 refine seqI (ρ' := envH row ws s (U.set p (p :: r1)) V (some (.sh (.int (p : Int)))) (some (.sh (.int (wt (xr ws) r2)))) (some (.sh (L r2)))) (by unfold masg; rw [v6 (z7 (r6 c2) y6) e2]; rfl) ?_
 exact (xz2 ws 6 V p r2 (by omega) (by omega) (by omega) (envH row ws s (U.set p (p :: r1)) V (some (.sh (.int (p : Int)))) (some (.sh (.int (wt (xr ws) r2)))) (some (.sh (L r2)))) rfl rfl rfl rfl rfl).trans rfl
theorem xv8 (w : Nat -> Int) (n : Nat) : (List.replicate n [HT w []]).flatten = (List.replicate n ([] : List Nat)).map (HT w) := by
 induction n with
 | zero => rfl
 | succ n ih => rw [replicate_succ, flatten_cons, ih, replicate_succ, map_cons]; rfl
theorem zu0 (row ws : List Int) (s : Int) (hw : ws.length = row.length) (hr : row.length <= 300) : ∃ U V : List (List Nat), xr9 [.lst (row.map .int), .int s, .lst (ws.map .int)] = some (.sh (.tup [.lst (U.map (HT (xr ws))), .lst (V.map (HT (xr ws)))])) /\ U.length = row.length /\ V.length = row.length := by
 suffices h : Run yb6 (u5 10 [.lst (row.map .int), .int s, .lst (ws.map .int)]) (fun o => ∃ U V : List (List Nat), o = .rt (.tup [.lst (U.map (HT (xr ws))), .lst (V.map (HT (xr ws)))]) /\ U.length = row.length /\ V.length = row.length) by
  obtain ⟨o, e, U, V, rfl, r⟩ := h
  exact ⟨U, V, c8 e, r⟩
 unfold yb6
 have big := u7
 have i1 : 1 <= sizeLine := u0 (by decide)
 have i2 : 2 <= sizeLine := u0 (by decide)
 have k2 : okR (row.length : Int) = true := T6 (by omega) (by omega)
 have rk : zr3 1 (row.length : Int) = true := by
  unfold zr3
  rw [decide_eq_true (by omega), decide_eq_true (by omega), decide_eq_true (by rw [Int.toNat_natCast]; omega)]; rfl
 refine u6 (ρ' := [some (.sh (.lst (row.map .int))), some (.sh (.int s)), some (.sh (.lst (ws.map .int))), some (.sh (.lst (((List.range row.length).map (abv row s true)).map L))), some (.sh (.lst (((List.range row.length).map (abv row s false)).map L))), none, none, none, none, none]) ?_ ?_
 ·unfold masg
  rw [v6 (z7 (d := .lst (row.map .int)) rfl (z7 (d := .int s) rfl y6)) (M3 row s hr)]; rfl
 have rep : ∀ ρ : Ro, bvar 0 ρ = some (row.map .int) -> mrep (t3 (z8 (mtup (z8 (mc (.int 0)) (z8 (mlst (t3 anil)) anil))) anil)) (mlen (bvar 0)) ρ = some ((List.replicate row.length ([] : List Nat)).map (HT (xr ws))) := by
  intro ρ h0
  have e0 : t3 (z8 (mtup (z8 (mc (.int 0)) (z8 (mlst (t3 anil)) anil))) anil) ρ = some [HT (xr ws) []] :=
   t5 (z7 (P1 (z7 (d := .int 0) rfl (z7 (r6 (t5 y6 (Nat.zero_le _))) y6)) i2) y6) i1
  have el : mlen (bvar 0) ρ = some (.int (row.length : Int)) := by rw [j5 h0, length_map]
  rw [zf6 e0 el rk, Int.toNat_natCast, xv8]
 refine u6 (ρ' := [some (.sh (.lst (row.map .int))), some (.sh (.int s)), some (.sh (.lst (ws.map .int))), some (.sh (.lst (((List.range row.length).map (abv row s true)).map L))), some (.sh (.lst (((List.range row.length).map (abv row s false)).map L))), some (.own ((List.replicate row.length ([] : List Nat)).map (HT (xr ws)))), none, none, none, none]) (by unfold Y6; rw [rep _ rfl]; rfl) ?_
 refine u6 (ρ' := envH row ws s (List.replicate row.length []) (List.replicate row.length []) none none none) (by unfold Y6; rw [rep _ rfl]; rfl) ?_
 have ed : zu2 row.length = (List.range row.length).map fun (j : Nat) => D.int ((row.length : Int) - 1 - (j : Int)) := rfl
 refine U0 (O4 row.length (f := fun (j : Nat) => D.int ((row.length : Int) - 1 - (j : Int))) ?_
  (I := fun j ρ => ∃ U V o7 o8 o9, U.length = row.length /\ V.length = row.length /\ Bd (2 * j) U V /\ ρ = envH row ws s U V o7 o8 o9) _
  ⟨_, _, _, _, _, by simp, by simp, ⟨fun l hl => by rw [(List.mem_replicate.mp hl).2]; simp, fun l hl => by rw [(List.mem_replicate.mp hl).2]; simp⟩, rfl⟩ ?_ ?_)
 ·unfold j8
  rw [z7 (x := mlen (bvar 0)) (d := .int ((row.map D.int).length : Int)) (j5 rfl) y6, Option.bind_some, length_map, zg2 k2, Int.toNat_natCast, ed]
 ·rintro j ρ hj ⟨U, V, o7, o8, o9, hU, hV, hd, rfl⟩
  have e : (row.length : Int) - 1 - (j : Int) = ((row.length - 1 - j : Nat) : Int) := by omega
  refine ⟨envH row ws s U V (some (.sh (.int ((row.length - 1 - j : Nat) : Int)))) o8 o9, by rw [e]; rfl, ?_⟩
  obtain ⟨U', V', o8', o9', hU', hV', hd', e2⟩ := xx4 row ws s hw hr U V (row.length - 1 - j) (2 * j) (by omega) (by omega) hU hV hd o8 o9
  exact ⟨_, e2, U', V', _, _, _, hU', hV', hd', rfl⟩
 ·rintro ρ ⟨U, V, o7, o8, o9, hU, hV, hd, rfl⟩
  unfold yx4
  refine g6 (ds := U.map (HT (xr ws))) rfl (g6 (ds := V.map (HT (xr ws))) rfl ⟨_, W8 (P1 (z7 (d := .lst (U.map (HT (xr ws)))) rfl (z7 (d := .lst (V.map (HT (xr ws)))) rfl y6)) i2), U, V, rfl, hU, hV⟩)
theorem zd0 (row ws : List Int) (s : Int) (hs : 1 <= s) (hw : ws.length = row.length) (h0 : ∀ x ∈ ws, 0 <= x) (hr : row.length <= 300) : ∃ l, ze1 [.lst (row.map .int), .int s, .lst (ws.map .int)] = some (.sh (HT (xr ws) l)) := by
 obtain ⟨U, V, et, hU, hV⟩ := zu0 row ws s hw hr
 obtain ⟨r, e, m⟩ := Y1 (xr ws) (U ++ V) (by rw [length_append]; omega)
 have big := u7
 refine ⟨r, ?_⟩
 ·unfold ze1 xp9
  refine K4 ?_
  refine u6 (ρ' := [some (.sh (.lst (row.map .int))), some (.sh (.int s)), some (.sh (.lst (ws.map .int))), none, none]) ?_ ?_
  ·unfold N5
   rw [v6 (z7 (d := .int s) rfl y6) (d6 s hs)]; rfl
  refine u6 (ρ' := [some (.sh (.lst (row.map .int))), some (.sh (.int s)), some (.sh (.lst (ws.map .int))), none, none]) ?_ ?_
  ·unfold N5
   rw [v6 (z7 (d := .lst (row.map .int)) rfl (z7 (d := .lst (ws.map .int)) rfl y6)) (E3 row ws hw h0)]; rfl
  refine u6 (ρ' := [some (.sh (.lst (row.map .int))), some (.sh (.int s)), some (.sh (.lst (ws.map .int))), some (.sh (.lst (U.map (HT (xr ws))))), some (.sh (.lst (V.map (HT (xr ws)))))]) ?_ ?_
  ·unfold masg
   rw [v6 (z7 (d := .lst (row.map .int)) rfl (z7 (d := .int s) rfl (z7 (d := .lst (ws.map .int)) rfl y6))) et]; rfl
  ·have hz : (U.map (HT (xr ws))).length + (V.map (HT (xr ws))).length <= sizeLine := u0 (by simp; omega)
   have e1 : m2 addD (mvar 3) (mvar 4) [some (.sh (.lst (row.map .int))), some (.sh (.int s)), some (.sh (.lst (ws.map .int))), some (.sh (.lst (U.map (HT (xr ws))))), some (.sh (.lst (V.map (HT (xr ws)))))] = some (.lst ((U ++ V).map (HT (xr ws)))) := by
    refine (g4 (a := .lst (U.map (HT (xr ws)))) (b := .lst (V.map (HT (xr ws)))) rfl rfl).trans ?_
    show (if (U.map (HT (xr ws))).length + (V.map (HT (xr ws))).length <= sizeLine then some (D.lst (U.map (HT (xr ws)) ++ V.map (HT (xr ws)))) else none) = _
    rw [if_pos hz, map_append]
   exact ⟨_, W8 (v6 (z7 e1 y6) e), rfl⟩
end
section
open PySem L2
theorem Y7 {m : ME} {ρ : Ro} {d : D} (h : m ρ = some d) : mpu m ρ = some (d, ρ) := by unfold mpu; rw [h]
theorem V5 {m : ML} {ρ : Ro} {d : List D} (h : m ρ = some d) : apu m ρ = some (d, ρ) := by unfold apu; rw [h]
theorem X5 {f : D -> D -> Option D} {x y : MEm} {ρ ρ1 ρ2 : Ro} {d e g : D} (h1 : x ρ = some (d, ρ1)) (h2 : y ρ1 = some (e, ρ2)) (h3 : f d e = some g) : m2m f x y ρ = some (g, ρ2) := by
 unfold m2m; rw [h1]; simp only; rw [h2]; simp only; rw [h3]
theorem l8 {x : MEm} {r : MLm} {ρ ρ1 ρ2 : Ro} {d : D} {ds : List D} (h1 : x ρ = some (d, ρ1)) (h2 : r ρ1 = some (ds, ρ2)) : l0 x r ρ = some (d :: ds, ρ2) := by
 unfold l0; rw [h1]; simp only; rw [h2]
theorem zq6 {m : MLm} {ρ ρ1 : Ro} {ds : List D} (h : m ρ = some (ds, ρ1)) (hz : ds.length <= sizeLine) : zv9 m ρ = some (.lst ds, ρ1) := by
 unfold zv9; rw [h]; simp only [hz, if_true]
theorem Y2 {i : Nat} {x : MEm} {ρ ρ1 : Ro} {d : D} (h : x ρ = some (d, ρ1)) : X9 i x ρ = some (.nx (ρ1.set i (some (.sh d)))) := by unfold X9; rw [h]
theorem S8 {i : Nat} {x : MEm} {ρ ρ1 : Ro} {d : D} {p : Addr} {r : List D} (h : x ρ = some (d, ρ1)) (h2 : ρ1[i]? = some (some (.ob p r))) : N4 i x ρ = some (.rg d p r) := by unfold N4; rw [h]; simp only; rw [h2]
theorem zy9 {f : MG} {i : Nat} {m : MLm} {ρ ρ1 : Ro} {p : Addr} {r0 r1 r2 ds : List D} {t : Rt} {d : D} (h0 : ρ[i]? = some (some (.ob p r2))) (h1 : m ρ = some (ds, ρ1)) (h2 : ρ1[i]? = some (some (.ob p r0))) (h3 : f p r0 ds = some (t, r1)) (h4 : rtD t = some d) : w4 f i m ρ = some (d, ρ1.set i (some (.ob p r1))) := by
 unfold w4; rw [h0]; simp only; rw [h1]; simp only; rw [h2]; simp only; rw [h3]; simp only; rw [h4]
theorem Z9 {f : MG} {i : Nat} {m : MLm} {ρ ρ1 : Ro} {r0 r1 r2 ds : List D} {t : Rt} {d : D} (h0 : ρ[i]? = some (some (.own r2))) (h1 : m ρ = some (ds, ρ1)) (h2 : ρ1[i]? = some (some (.own r0))) (h3 : ∀ p, f p r0 ds = some (t, r1)) (h4 : rtD t = some d) : w4 f i m ρ = some (d, ρ1.set i (some (.own r1))) := by
 unfold w4; rw [h0]; simp only; rw [h1]; simp only; rw [h2]; simp only; rw [xn2 h3]; simp only; rw [h4]
theorem S2 {n : Nat} {m : MS} {p : Addr} {r r' ds : List D} {d : D} (h : m (T0 n p r ds) = some (.rg d p r')) : runG n m p r ds = some (.sh d, r') := by unfold runG; rw [h]; simp only [if_true]
def RL (a b : Int) : List D := [.int a, .int b]
theorem at3 (x y z : Int) (k : Int) (h0 : 0 <= k) (h1 : k < 3) : ∃ w, atI [D.int x, .int y, .int z] k = some (.int w) /\ (w = x \/ w = y \/ w = z) := by
 have : k = 0 \/ k = 1 \/ k = 2 := by omega
 rcases this with h | h | h <;> subst h
 ·exact ⟨_, rfl, by simp⟩
 ·exact ⟨_, rfl, by simp⟩
 ·exact ⟨_, rfl, by simp⟩
end
section
open PySem L2
theorem m7 (c k m : Int) (h : 0 < m) (h2 : m < 1073741824) : ∃ x c' k', 0 <= x /\ x < m /\ ∀ p, o0 p (RL c k) [.int m] = some (.sh (.int x), RL c' k') := by
 have hp : ((10 : Int) ^ (18 : Int).toNat) = 10 ^ 18 := rfl
 have o1 : yw8 10 18 = true := by decide
 have c0 : ∀ x y : Int, atI [D.int x, D.int y] 0 = some (.int x) := fun _ _ => rfl
 have c1 : ∀ x y : Int, atI [D.int x, D.int y] 1 = some (.int y) := fun _ _ => rfl
 have n0 : ixN (0 + 1 + 1) 0 = some 0 := rfl
 have n1 : ixN (0 + 1 + 1) 1 = some 1 := rfl
 by_cases hb : 10 ^ 18 <= c
 ·refine ⟨c % m, c / m, k + 1, Int.emod_nonneg _ (by omega), Int.emod_lt_of_pos _ h, fun p => ?_⟩
  unfold o0
  refine S2 ?_
  unfold yb5 T0 RL
  simp_arith [hp, o1, c0, c1, hb, decide_true, if_true, S9 c m h, zw0 c m h h2, n0, n1, N4, mpu, set_cons_zero, set_cons_succ]
 ·have q3 : ∀ i, zk4 i 2147483647 = true := fun i => S9 _ _ (by decide)
  have q4 : ∀ i, zk4 i 2147483629 = true := fun i => S9 _ _ (by decide)
  have q5 : ∀ i, zk4 i 2147483587 = true := fun i => S9 _ _ (by decide)
  have q6 : ∀ i, zk4 i m = true := fun i => S9 _ _ h
  have f8 : ∀ i, zs2 i 8 = true := fun i => zw0 _ _ (by decide) (by decide)
  have m1 : ∀ i, E8 i 69621 = true := fun i => zq3 _ _ (by decide) (by decide)
  have m2 : ∀ i, E8 i 7919 = true := fun i => zq3 _ _ (by decide) (by decide)
  have m3 : ∀ i, E8 i 48271 = true := fun i => zq3 _ _ (by decide) (by decide)
  have m4 : ∀ i, E8 i 40692 = true := fun i => zq3 _ _ (by decide) (by decide)
  have bb := zk3 (x := c * 69621 + (k + 1) * 7919 + 13) (show (0 : Int) < 2147483647 by decide)
  have m5 : E8 ((c * 69621 + (k + 1) * 7919 + 13) % 2147483647) ((c * 69621 + (k + 1) * 7919 + 13) % 2147483647) = true := yo3 _ _ (by omega) (by omega)
  refine ⟨_, c, k + 1, Int.emod_nonneg _ (by omega), Int.emod_lt_of_pos (((((c * 69621 + (k + 1) * 7919 + 13) % 2147483647) * ((c * 69621 + (k + 1) * 7919 + 13) % 2147483647) % 2147483629) * 48271 + (k + 1) * 40692) % 2147483587 / 8) h, fun p => ?_⟩
  unfold o0
  refine S2 ?_
  unfold yb5 T0 RL
  simp_arith [hp, o1, c0, c1, hb, decide_false, if_true, q3, q4, q5, q6, f8, m1, m2, m3, m4, m5, n0, n1, N4, mpu, set_cons_zero, set_cons_succ]
abbrev Nx (c k m x c' k' : Int) : Prop := ∀ p, o0 p (RL c k) [.int m] = some (.sh (.int x), RL c' k')
theorem l5 {p : Addr} {c k m x c' k' : Int} {e : ME} {tl : List (Option S)} (h : Nx c k m x c' k') (hx : e (some (.ob p (RL c k)) :: tl) = some (.int m)) : w4 o0 0 (apu (z8 e anil)) (some (.ob p (RL c k)) :: tl) = some (.int x, some (.ob p (RL c' k')) :: tl) :=
 zy9 (ρ := some (.ob p (RL c k)) :: tl) rfl (V5 (z7 hx y6)) rfl (h p) rfl
theorem zv7 (c k kind : Int) : ∃ x c' k', (-1000000000000000000000000000000 <= x /\ x <= 1000000000000000000000000000000) /\ ∀ p, m_Z1 p (RL c k) [.int kind] = some (.sh (.int x), RL c' k') := by
 have i2 : 0 + 1 + 1 <= sizeLine := u0 (by decide)
 have tst : ∀ (p : Addr) (j : Int), v3 (m2 eqSD (mvar 1) (mc (.int j))) [some (.ob p (RL c k)), some (.sh (.int kind))] = some (kind == j) := fun p j => by unfold v3 m2; rfl
 by_cases h0 : kind = 0
 ·obtain ⟨x, c1, k1, g1, g2, e⟩ := m7 c k 4 (by decide) (by decide)
  refine ⟨x, c1, k1, by omega, fun p => ?_⟩
  unfold m_Z1 b_Z1
  refine S2 (f9 (o := .rg (.int x) p (RL c1 k1)) ?_)
  show mif _ _ _ [some (.ob p (RL c k)), some (.sh (.int kind))] = _
  rw [R7 (tst p 0), show (kind == 0) = true by rw [h0]; rfl]
  exact S8 (l5 e rfl) rfl
 ·have f0 : (kind == 0) = false := beq_eq_false_iff_ne.mpr h0
  by_cases h1 : kind = 1
  ·obtain ⟨x, c1, k1, g1, g2, e⟩ := m7 c k 21 (by decide) (by decide)
   refine ⟨x - 10, c1, k1, by omega, fun p => ?_⟩
   unfold m_Z1 b_Z1
   refine S2 (seqI (ρ' := [some (.ob p (RL c k)), some (.sh (.int kind))]) ?_ (f9 (o := .rg (.int (x - 10)) p (RL c1 k1)) ?_))
   ·show mif _ _ _ [some (.ob p (RL c k)), some (.sh (.int kind))] = _
    rw [R7 (tst p 0), f0]; rfl
   ·rw [R7 (tst p 1), show (kind == 1) = true by rw [h1]; rfl]
    exact S8 (X5 (l5 e rfl) (Y7 (d := .int 10) rfl) rfl) rfl
  ·have f1 : (kind == 1) = false := beq_eq_false_iff_ne.mpr h1
   by_cases h2 : kind = 2
   ·obtain ⟨x, c1, k1, g1, g2, e⟩ := m7 c k 1001 (by decide) (by decide)
    refine ⟨x - 500, c1, k1, by omega, fun p => ?_⟩
    unfold m_Z1 b_Z1
    refine S2 (seqI (ρ' := [some (.ob p (RL c k)), some (.sh (.int kind))]) ?_ (seqI (ρ' := [some (.ob p (RL c k)), some (.sh (.int kind))]) ?_ (f9 (o := .rg (.int (x - 500)) p (RL c1 k1)) ?_)))
    ·show mif _ _ _ [some (.ob p (RL c k)), some (.sh (.int kind))] = _
     rw [R7 (tst p 0), f0]; rfl
    ·rw [R7 (tst p 1), f1]; rfl
    ·rw [R7 (tst p 2), show (kind == 2) = true by rw [h2]; rfl]
     exact S8 (X5 (l5 e rfl) (Y7 (d := .int 500) rfl) rfl) rfl
   ·have f2 : (kind == 2) = false := beq_eq_false_iff_ne.mpr h2
    obtain ⟨x, c1, k1, l1, u1, e⟩ := m7 c k 2 (by decide) (by decide)
    obtain ⟨y, c2, k2, l2, u2, e2⟩ := m7 c1 k1 1000 (by decide) (by decide)
    obtain ⟨z, hz, hz2⟩ : ∃ z, atI [D.int (-1), .int 1] x = some (.int z) /\ (z = -1 \/ z = 1) := by
     have : x = 0 \/ x = 1 := by omega
     rcases this with h | h <;> subst h
     ·exact ⟨_, rfl, by simp⟩
     ·exact ⟨_, rfl, by simp⟩
    have mu : E8 z (100000000000000000000000000000 + y) = true := yo3 _ _ (by omega) (by omega)
    refine ⟨z * (100000000000000000000000000000 + y), c2, k2, by rcases hz2 with h | h <;> subst h <;> omega, fun p => ?_⟩
    unfold m_Z1 b_Z1
    refine S2 (seqI (ρ' := [some (.ob p (RL c k)), some (.sh (.int kind))]) ?_ (seqI (ρ' := [some (.ob p (RL c k)), some (.sh (.int kind))]) ?_ (seqI (ρ' := [some (.ob p (RL c k)), some (.sh (.int kind))]) ?_ ?_)))
    ·show mif _ _ _ [some (.ob p (RL c k)), some (.sh (.int kind))] = _
     rw [R7 (tst p 0), f0]; rfl
    ·rw [R7 (tst p 1), f1]; rfl
    ·rw [R7 (tst p 2), f2]; rfl
    ·have p29 : (10 : Int) ^ (29 : Int).toNat = 100000000000000000000000000000 := by decide
     have o29 : yw8 10 29 = true := by decide
     refine S8 (X5 (X5 (Y7 (r6 (t5 (z7 (d := .int (-1)) rfl (z7 (d := .int 1) rfl y6)) i2))) (l5 e rfl) (g := .int z) hz) (X5 (Y7 (d := .int 100000000000000000000000000000) ?_) (l5 e2 rfl) (g := .int (100000000000000000000000000000 + y)) rfl) ?_) rfl
     ·simp_arith [p29, o29, if_true]
     ·show (if E8 _ _ = true then _ else none) = _
      rw [if_pos mu]
end
section
open PySem L2
theorem zt7 {src : List (Option Nat)} {mi : ML} {i j : Nat} {elt : MEm} {ρ ρb : Ro} {rr : Addr} {r0 r1 its out : List D} (h0 : ρ[i]? = some (some (.ob rr r0))) (h1 : mi ρ = some its) (h2 : d8 elt its ((g5 src ρ).set j (some (.own r0))) [] = some (out, ρb)) (h3 : ρb[j]? = some (some (.own r1))) : U7 src mi i j elt ρ = some (.lst out, ρ.set i (some (.ob rr r1))) := by
 unfold U7
 rw [h0]; simp only; rw [h1]; simp only; rw [h2]; simp only; rw [h3]
theorem zt5 (kind : Int) : ∀ (its : List Int) (c k : Int) (o : Option S) (acc : List Int), acc.length + its.length <= 1000 -> (∀ v ∈ acc, -1000000000000000000000000000000 <= v /\ v <= 1000000000000000000000000000000) -> ∃ (f : List Int) (c' k' : Int) (o' : Option S), f.length = acc.length + its.length /\ (∀ v ∈ f, -1000000000000000000000000000000 <= v /\ v <= 1000000000000000000000000000000) /\
  d8 (w4 m_Z1 1 (apu (z8 (mvar 2) anil))) (its.map .int) [o, some (.own (RL c k)), some (.sh (.int kind))] (acc.map .int) = some (f.map .int, [o', some (.own (RL c' k')), some (.sh (.int kind))])
 | [], c, k, o, acc, _, hb => ⟨acc, c, k, o, by simp, hb, rfl⟩
 | i :: its, c, k, o, acc, h, hb => by
  obtain ⟨x, c1, k1, hx, e⟩ := zv7 c k kind
  obtain ⟨f, c', k', o', hf, hfb, e2⟩ := zt5 kind its c1 k1 (some (.sh (.int i))) (acc ++ [x]) (by simp at h ⊢; omega) (fun v hv => by
   rcases List.mem_append.mp hv with z | z
   ·exact hb v z
   ·rw [List.mem_singleton.mp z]; exact hx)
  refine ⟨f, c', k', o', by rw [hf]; simp; omega, hfb, ?_⟩
  rw [map_cons, d8]
  have e3 : w4 m_Z1 1 (apu (z8 (mvar 2) anil)) [some (.sh (.int i)), some (.own (RL c k)), some (.sh (.int kind))] = some (.int x, [some (.sh (.int i)), some (.own (RL c1 k1)), some (.sh (.int kind))]) :=
   Z9 (r0 := RL c k) (r2 := RL c k) rfl (V5 (z7 (d := .int kind) rfl y6)) rfl e rfl
  show (match w4 m_Z1 1 (apu (z8 (mvar 2) anil)) [some (.sh (.int i)), some (.own (RL c k)), some (.sh (.int kind))] with | some (x, ρ1) => if (acc.map D.int).length < sizeLine then d8 _ (its.map .int) ρ1 (acc.map D.int ++ [x]) else none | none => none) = _
  rw [e3]
  have hz : (acc.map D.int).length < sizeLine := by
   have := u7
   rw [length_map]; simp at h; omega
  simp only [hz, if_true]
  rw [map_append] at e2
  exact e2
theorem yk0 (f : List Int) : L0 (f.map .int) = some f := G2 f
def envW (p : Addr) (c k most kind many : Int) (f : List Int) (o5 : Option S) : Ro := [some (.ob p (RL c k)), some (.sh (.int most)), some (.sh (.int kind)), some (.sh (.int many)), some (.sh (.lst (f.map .int))), o5]
theorem E2 {p : Addr} {c k most kind many sh j : Int} {f g : List Int} {E : ME} (hE : sh = j -> E (envW p c k most kind many f (some (.sh (.int sh)))) = some (.lst (g.map .int))) :
  mif (v3 (m2 eqSD (mvar 5) (mc (.int j)))) (mset 4 E) d7 (envW p c k most kind many f (some (.sh (.int sh)))) = some (.nx (envW p c k most kind many (if sh = j then g else f) (some (.sh (.int sh))))) := by
 have ht : v3 (m2 eqSD (mvar 5) (mc (.int j))) (envW p c k most kind many f (some (.sh (.int sh)))) = some (sh == j) := by unfold v3 m2; rfl
 rw [R7 ht]
 by_cases h : sh = j
 ·rw [show (sh == j) = true by rw [h]; exact beq_self_eq_true _, if_pos h]
  exact (S7 (hE h)).trans rfl
 ·rw [beq_eq_false_iff_ne.mpr h, if_neg h]; rfl
theorem zz3 (c k : Int) (most : Nat) (hm : most < 60) : ∃ (f : List Int) (c' k' : Int), f.length <= most /\ (∀ v ∈ f, -2000000000000000000000000000000 <= v /\ v <= 2000000000000000000000000000000) /\ ∀ p, yu1 p (RL c k) [.int (most : Int)] = some (.sh (.lst (f.map .int)), RL c' k') := by
 have i2 : 0 + 1 + 1 <= sizeLine := u0 (by decide)
 have i3 : 0 + 1 + 1 + 1 <= sizeLine := u0 (by decide)
 obtain ⟨kind, c1, k1, _, _, e1⟩ := m7 c k 4 (by decide) (by decide)
 obtain ⟨w, c2, k2, l2, u2, e2⟩ := m7 c1 k1 3 (by decide) (by decide)
 obtain ⟨m, hm1, hm2⟩ := at3 (min 4 ((most : Int) + 1)) (min 9 ((most : Int) + 1)) ((most : Int) + 1) w l2 u2
 obtain ⟨many, c3, k3, l3, u3, e3⟩ := m7 c2 k2 m (by omega) (by omega)
 obtain ⟨n, rfl⟩ := yo2 l3
 obtain ⟨f, c4, k4, o', hf, hfb, e4⟩ := zt5 kind ((List.range n).map fun (i : Nat) => (i : Int)) c3 k3 none [] (by simp; omega) (fun v hv => by cases hv)
 obtain ⟨sh, c5, k5, _, _, e5⟩ := m7 c4 k4 6 (by decide) (by decide)
 have hfl : f.length = n := by simpa using hf
 let f1 : List Int := if sh = 0 then G1 f else f
 have l1 : f1.length = n := by
  show (if sh = 0 then G1 f else f).length = n
  split
  ·rw [D5, hfl]
  ·exact hfl
 let g2 : List Int := (List.range f1.length).map fun (i : Nat) => f1.getD i 0 + (if (i : Int) % 2 = 0 then 7 else -7)
 let f2 : List Int := if sh = 1 then g2 else f1
 have l2' : f2.length = n := by
  show (if sh = 1 then g2 else f1).length = n
  split
  ·show (List.map _ (List.range f1.length)).length = n
   rw [length_map, length_range, l1]
  ·exact l1
 let g3 : List Int := (List.replicate n (f2.take 1)).flatten
 let f3 : List Int := if sh = 2 then g3 else f2
 have l3' : f3.length <= n := by
  show (if sh = 2 then g3 else f2).length <= n
  split
  ·show (List.replicate n (f2.take 1)).flatten.length <= n
   rw [length_flatten, map_replicate, sum_replicate_nat, length_take]
   exact Nat.le_trans (Nat.mul_le_mul_left n (Nat.min_le_left 1 _)) (by omega)
  ·omega
 have b1 : ∀ v ∈ f1, -1000000000000000000000000000000 <= v /\ v <= 1000000000000000000000000000000 := by
  intro v hv
  have hv : v ∈ (if sh = 0 then G1 f else f) := hv
  split at hv
  ·exact hfb v ((N0 f).mem_iff.mp hv)
  ·exact hfb v hv
 have b2 : ∀ v ∈ f2, -2000000000000000000000000000000 <= v /\ v <= 2000000000000000000000000000000 := by
  intro v hv
  have hv : v ∈ (if sh = 1 then g2 else f1) := hv
  split at hv
  ·obtain ⟨i, hi, rfl⟩ := List.mem_map.mp (show v ∈ List.map _ (List.range f1.length) from hv)
   have hi := List.mem_range.mp hi
   have := b1 (f1.getD i 0) (by rw [getD_eq_getElem?_getD, getElem?_eq_getElem hi]; exact getElem_mem hi)
   split <;> omega
  ·have := b1 v hv; omega
 have b3 : ∀ v ∈ f3, -2000000000000000000000000000000 <= v /\ v <= 2000000000000000000000000000000 := by
  intro v hv
  have hv : v ∈ (if sh = 2 then g3 else f2) := hv
  split at hv
  ·obtain ⟨l, hl, hvl⟩ := List.mem_flatten.mp (show v ∈ (List.replicate n (f2.take 1)).flatten from hv)
   rw [(List.mem_replicate.mp hl).2] at hvl
   exact b2 v (mem_of_mem_take hvl)
  ·exact b2 v hv
 refine ⟨f3, c5, k5, by omega, b3, fun p => ?_⟩
 unfold yu1 xn0
 refine S2 ?_
 refine seqI (ρ' := [some (.ob p (RL c1 k1)), some (.sh (.int (most : Int))), some (.sh (.int kind)), none, none, none]) ((Y2 (l5 (tl := [some (.sh (.int (most : Int))), none, none, none, none]) e1 rfl)).trans rfl) ?_
 refine seqI (ρ' := [some (.ob p (RL c3 k3)), some (.sh (.int (most : Int))), some (.sh (.int kind)), some (.sh (.int (n : Int))), none, none]) ?_ ?_
 ·have q1 : t3 (z8 (D1 zf7 (z8 (mc (.int 4)) (z8 (m2 addD (mvar 1) (mc (.int 1))) anil))) (z8 (D1 zf7 (z8 (mc (.int 9)) (z8 (m2 addD (mvar 1) (mc (.int 1))) anil))) (z8 (m2 addD (mvar 1) (mc (.int 1))) anil))) [some (.ob p (RL c1 k1)), some (.sh (.int (most : Int))), some (.sh (.int kind)), none, none, none] = some [.int (min 4 ((most : Int) + 1)), .int (min 9 ((most : Int) + 1)), .int ((most : Int) + 1)] := by
   simp_arith [xy1, i3, if_true]
  refine (Y2 (ρ1 := [some (.ob p (RL c3 k3)), some (.sh (.int (most : Int))), some (.sh (.int kind)), none, none, none]) (zy9 (ρ1 := [some (.ob p (RL c2 k2)), some (.sh (.int (most : Int))), some (.sh (.int kind)), none, none, none]) (p := p) (r2 := RL c1 k1) rfl (l8 (X5 (Y7 (r6 q1)) (l5 (tl := [some (.sh (.int (most : Int))), some (.sh (.int kind)), none, none, none]) e2 rfl) (g := .int m) hm1) (V5 y6)) rfl (e3 p) rfl)).trans rfl
 have kn : okR (n : Int) = true := T6 (by omega) (by omega)
 refine seqI (ρ' := envW p c4 k4 most kind n f none) ?_ ?_
 ·refine (Y2 (zt7 (ρ := [some (.ob p (RL c3 k3)), some (.sh (.int (most : Int))), some (.sh (.int kind)), some (.sh (.int (n : Int))), none, none]) (rr := p) (r0 := RL c3 k3) (r1 := RL c4 k4) rfl (its := ((List.range n).map fun (i : Nat) => (i : Int)).map .int) ?_ (out := f.map .int) (ρb := [o', some (.own (RL c4 k4)), some (.sh (.int kind))]) e4 rfl)).trans rfl
  unfold j8
  rw [z7 (d := .int (n : Int)) rfl y6, Option.bind_some, zr2 kn, Int.toNat_natCast, zz7]
 refine seqI (ρ' := envW p c5 k5 most kind n f (some (.sh (.int sh)))) ((Y2 (l5 (tl := [some (.sh (.int (most : Int))), some (.sh (.int kind)), some (.sh (.int (n : Int))), some (.sh (.lst (f.map .int))), none]) e5 rfl)).trans rfl) ?_
 refine seqI (E2 (g := G1 f) fun _ => ?_) ?_
 ·refine r6 ?_
  unfold zq4
  show (match L0 (f.map D.int) with | some ns => if ns.length < 64 then some ((G1 ns).map D.int) else none | none => none) = _
  rw [yk0]
  show (if f.length < 64 then some ((G1 f).map D.int) else none) = _
  rw [if_pos (by omega)]
 show mseq _ _ (envW p c5 k5 most kind n f1 (some (.sh (.int sh)))) = _
 refine seqI (E2 (g := g2) fun _ => ?_) ?_
 ·refine r6 ?_
  unfold V0
  have ee : j8 zd5 (z8 (mvar 4) anil) (envW p c5 k5 most kind n f1 (some (.sh (.int sh)))) = some ((List.range f1.length).map fun (i : Nat) => D.tup [.int (i : Int), .int (f1.getD i 0)]) := by
   unfold j8
   rw [z7 (x := mvar 4) (d := .lst (f1.map .int)) rfl y6, Option.bind_some]
   show some (zw2 0 (f1.map .int)) = _
   rw [zw1]
   simp only [Nat.zero_add]
  rw [ee, Option.bind_some]
  refine (V3 (f := fun (i : Nat) => D.tup [.int (i : Int), .int (f1.getD i 0)]) (G := fun (i : Nat) => D.int (f1.getD i 0 + (if (i : Int) % 2 = 0 then 7 else -7))) (fun _ ρ => ∃ x y, ρ = [x, y]) (by
   rintro i ds ρ ⟨x, y, rfl⟩
   refine ⟨[some (.sh (.int (i : Int))), some (.sh (.int (f1.getD i 0)))], rfl, rfl, ?_, _, _, rfl⟩
   have ix : mix (t3 (z8 (mc (.int 7)) (z8 (m1 negD (mc (.int 7))) anil))) (m2 modD (mvar 0) (mc (.int 2))) [some (.sh (.int (i : Int))), some (.sh (.int (f1.getD i 0)))] = some (.int (if (i : Int) % 2 = 0 then 7 else -7)) := by
    refine W9 (t5 (z7 (d := .int 7) rfl (z7 (d := .int (-7)) rfl y6)) i2) (k := (i : Int) % 2) ?_ ?_
    ·simp_arith [S9 (i : Int) 2 (by decide), if_true]
    ·have := zk3 (x := (i : Int)) (show (0 : Int) < 2 by decide)
     have : (i : Int) % 2 = 0 \/ (i : Int) % 2 = 1 := by omega
     rcases this with h | h
     ·rw [h]; rfl
     ·rw [h]; rfl
   rw [g4 (a := .int (f1.getD i 0)) rfl ix]; rfl) (List.range f1.length) _ [] ⟨none, none, rfl⟩ (u0 (by simp; omega))).trans ?_
  rw [nil_append]
  show some _ = some (List.map D.int (List.map _ (List.range f1.length)))
  rw [map_map]
  rfl
 show mseq _ _ (envW p c5 k5 most kind n f2 (some (.sh (.int sh)))) = _
 refine seqI (E2 (g := g3) fun _ => ?_) ?_
 ·refine r6 ?_
  have ec : mcut (bvar 4) g8 (i7 (mc (.int 1))) (envW p c5 k5 most kind n f2 (some (.sh (.int sh)))) = some ((f2.take 1).map .int) := by
   unfold mcut
   show some (cutL (f2.map D.int) none (some 1)) = _
   rw [G5]
   exact congrArg (fun z => some (List.map D.int z)) (zd9 f2 1)
  have hl1 : ((f2.take 1).map D.int).length <= 1 := by rw [length_map, length_take]; omega
  have big := u7
  rw [zf6 ec (k := (n : Int)) rfl (by
   unfold zr3
   simp only [Bool.and_eq_true, decide_eq_true_eq]
   refine ⟨⟨by omega, by omega⟩, ?_⟩
   rw [Int.toNat_natCast]
   exact Nat.le_trans (Nat.mul_le_mul_right n hl1) (by omega)), Int.toNat_natCast]
  show some _ = some (List.map D.int (List.replicate n (f2.take 1)).flatten)
  rw [map_flatten, map_replicate]
 show N4 0 (mpu (mvar 4)) (envW p c5 k5 most kind n f3 (some (.sh (.int sh)))) = _
 exact S8 (Y7 (d := .lst (f3.map .int)) rfl) rfl
theorem zo7 (c k : Int) : ∃ (s c' k' : Int), 1 <= s /\ s <= 100000000000000000000000000000 /\ ∀ p, m_Z7 p (RL c k) [] = some (.sh (.int s), RL c' k') := by
 have i5 : 0 + 1 + 1 + 1 + 1 + 1 <= sizeLine := u0 (by decide)
 obtain ⟨x, c1, k1, l1, u1, e1⟩ := m7 c k 4 (by decide) (by decide)
 obtain ⟨y, c2, k2, l2, u2, e2⟩ := m7 c1 k1 40 (by decide) (by decide)
 obtain ⟨z, c3, k3, l3, u3, e3⟩ := m7 c2 k2 5 (by decide) (by decide)
 have p29 : (10 : Int) ^ (29 : Int).toNat = 100000000000000000000000000000 := by decide
 have o29 : yw8 10 29 = true := by decide
 obtain ⟨s, hs, hs2⟩ : ∃ s, atI [D.int 1, .int 1, .int (1 + x), .int (1 + y), .int 100000000000000000000000000000] z = some (.int s) /\ (1 <= s /\ s <= 100000000000000000000000000000) := by
  have : z = 0 \/ z = 1 \/ z = 2 \/ z = 3 \/ z = 4 := by omega
  rcases this with h | h | h | h | h <;> subst h <;> exact ⟨_, rfl, by omega⟩
 refine ⟨s, c3, k3, hs2.1, hs2.2, fun p => ?_⟩
 unfold m_Z7 b_Z7
 refine S2 (S8 (X5 (zq6 (l8 (Y7 (d := .int 1) rfl) (l8 (Y7 (d := .int 1) rfl) (l8 (X5 (Y7 (d := .int 1) rfl) (l5 (tl := []) e1 rfl) (g := .int (1 + x)) rfl) (l8 (X5 (Y7 (d := .int 1) rfl) (l5 (tl := []) e2 rfl) (g := .int (1 + y)) rfl) (V5 (z7 (d := .int 100000000000000000000000000000) ?_ y6)))))) i5) (l5 (tl := []) e3 rfl) (g := .int s) hs) rfl)
 simp_arith [p29, o29, if_true]
end
section
open PySem L2
theorem zn8 : ∀ (xs : List Int) (o : Option S) (acc : List Int), acc.length + xs.length <= 1000 -> zp4 (.nm 0) (t3 (z8 (mvar 0) (z8 (mc (.int 0)) anil))) (xs.map .int) [o] (acc.map fun c => RL c 0) = some ((acc ++ xs).map fun c => RL c 0)
 | [], o, acc, _ => by rw [append_nil]; rfl
 | x :: xs, o, acc, h => by
  have i2 : 0 + 1 + 1 <= sizeLine := u0 (by decide)
  have big := u7
  rw [map_cons, zp4]
  show (match t3 (z8 (mvar 0) (z8 (mc (.int 0)) anil)) [some (.sh (.int x))] with | some ds => if (acc.map fun c => RL c 0).length < sizeLine then zp4 _ _ (xs.map .int) [some (.sh (.int x))] ((acc.map fun c => RL c 0) ++ [ds]) else none | none => none) = _
  rw [t5 (z7 (d := .int x) rfl (z7 (d := .int 0) rfl y6)) i2]
  have hz : (acc.map fun c => RL c 0).length < sizeLine := by rw [length_map]; simp at h; omega
  simp only [hz, if_true]
  have := zn8 xs (some (.sh (.int x))) (acc ++ [x]) (by simp at h ⊢; omega)
  rw [map_append, append_assoc] at this
  exact this
theorem xu8 (xs : List Int) (h : xs.length <= 63) : ∃ cs : List Int, O9 [.lst (xs.map .int)] = some (cs.map fun c => RL c 0) := by
 unfold O9 runP
 have i2 : 0 + 1 + 1 <= sizeLine := u0 (by decide)
 have e0 : v3 (m2 eqSD (mlen (bvar 0)) (mc (.int 0))) (u5 1 [.lst (xs.map .int)]) = some ((xs.length : Int) == 0) := by
  rw [xk6 (i := (xs.length : Int)) (by rw [j5 (show bvar 0 _ = some (xs.map .int) from rfl), length_map])]
 rw [e0]
 cases hb : ((xs.length : Int) == 0) with
 | true =>
  refine ⟨[0], ?_⟩
  show yn2 _ _ = _
  unfold yn2
  rw [t5 (z7 (d := .int 0) rfl (z7 (d := .int 0) rfl y6)) i2]
  rfl
 | false =>
  refine ⟨cutI xs none (some 63), ?_⟩
  show zt8 _ _ _ _ _ = _
  unfold zt8
  have c1 : v7 (mlst (mcut (bvar 0) g8 (i7 (mc (.int 63))))) (u5 1 [.lst (xs.map .int)]) = some ((cutI xs none (some 63)).map .int) := by
   refine p9 (r6 ?_)
   unfold mcut
   exact congrArg some (G5 D.int xs none (some 63))
  rw [c1, Option.bind_some]
  have := yy9 xs none (some 63)
  exact zn8 (cutI xs none (some 63)) none [] (by simp; omega)
end
section
open PySem L2
abbrev Gn : List Str := ["least_step", "numbers", "weights", "lengths"]
abbrev Gf (s : Int) (ns ws ls : List Int) : List Fl := [.v (.int s), .l (ns.map .int), .l (ws.map .int), .l (ls.map .int)]
abbrev Gc (s : Int) (ns ws ls : List Int) : Cell := .ins "Grown" Gn (Gf s ns ws ls)
abbrev Go (s : Int) (ns ws ls : List Int) : D := .obj "Grown" Gn [.int s, .lst (ns.map .int), .lst (ws.map .int), .lst (ls.map .int)]
theorem zs6 (s : Int) (ns ws ls : List Int) : zu3 (Gc s ns ws ls) = Go s ns ws ls := rfl
theorem u9 {x y : MW} {ρ ρ' : Ro} {β β' : Bx} (h : x ρ β = some (.nx ρ', β')) : i8 x y ρ β = y ρ' β' := by unfold i8; rw [h]
theorem zz0 {m : MS} {ρ ρ' : Ro} {β : Bx} (h : m ρ = some (.nx ρ')) : wS m ρ β = some (.nx ρ', β) := by unfold wS; rw [h]
theorem Z2 (x : Addr) (c : Cell) (β : Bx) : List.lookup x ((x, c) :: β) = some c := by rw [lookup_cons, beq_self_eq_true]
theorem V9 (x : Addr) (c c' : Cell) (β : Bx) : updB x c' ((x, c) :: β) = (x, c') :: β := by unfold updB; rw [if_pos rfl]
theorem xp1 {i : Nat} {c f : Str} {x : Ro -> Bx -> Option D} {ρ : Ro} {β : Bx} {d : D} {p : Addr} {ns : List Str} {fs : List Fl} (h : x ρ β = some d) (hp : ρ[i]? = some (some (.sh (.ptr p)))) (hb : β.lookup p = some (.ins c ns fs)) (hn : ns.length < 1000) : yn3 i c f x ρ β = some (.nx ρ, updB p (.ins c (putN f (.v d) ns fs).1 (putN f (.v d) ns fs).2) β) := by
 unfold yn3; rw [h, Option.bind_some, hp]; simp only; rw [hb]; simp only; rw [if_pos ⟨by trivial, hn⟩]
theorem G4 {i : Nat} {c f : Str} {x : Ro -> Bx -> Option (List D)} {ρ : Ro} {β : Bx} {ds : List D} {p : Addr} {ns : List Str} {fs : List Fl} (h : x ρ β = some ds) (hp : ρ[i]? = some (some (.sh (.ptr p)))) (hb : β.lookup p = some (.ins c ns fs)) (hn : ns.length < 1000) : J8 i c f x ρ β = some (.nx ρ, updB p (.ins c (putN f (.l ds) ns fs).1 (putN f (.l ds) ns fs).2) β) := by
 unfold J8; rw [h, Option.bind_some, hp]; simp only; rw [hb]; simp only; rw [if_pos ⟨by trivial, hn⟩]
theorem A4 {i : Nat} {c f : Str} {x : Ro -> Bx -> Option D} {ρ : Ro} {β : Bx} {d : D} {ds : List D} {p : Addr} {ns : List Str} {fs : List Fl} (h : x ρ β = some d) (hp : ρ[i]? = some (some (.sh (.ptr p)))) (hb : β.lookup p = some (.ins c ns fs)) (hg : getN f ns fs = some (.l ds)) (hz : ds.length < sizeLine) : M1 i c f x ρ β = some (.nx ρ, updB p (.ins c ns (putN f (.l (ds ++ [d])) ns fs).2) β) := by
 unfold M1; rw [hp]; simp only; rw [hb]; simp only; rw [hg]; simp only; rw [if_pos ⟨by trivial, hz⟩, h]; rfl
theorem zg1 {n : Nat} {m : MW} {ds : List D} {ρ : Ro} {β β' : Bx} (h : m (u5 n ds) β = some (.nx ρ, β')) (hl : β'.length = β.length) : runW n m ds β = some (.sh .non, β') := by
 unfold runW; rw [h]; simp only [hl, Nat.sub_self, drop_zero]
theorem xq5 (x : Addr) (s : Int) (hs : 1 <= s) (β : Bx) : k9 [.ptr x, .int s] ((x, .ins "Grown" [] []) :: β) = some (.sh .non, (x, Gc s [] [] []) :: β) := by
 unfold k9 X3
 have i0 : 0 <= sizeLine := Nat.zero_le _
 have p1 : (putN "least_step" (.v (.int s)) [] []) = ((["least_step"] : List Str), [Fl.v (.int s)]) := rfl
 have p2 : (putN "numbers" (.l []) ["least_step"] [Fl.v (.int s)]) = ((["least_step", "numbers"] : List Str), [Fl.v (.int s), .l []]) := rfl
 have p3 : (putN "weights" (.l []) ["least_step", "numbers"] [Fl.v (.int s), .l []]) = ((["least_step", "numbers", "weights"] : List Str), [Fl.v (.int s), .l [], .l []]) := rfl
 have p4 : (putN "lengths" (.l []) ["least_step", "numbers", "weights"] [Fl.v (.int s), .l [], .l []]) = (Gn, [Fl.v (.int s), .l [], .l [], .l []]) := rfl
 refine zg1 (ρ := [some (.sh (.ptr x)), some (.sh (.int s))]) ?_ rfl
 rw [u9 (zz0 (yz7 (v6 (z7 (d := .int s) rfl y6) (d6 s hs))))]
 rw [u9 (xp1 (d := .int s) (p := x) (ns := []) (fs := []) rfl rfl (Z2 _ _ _) (by decide)), V9, p1]
 rw [u9 (G4 (ds := []) (p := x) (ns := ["least_step"]) (fs := [Fl.v (.int s)]) (t5 y6 i0) rfl (Z2 _ _ _) (by decide)), V9, p2]
 rw [u9 (G4 (ds := []) (p := x) (t5 y6 i0) rfl (Z2 _ _ _) (by show 2 < 1000; decide)), V9, p3]
 rw [G4 (ds := []) (p := x) (t5 y6 i0) rfl (Z2 _ _ _) (by show 3 < 1000; decide), V9, p4]
 rfl
theorem R8 {c f : Str} {m : ME} {ρ : Ro} {d e : D} (h : m ρ = some d) (h2 : fldD c f d = some e) : mfld c f m ρ = some e := by unfold mfld; rw [h, Option.bind_some, h2]
theorem V8 (s : Int) (ns ws ls : List Int) : fldD "Grown" "numbers" (Go s ns ws ls) = some (.lst (ns.map .int)) := rfl
theorem zh7 (s : Int) (ns ws ls : List Int) : fldD "Grown" "weights" (Go s ns ws ls) = some (.lst (ws.map .int)) := rfl
theorem yh2 (s : Int) (ns ws ls : List Int) : fldD "Grown" "lengths" (Go s ns ws ls) = some (.lst (ls.map .int)) := rfl
theorem yh1 (s : Int) (ns ws ls : List Int) : fldD "Grown" "least_step" (Go s ns ws ls) = some (.int s) := rfl
theorem M9 {c mn : Str} {f : MF} {mo : ME} {ρ : Ro} {ns : List Str} {ds0 : List D} {d : D} (h : mo ρ = some (.obj c ns ds0)) (hn : mn ∉ ns) (h2 : f [.obj c ns ds0] = some (.sh d)) : p5 c mn f mo anil ρ = some d := by
 unfold p5; rw [h]; simp only; rw [if_pos ⟨trivial, hn⟩]; show (some []).bind _ = _; rw [Option.bind_some]; rw [h2]
def Pc (s : Int) (ns : List Int) (w : D) (cs : List D) : Prop := ∀ ρ m, m ρ = some [D.lst (ns.map .int), .int s] -> t7 ze2 m ρ = some (.tup [w, .lst cs])
theorem zv4 {s : Int} {ns ws ls : List Int} {w : D} {cs : List D} (h : Pc s ns w cs) : ze4 [Go s ns ws ls] = some (.sh (.tup [w, .lst cs])) := by
 unfold ze4 xo6
 exact c8 (W8 (h _ _ (z7 (R8 (d := Go s ns ws ls) rfl (V8 s ns ws ls)) (z7 (R8 (d := Go s ns ws ls) rfl (yh1 s ns ws ls)) y6))))
def Lg (ns : List Int) (cs : List D) : Int := if ns.isEmpty then 0 else (cs.length : Int) + 1
theorem K1 {s : Int} {ns ws ls : List Int} {w : D} {cs : List D} (h : Pc s ns w cs) : E9 [Go s ns ws ls] = some (.sh (.int (Lg ns cs))) := by
 unfold E9 xo9
 refine c8 ?_
 have e1 := M9 (mo := mvar 0) (mn := "pieces") (ρ := u5 3 [Go s ns ws ls]) (f := ze4) (d := .tup [w, .lst cs]) (c := "Grown") (ns := Gn) (ds0 := [.int s, .lst (ns.map .int), .lst (ws.map .int), .lst (ls.map .int)]) rfl (by decide +kernel) (zv4 h)
 refine seqI (ρ' := [some (.sh (Go s ns ws ls)), some (.sh w), some (.sh (.lst cs))]) (by unfold masg; rw [e1]; rfl) ?_
 refine W8 ?_
 have e2 : mtru (mfld "Grown" "numbers" (mvar 0)) [some (.sh (Go s ns ws ls)), some (.sh w), some (.sh (.lst cs))] = some (!(ns.map D.int).isEmpty) := by
  unfold mtru; rw [R8 (d := Go s ns ws ls) rfl (V8 s ns ws ls)]; rfl
 unfold mite
 rw [e2]
 unfold Lg
 cases ns with
 | nil => rfl
 | cons a ns =>
  have e3 : mlen (bvar 2) [some (.sh (Go s (a :: ns) ws ls)), some (.sh w), some (.sh (.lst cs))] = some (.int cs.length) := by unfold mlen; rfl
  show m2 addD (mlen (bvar 2)) (mc (.int 1)) _ = some (.int ((cs.length : Int) + 1))
  unfold m2
  rw [e3]
  rfl
theorem Y3 {x : Addr} {c c' : Cell} : ∀ {β : Bx}, β.lookup x = some c -> (updB x c' β).lookup x = some c'
 | [], h => by cases h
 | (q, d) :: β, h => by
  unfold updB
  by_cases z : q = x
  ·rw [if_pos z, lookup_cons, beq_iff_eq.mpr z.symm]
  ·have hb : (x == q) = false := by
    cases w : x == q with
    | false => rfl
    | true => exact absurd (beq_iff_eq.mp w).symm z
   rw [if_neg z, lookup_cons, hb]
   rw [lookup_cons, hb] at h
   exact Y3 h
theorem O2 {x : Addr} {c c' : Cell} : ∀ {β : Bx}, updB x c' (updB x c β) = updB x c' β
 | [] => rfl
 | (q, d) :: β => by
  by_cases z : q = x
  ·have e : ∀ (a b : Cell) (γ : Bx), updB x a ((q, b) :: γ) = (q, a) :: γ := fun a b γ => by rw [updB, if_pos z]
   rw [e, e, e]
  ·have e : ∀ (a b : Cell) (γ : Bx), updB x a ((q, b) :: γ) = (q, b) :: updB x a γ := fun a b γ => by rw [updB, if_neg z]
   rw [e, e, e, O2]
theorem zp3 {x : Addr} {c : Cell} : ∀ {β : Bx}, (updB x c β).length = β.length
 | [] => rfl
 | (q, d) :: β => by
  unfold updB
  by_cases z : q = x
  ·rw [if_pos z]; rfl
  ·rw [if_neg z, length_cons, zp3, length_cons]
theorem yh5 (x : Addr) (c : Cell) (β : Bx) (hb : β.lookup x = some c) (d1 d2 : D) (h1 : ∀ a, d1 ≠ .ptr a) (h2 : ∀ a, d2 ≠ .ptr a) : thaw [some (.sh (.ptr x)), some (.sh d1), some (.sh d2)] β = [some (.sh (zu3 c)), some (.sh d1), some (.sh d2)] := by
 have t : ∀ d, (∀ a, d ≠ D.ptr a) -> Y9 β (some (.sh d)) = some (.sh d) := fun d hd => by
  unfold Y9
  split
  ·rename_i p e
   cases e
   exact absurd rfl (hd p)
  ·rfl
 have t0 : Y9 β (some (.sh (.ptr x))) = some (.sh (zu3 c)) := by
  unfold Y9; simp only; rw [hb]
 unfold thaw
 rw [map_cons, map_cons, map_cons, map_nil, t0, t d1 h1, t d2 h2]
theorem xi1 (x : Addr) (s : Int) (ns ws ls : List Int) (v g : Int) (β : Bx) (hb : β.lookup x = some (Gc s ns ws ls)) {w : D} {cs : List D} (hg : 0 <= g) (h : Pc s (ns ++ [v]) w cs) (l1 : ns.length < 100000) (l2 : ws.length < 100000) (l3 : ls.length < 100000) : Y0 [.ptr x, .int v, .int g] β = some (.sh .non, updB x (Gc s (ns ++ [v]) (ws ++ [g]) (ls ++ [Lg (ns ++ [v]) cs])) β) := by
 unfold Y0 L8
 have z : ∀ {xs : List Int}, xs.length < 100000 -> (xs.map D.int).length < sizeLine := fun {xs} q => by rw [length_map]; exact Nat.lt_of_lt_of_le q (Nat.le_trans (by decide) u7)
 have ap : ∀ (xs : List Int) (y : Int), xs.map D.int ++ [D.int y] = (xs ++ [y]).map D.int := fun xs y => by rw [map_append]; rfl
 have q1 : (putN "numbers" (.l ((ns ++ [v]).map .int)) Gn (Gf s ns ws ls)).2 = Gf s (ns ++ [v]) ws ls := rfl
 have q2 : (putN "weights" (.l ((ws ++ [g]).map .int)) Gn (Gf s (ns ++ [v]) ws ls)).2 = Gf s (ns ++ [v]) (ws ++ [g]) ls := rfl
 have q3 : (putN "lengths" (.l ((ls ++ [Lg (ns ++ [v]) cs]).map .int)) Gn (Gf s (ns ++ [v]) (ws ++ [g]) ls)).2 = Gf s (ns ++ [v]) (ws ++ [g]) (ls ++ [Lg (ns ++ [v]) cs]) := rfl
 refine zg1 (ρ := [some (.sh (.ptr x)), some (.sh (.int v)), some (.sh (.int g))]) ?_ zp3
 rw [u9 (zz0 (yz7 (v6 (z7 (d := .int g) rfl y6) (R3 g hg))))]
 rw [u9 (A4 (d := .int v) (ds := ns.map .int) (p := x) rfl rfl hb rfl (z l1)), ap, q1]
 rw [u9 (A4 (d := .int g) (ds := ws.map .int) (p := x) rfl rfl (Y3 hb) rfl (z l2)), O2, ap, q2]
 have lk : U8 (p5 "Grown" "length" E9 (mvar 0) anil) [some (.sh (.ptr x)), some (.sh (.int v)), some (.sh (.int g))] (updB x (Gc s (ns ++ [v]) (ws ++ [g]) ls) β) = some (.int (Lg (ns ++ [v]) cs)) := by
  unfold U8
  rw [yh5 x _ _ (Y3 hb) (.int v) (.int g) (fun a z => by cases z) (fun a z => by cases z), zs6, M9 (mo := mvar 0) (mn := "length") (f := E9) (c := "Grown") (ns := Gn) (ds0 := [.int s, .lst ((ns ++ [v]).map .int), .lst ((ws ++ [g]).map .int), .lst (ls.map .int)]) rfl (by decide +kernel) (K1 h)]
  rfl
 show M1 0 "Grown" "lengths" (U8 (p5 "Grown" "length" E9 (mvar 0) anil)) [some (.sh (.ptr x)), some (.sh (.int v)), some (.sh (.int g))] (updB x (Gc s (ns ++ [v]) (ws ++ [g]) ls) β) = _
 rw [A4 (d := .int (Lg (ns ++ [v]) cs)) (ds := ls.map .int) (p := x) lk rfl (Y3 hb) rfl (z l3), O2, ap, q3]
theorem B4 (x : Addr) (c : Cell) (β : Bx) (hb : β.lookup x = some c) (d1 : D) (o : Option S) (h1 : ∀ a, d1 ≠ .ptr a) (h2 : ∀ a, o ≠ some (.sh (.ptr a))) : thaw [some (.sh (.ptr x)), some (.sh d1), o] β = [some (.sh (zu3 c)), some (.sh d1), o] := by
 have t : ∀ y : Option S, (∀ a, y ≠ some (.sh (.ptr a))) -> Y9 β y = y := fun y hy => by
  unfold Y9
  split
  ·rename_i p
   exact absurd rfl (hy p)
  ·rfl
 have t0 : Y9 β (some (.sh (.ptr x))) = some (.sh (zu3 c)) := by
  unfold Y9; simp only; rw [hb]
 unfold thaw
 rw [map_cons, map_cons, map_cons, map_nil, t0, t _ (fun a z => by cases z; exact h1 a rfl), t o h2]
theorem xq4 (xs : List Int) : (xs.map D.int).all isSc = true := by
 induction xs with
 | nil => rfl
 | cons a xs ih => rw [map_cons, all_cons, ih]; rfl
theorem xy4 {c : Ro -> Bx -> Option Bool} {x y : MW} {ρ : Ro} {β : Bx} (h : c ρ β = some false) : mifW c x y ρ β = y ρ β := by unfold mifW; rw [h]
theorem xx6 (x : Addr) (s : Int) (ns ws ls : List Int) (k : Nat) (β : Bx) (hb : β.lookup x = some (Gc s ns ws ls)) {w : D} {cs : List D} (hk : k <= ns.length) (hw : ws.length = ns.length) (h : Pc s (ns.take (ns.length - k)) w cs) (l3 : ls.length < 100000) :
  a0 [.ptr x, .int (k : Int)] β = some (.sh .non, updB x (Gc s (ns.take (ns.length - k)) (ws.take (ns.length - k)) (ls ++ [Lg (ns.take (ns.length - k)) cs])) β) := by
 unfold a0 P8
 have ap : ∀ (xs : List Int) (y : Int), xs.map D.int ++ [D.int y] = (xs ++ [y]).map D.int := fun xs y => by rw [map_append]; rfl
 have z : (ls.map D.int).length < sizeLine := by rw [length_map]; exact Nat.lt_of_lt_of_le l3 (Nat.le_trans (by decide) u7)
 have len : ∀ (o : Option S), mlen (v7 (mfld "Grown" "numbers" (mvar 0))) [some (.sh (Go s ns ws ls)), some (.sh (.int (k : Int))), o] = some (.int (ns.length : Int)) := fun o => by
  unfold mlen; rw [p9 (R8 (d := Go s ns ws ls) rfl (V8 s ns ws ls))]; show some (D.int ((ns.map D.int).length : Int)) = _; rw [length_map]
 refine zg1 (ρ := [some (.sh (.ptr x)), some (.sh (.int (k : Int))), some (.sh (.int ((ns.length - k : Nat) : Int)))]) ?_ zp3
 rw [show u5 3 [D.ptr x, .int (k : Int)] = [some (.sh (.ptr x)), some (.sh (.int (k : Int))), none] from rfl]
 have e1 : zp2 (cor (v3 (m2 ltD (mvar 1) (mc (.int 0)))) (v3 (m2 gtD (mvar 1) (mlen (v7 (mfld "Grown" "numbers" (mvar 0))))))) [some (.sh (.ptr x)), some (.sh (.int (k : Int))), none] β = some false := by
  unfold zp2
  rw [B4 x _ _ hb (.int (k : Int)) none (fun a z => by cases z) (fun a z => by cases z), zs6]
  refine zi1 (a := false) (b := false) ?_ ?_
  ·rw [ya3 (i := (k : Int)) (j := 0) rfl rfl, decide_eq_false (by omega)]
  ·unfold v3 m2
   rw [len]
   show some (decide ((k : Int) > (ns.length : Int))) = _
   rw [decide_eq_false (by omega)]
 rw [u9 (ρ' := [some (.sh (.ptr x)), some (.sh (.int (k : Int))), none]) (β' := β) (by rw [xy4 e1]; rfl)]
 have e2 : yo6 2 (U8 (m2 subD (mlen (v7 (mfld "Grown" "numbers" (mvar 0)))) (mvar 1))) [some (.sh (.ptr x)), some (.sh (.int (k : Int))), none] β = some (.nx [some (.sh (.ptr x)), some (.sh (.int (k : Int))), some (.sh (.int ((ns.length - k : Nat) : Int)))], β) := by
  unfold yo6 U8
  rw [B4 x _ _ hb (.int (k : Int)) none (fun a z => by cases z) (fun a z => by cases z), zs6]
  have : m2 subD (mlen (v7 (mfld "Grown" "numbers" (mvar 0)))) (mvar 1) [some (.sh (Go s ns ws ls)), some (.sh (.int (k : Int))), none] = some (.int ((ns.length - k : Nat) : Int)) := by
   unfold m2
   rw [len]
   show some (D.int ((ns.length : Int) - (k : Int))) = _
   rw [show ((ns.length - k : Nat) : Int) = (ns.length : Int) - (k : Int) by omega]
  rw [this]
  rfl
 rw [u9 e2]
 have cut' : ∀ (f : Str) (ms us vs ts : List Int) (γ : Bx), γ.lookup x = some (Gc s us vs ts) -> fldD "Grown" f (Go s us vs ts) = some (.lst (ms.map .int)) -> yu3 (mcut (v7 (mfld "Grown" f (mvar 0))) g8 (i7 (mvar 2))) [some (.sh (.ptr x)), some (.sh (.int (k : Int))), some (.sh (.int ((ns.length - k : Nat) : Int)))] γ = some ((ms.take (ns.length - k)).map .int) := fun f ms us vs ts γ hγ hf => by
  unfold yu3
  rw [B4 x _ _ hγ (.int (k : Int)) (some (.sh (.int ((ns.length - k : Nat) : Int)))) (fun a z => by cases z) (fun a z => by cases z), zs6]
  have : mcut (v7 (mfld "Grown" f (mvar 0))) g8 (i7 (mvar 2)) [some (.sh (Go s us vs ts)), some (.sh (.int (k : Int))), some (.sh (.int ((ns.length - k : Nat) : Int)))] = some ((ms.take (ns.length - k)).map .int) := by
   unfold mcut
   rw [p9 (R8 (d := Go s us vs ts) rfl hf)]
   show some (cutL (ms.map D.int) none (some ((ns.length - k : Nat) : Int))) = _
   rw [G5, zd9]
  rw [this, Option.bind_some, if_pos (xq4 _)]
 have q1 : putN "numbers" (.l ((ns.take (ns.length - k)).map .int)) Gn (Gf s ns ws ls) = (Gn, Gf s (ns.take (ns.length - k)) ws ls) := rfl
 have q2 : putN "weights" (.l ((ws.take (ns.length - k)).map .int)) Gn (Gf s (ns.take (ns.length - k)) ws ls) = (Gn, Gf s (ns.take (ns.length - k)) (ws.take (ns.length - k)) ls) := rfl
 have q3 : (putN "lengths" (.l ((ls ++ [Lg (ns.take (ns.length - k)) cs]).map .int)) Gn (Gf s (ns.take (ns.length - k)) (ws.take (ns.length - k)) ls)).2 = Gf s (ns.take (ns.length - k)) (ws.take (ns.length - k)) (ls ++ [Lg (ns.take (ns.length - k)) cs]) := rfl
 rw [u9 (G4 (p := x) (ns := Gn) (fs := Gf s ns ws ls) (cut' "numbers" ns ns ws ls β hb (V8 s ns ws ls)) rfl hb (by decide +kernel)), q1]
 rw [u9 (G4 (p := x) (ns := Gn) (fs := Gf s (ns.take (ns.length - k)) ws ls) (cut' "weights" ws (ns.take (ns.length - k)) ws ls _ (Y3 hb) (zh7 s _ ws ls)) rfl (Y3 hb) (by decide +kernel)), O2, q2]
 have lk : U8 (p5 "Grown" "length" E9 (mvar 0) anil) [some (.sh (.ptr x)), some (.sh (.int (k : Int))), some (.sh (.int ((ns.length - k : Nat) : Int)))] (updB x (Gc s (ns.take (ns.length - k)) (ws.take (ns.length - k)) ls) β) = some (.int (Lg (ns.take (ns.length - k)) cs)) := by
  unfold U8
  rw [B4 x _ _ (Y3 hb) (.int (k : Int)) (some (.sh (.int ((ns.length - k : Nat) : Int)))) (fun a z => by cases z) (fun a z => by cases z), zs6, M9 (mo := mvar 0) (mn := "length") (f := E9) (c := "Grown") (ns := Gn) (ds0 := [.int s, .lst ((ns.take (ns.length - k)).map .int), .lst ((ws.take (ns.length - k)).map .int), .lst (ls.map .int)]) rfl (by decide +kernel) (K1 h)]
  rfl
 show M1 0 "Grown" "lengths" (U8 (p5 "Grown" "length" E9 (mvar 0) anil)) [some (.sh (.ptr x)), some (.sh (.int (k : Int))), some (.sh (.int ((ns.length - k : Nat) : Int)))] (updB x (Gc s (ns.take (ns.length - k)) (ws.take (ns.length - k)) ls) β) = _
 rw [A4 (d := .int (Lg (ns.take (ns.length - k)) cs)) (ds := ls.map .int) (p := x) lk rfl (Y3 hb) rfl z, O2, ap, q3]
theorem yb9 (s : Int) (ns ws ls : List Int) : ym0 [Go s ns ws ls] = some (.fr (ns.map .int)) := by
 unfold ym0 xo2
 refine yr5 ?_
 unfold zf5
 rw [p9 (R8 (d := Go s ns ws ls) rfl (V8 s ns ws ls))]
 rfl
theorem O1 (s : Int) (ns ws ls : List Int) : m_Z8 [Go s ns ws ls] = some (.fr (ls.map .int)) := by
 unfold m_Z8 b_Z8
 refine yr5 ?_
 unfold zf5
 rw [p9 (R8 (d := Go s ns ws ls) rfl (yh2 s ns ws ls))]
 rfl
end
section
open PySem L2
def cutD (s : Int) (ns : List Int) : List D := (NI (Z7 s ns)).map .int
def xx1 (s : Int) (ns : List Int) : D := .str (kd (W0 s ns))
theorem yp7 (s : Int) (ns : List Int) (hs : 1 <= s) (hl : ns.length <= 300) : Pc s ns (xx1 s ns) (cutD s ns) := fun ρ m h => v6 h (zm1 ns s hs hl)
def lenG (s : Int) (ns : List Int) : Int := Lg ns (cutD s ns)
theorem zq9 {c mn : Str} {f : MF} {mo : ME} {ρ : Ro} {ns : List Str} {ds0 es : List D} (h : mo ρ = some (.obj c ns ds0)) (hn : mn ∉ ns) (h2 : f [.obj c ns ds0] = some (.fr es)) : p5 c mn f mo anil ρ = some (.lst es) := by
 unfold p5; rw [h]; simp only; rw [if_pos ⟨trivial, hn⟩]; show (some []).bind _ = _; rw [Option.bind_some]; rw [h2]
theorem xp2 (n : Nat) (w : Str) (xs : List Int) : eqF (n + 3) (.tup [.str w, .lst (xs.map .int)]) (.tup [.str w, .lst (xs.map .int)]) = some true := by
 show ((zipE (eqF (n + 2)) [.str w, .lst (xs.map .int)] [.str w, .lst (xs.map .int)]).map fun b => b && _) = _
 simp only [zipE, xy7 n, Option.bind_some, Bool.and_self]
 show ((some (w == w)).bind _).map _ = _
 rw [show (w == w) = true from beq_self_eq_true w]; rfl
theorem yj0 (n : Nat) (i : Int) : eqF (n + 1) (.int i) (.int i) = some true := by
 show some (i == i) = _
 rw [beq_self_eq_true]
def same (es : List D) : Prop := ∀ neg, eqFD neg (.lst es) (.lst es) = some (.bl (!neg))
theorem zz5 (xs : List Int) : same (xs.map .int) := fun neg => by unfold eqFD; rw [xy7 6]; cases neg <;> rfl
theorem G3 (s : Int) (row : List Int) (hs : 1 <= s) (hr : row.length <= 300) : J9 [.lst (row.map .int), .int s] = some (.sh (.int (lenG s row))) := by
 obtain ⟨l, e, b⟩ := yu4 row s hs hr
 rw [ze9 row s l e, <- yw1 hs hr b]
 unfold lenG Lg cutD
 cases row with
 | nil => rfl
 | cons a r =>
  show some (Rt.sh (D.int (1 + ((NI (Z7 s (a :: r))).length : Int)))) = some (Rt.sh (D.int ((((NI (Z7 s (a :: r))).map D.int).length : Int) + 1)))
  rw [length_map, Int.add_comm]
theorem yz2 (a : Int) : eqFD true (.int a) (.int a) = some (.bl false) := by
 unfold eqFD; rw [yj0 7]; rfl
theorem zv0 (s : Int) (ns ws ls : List Int) (hs : 1 <= s) (hw : ws.length = ns.length) (h0 : ∀ x ∈ ws, 0 <= x) (hl : ns.length <= 300) : zp1 [Go s ns ws ls, .lst (ns.map .int), .lst (ws.map .int), .int s] = some (.sh (.bl true)) := by
 obtain ⟨l, eh⟩ := zd0 ns ws s hs hw h0 hl
 obtain ⟨v, ev⟩ := yv8 ns s hs hl
 have pc := yp7 s ns hs hl
 unfold zp1 xo8
 refine c8 ?_
 rw [show u5 4 [Go s ns ws ls, D.lst (ns.map .int), .lst (ws.map .int), .int s] = [some (.sh (Go s ns ws ls)), some (.sh (.lst (ns.map .int))), some (.sh (.lst (ws.map .int))), some (.sh (.int s))] from rfl]
 have ob : mvar 0 [some (.sh (Go s ns ws ls)), some (.sh (.lst (ns.map .int))), some (.sh (.lst (ws.map .int))), some (.sh (.int s))] = some (.obj "Grown" Gn [.int s, .lst (ns.map .int), .lst (ws.map .int), .lst (ls.map .int)]) := rfl
 have ar : z8 (mvar 1) (z8 (mvar 3) anil) [some (.sh (Go s ns ws ls)), some (.sh (.lst (ns.map .int))), some (.sh (.lst (ws.map .int))), some (.sh (.int s))] = some [.lst (ns.map .int), .int s] := z7 rfl (z7 rfl y6)
 have n1 : ("row" : Str) ∉ Gn := by decide +kernel
 have n2 : ("length" : Str) ∉ Gn := by decide +kernel
 have n3 : ("weight" : Str) ∉ Gn := by decide +kernel
 have n4 : ("how_many" : Str) ∉ Gn := by decide +kernel
 have n5 : ("pieces" : Str) ∉ Gn := by decide +kernel
 have c1 : v3 (meqB true (v7 (p5 "Grown" "row" ym0 (mvar 0) anil)) (bvar 1)) [some (.sh (Go s ns ws ls)), some (.sh (.lst (ns.map .int))), some (.sh (.lst (ws.map .int))), some (.sh (.int s))] = some false := by
  refine U4 ?_
  unfold meqB
  rw [p9 (zq9 ob n1 (yb9 s ns ws ls)), show bvar 1 _ = some (ns.map D.int) from rfl, Option.bind_some, Option.bind_some, zz5 _ true]
  rfl
 have c2 : v3 (m2 (eqFD true) (p5 "Grown" "length" E9 (mvar 0) anil) (t7 J9 (z8 (mvar 1) (z8 (mvar 3) anil)))) [some (.sh (Go s ns ws ls)), some (.sh (.lst (ns.map .int))), some (.sh (.lst (ws.map .int))), some (.sh (.int s))] = some false := by
  refine U4 ?_
  rw [g4 (M9 ob n2 (K1 pc)) (v6 ar (G3 s ns hs hl))]
  exact yz2 _
 have c3 : v3 (m2 (eqFD true) (p5 "Grown" "pieces" ze4 (mvar 0) anil) (t7 ze2 (z8 (mvar 1) (z8 (mvar 3) anil)))) [some (.sh (Go s ns ws ls)), some (.sh (.lst (ns.map .int))), some (.sh (.lst (ws.map .int))), some (.sh (.int s))] = some false := by
  refine U4 ?_
  rw [g4 (M9 ob n5 (zv4 pc)) (pc _ _ ar)]
  unfold eqFD
  rw [show eqF 8 (.tup [xx1 s ns, .lst (cutD s ns)]) (.tup [xx1 s ns, .lst (cutD s ns)]) = some true from xp2 5 (kd (W0 s ns)) (NI (Z7 s ns))]
  rfl
 have c4 : v3 (m2 (eqFD true) (p5 "Grown" "how_many" m_Z4 (mvar 0) anil) (t7 m_Z0 (z8 (mvar 1) (z8 (mvar 3) anil)))) [some (.sh (Go s ns ws ls)), some (.sh (.lst (ns.map .int))), some (.sh (.lst (ws.map .int))), some (.sh (.int s))] = some false := by
  have eg : m_Z4 [Go s ns ws ls] = some (.sh (.int v)) := by
   unfold m_Z4 b_Z4
   exact c8 (W8 (v6 (z7 (R8 (d := Go s ns ws ls) rfl (V8 s ns ws ls)) (z7 (R8 (d := Go s ns ws ls) rfl (yh1 s ns ws ls)) y6)) ev))
  refine U4 ?_
  rw [g4 (M9 ob n4 eg) (v6 ar ev)]
  exact yz2 _
 refine seqI (ρ' := [some (.sh (Go s ns ws ls)), some (.sh (.lst (ns.map .int))), some (.sh (.lst (ws.map .int))), some (.sh (.int s))]) (by rw [R7 (zi1 c1 (zi1 c2 c3))]; rfl) ?_
 refine seqI (ρ' := [some (.sh (Go s ns ws ls)), some (.sh (.lst (ns.map .int))), some (.sh (.lst (ws.map .int))), some (.sh (.int s))]) (by rw [R7 c4]; rfl) ?_
 have eg : yd7 [Go s ns ws ls] = some (.sh (.int (wt (xr ws) l))) := by
  unfold yd7 xo7
  refine c8 ?_
  have e1 := v6 (f := ze1) (m := z8 (mfld "Grown" "numbers" (mvar 0)) (z8 (mfld "Grown" "least_step" (mvar 0)) (z8 (mfld "Grown" "weights" (mvar 0)) anil))) (ρ := u5 3 [Go s ns ws ls]) (z7 (R8 (d := Go s ns ws ls) rfl (V8 s ns ws ls)) (z7 (R8 (d := Go s ns ws ls) rfl (yh1 s ns ws ls)) (z7 (R8 (d := Go s ns ws ls) rfl (zh7 s ns ws ls)) y6))) eh
  refine seqI (ρ' := [some (.sh (Go s ns ws ls)), some (.sh (.int (wt (xr ws) l))), some (.sh (L l))]) (by unfold masg; rw [e1]; rfl) rfl
 refine W8 ?_
 rw [g4 (M9 ob n3 eg) ((g4 (v6 (f := ze1) (m := z8 (mvar 1) (z8 (mvar 3) (z8 (mvar 2) anil))) (z7 (d := .lst (ns.map .int)) rfl (z7 (d := .int s) rfl (z7 (d := .lst (ws.map .int)) rfl y6))) eh) (b := .int 0) rfl).trans (show ixTD (HT (xr ws) l) (.int 0) = some (.int (wt (xr ws) l)) from rfl))]
 unfold eqFD
 rw [yj0 7]; rfl
theorem xi0 {i : Nat} {m : ML} {ρ : Ro} {β : Bx} {x : Addr} {s : Int} {ns ws ls : List Int} {v g : Int} (hp : ρ[i]? = some (some (.sh (.ptr x)))) (hb : β.lookup x = some (Gc s ns ws ls)) (hm : m ρ = some [.int v, .int g]) (hg : 0 <= g) (hs : 1 <= s) (l1 : ns.length < 300) (l2 : ws.length < 300) (l3 : ls.length < 100000) :
  M2 (N9 i "Grown" "put" Y0 m) ρ β = some (.nx ρ, updB x (Gc s (ns ++ [v]) (ws ++ [g]) (ls ++ [lenG s (ns ++ [v])])) β) := by
 unfold M2 N9
 rw [hp]; simp only; rw [hb]; simp only
 rw [if_pos ⟨trivial, by decide +kernel⟩, hm, Option.bind_some, xi1 x s ns ws ls v g β hb hg (yp7 s (ns ++ [v]) hs (by simp; omega)) (by omega) (by omega) l3]
 rfl
theorem ya5 {i : Nat} {m : ML} {ρ : Ro} {β : Bx} {x : Addr} {s : Int} {ns ws ls : List Int} {k : Nat} (hp : ρ[i]? = some (some (.sh (.ptr x)))) (hb : β.lookup x = some (Gc s ns ws ls)) (hm : m ρ = some [.int (k : Int)]) (hs : 1 <= s) (hk : k <= ns.length) (hw : ws.length = ns.length) (l1 : ns.length <= 300) (l3 : ls.length < 100000) :
  M2 (N9 i "Grown" "take" a0 m) ρ β = some (.nx ρ, updB x (Gc s (ns.take (ns.length - k)) (ws.take (ns.length - k)) (ls ++ [lenG s (ns.take (ns.length - k))])) β) := by
 unfold M2 N9
 rw [hp]; simp only; rw [hb]; simp only
 rw [if_pos ⟨trivial, by decide +kernel⟩, hm, Option.bind_some, xx6 x s ns ws ls k β hb hk hw (yp7 s _ hs (by rw [length_take]; omega)) l3]
 rfl
end
section
open PySem L2
theorem zv6 (c k : Int) : ∃ (s c' k' : Int), 0 <= s /\ ∀ p, m_Z2 p (RL c k) [] = some (.sh (.int s), RL c' k') := by
 have i5 : 0 + 1 + 1 + 1 + 1 + 1 <= sizeLine := u0 (by decide)
 obtain ⟨x, c1, k1, l1, u1, e1⟩ := m7 c k 10 (by decide) (by decide)
 obtain ⟨y, c2, k2, l2, u2, e2⟩ := m7 c1 k1 1000 (by decide) (by decide)
 obtain ⟨v, c3, k3, l3, u3, e3⟩ := m7 c2 k2 1000 (by decide) (by decide)
 obtain ⟨z, c4, k4, l4, u4, e4⟩ := m7 c3 k3 5 (by decide) (by decide)
 have p29 : (10 : Int) ^ (29 : Int).toNat = 100000000000000000000000000000 := by decide
 have o29 : yw8 10 29 = true := by decide
 obtain ⟨s, hs, hs2⟩ : ∃ s, atI [D.int 0, .int 1, .int x, .int y, .int (100000000000000000000000000000 + v)] z = some (.int s) /\ 0 <= s := by
  have : z = 0 \/ z = 1 \/ z = 2 \/ z = 3 \/ z = 4 := by omega
  rcases this with h | h | h | h | h <;> subst h <;> exact ⟨_, rfl, by omega⟩
 refine ⟨s, c4, k4, hs2, fun p => ?_⟩
 unfold m_Z2 b_Z2
 refine S2 (S8 (X5 (zq6 (l8 (Y7 (d := .int 0) rfl) (l8 (Y7 (d := .int 1) rfl) (l8 (l5 (tl := []) e1 rfl) (l8 (l5 (tl := []) e2 rfl) (l8 (X5 (Y7 (d := .int 100000000000000000000000000000) ?_) (l5 (tl := []) e3 rfl) (g := .int (100000000000000000000000000000 + v)) rfl) (V5 y6)))))) i5) (l5 (tl := []) e4 rfl) (g := .int s) hs) rfl)
 simp_arith [p29, o29, if_true]
theorem ya1 {x : Addr} {c : Cell} : ∀ {β : Bx}, β.lookup x = some c -> updB x c β = β
 | [], h => rfl
 | (q, d) :: β, h => by
  by_cases z : q = x
  ·rw [lookup_cons, beq_iff_eq.mpr z.symm] at h
   cases h
   rw [updB, if_pos z]
  ·have hb : (x == q) = false := by
    cases w : x == q with
    | false => rfl
    | true => exact absurd (beq_iff_eq.mp w).symm z
   rw [lookup_cons, hb] at h
   rw [updB, if_neg z, ya1 h]
theorem yk6 {g : Tg} {body : MW} {d : D} {ds : List D} {ρ ρ1 ρ2 : Ro} {β β2 : Bx} (h1 : tgD g d ρ = some ρ1) (h2 : body ρ1 β = some (.nx ρ2, β2)) : forW g body (d :: ds) ρ β = forW g body ds ρ2 β2 := by
 rw [forW, h1]; simp only; rw [h2]
abbrev RI (xs : List Int) : D := .lst (xs.map .int)
theorem K3 (row : List Int) (j : Nat) (h : j < row.length) : row.take j ++ [row.getD j 0] = row.take (j + 1) := by
 rw [take_succ]; simp [h]
def momG (s : Int) (ns : List Int) : List Int := (List.range ns.length).map fun j => lenG s (ns.take (j + 1))
theorem zq5 (s : Int) (ns : List Int) : (momG s ns).length = ns.length := by unfold momG; simp
theorem ye8 (s : Int) (ns : List Int) (v : Int) : momG s (ns ++ [v]) = momG s ns ++ [lenG s (ns ++ [v])] := by
 unfold momG
 rw [length_append, length_singleton, range_succ, map_append]
 congr 1
 ·apply map_congr_left
  intro j hj
  have := List.mem_range.mp hj
  rw [take_append_of_le_length (by omega)]
 ·show [lenG s ((ns ++ [v]).take (ns.length + 1))] = _
  rw [take_of_length_le (by simp)]
def oN (o : Option Nat) : Option S := o.map fun j => .sh (dN j)
theorem ya4 {β : Bx} {x : Addr} {c : Cell} (h : β.lookup x = some c) : Y9 β (some (.sh (.ptr x))) = some (.sh (zu3 c)) := by
 unfold Y9; simp only; rw [h]
theorem ys4 (β : Bx) (o : Option Nat) : Y9 β (oN o) = oN o := by cases o <;> rfl
theorem zk1 (s : Int) (ns ws ls : List Int) (v : Int) {m : ME} {ρ : Ro} (h : m ρ = some (Go s ns ws (ls ++ [v]))) : mix (v7 (p5 "Grown" "moments" m_Z8 m anil)) (m1 negD (mc (.int 1))) ρ = some (.int v) :=
 W9 (k := -1) (p9 (zq9 h (by decide +kernel) (O1 s ns ws (ls ++ [v])))) rfl (atI_last D.int ls v)
theorem xr3 {i : Nat} {c : Str} {f : MFW} {m : ML} {rest : MW} {ρ : Ro} {β : Bx} {ds : List D} {r : Out × Bx} (hm : m ρ = some ds) (h : ∀ x, x ∉ β.map Prod.fst -> ∃ β' o, f (.ptr x :: ds) ((x, .ins c [] []) :: β) = some (.sh .non, β') /\ rest (ρ.set i (some (.sh (.ptr x)))) β' = some o /\ letGo i β.length o = r) : yo9 i c f m rest ρ β = some r := by
 unfold yo9
 rw [hm, Option.bind_some]
 refine xn3 fun x hx => ?_
 obtain ⟨β', o, h1, h2, h3⟩ := h x hx
 rw [h1]
 simp only
 rw [h2, Option.map_some, h3]
theorem yn4 {src : List (Option Nat)} {mi : ML} {i j : Nat} {elt : MEm} {ρ ρb : Ro} {r0 r1 its out : List D} (h0 : ρ[i]? = some (some (.own r0))) (h1 : mi ρ = some its) (h2 : d8 elt its ((g5 src ρ).set j (some (.own r0))) [] = some (out, ρb)) (h3 : ρb[j]? = some (some (.own r1))) : zk7 src mi i j elt ρ = some (.lst out, ρ.set i (some (.own r1))) := by
 unfold zk7
 rw [h0]; simp only; rw [h1]; simp only; rw [h2]; simp only; rw [h3]
theorem Q1 : ∀ (its : List Int) (c k : Int) (o : Option S) (acc : List Int), acc.length + its.length <= 1000 -> (∀ v ∈ acc, 0 <= v) -> ∃ (f : List Int) (c' k' : Int) (o' : Option S), f.length = acc.length + its.length /\ (∀ v ∈ f, 0 <= v) /\
  d8 (w4 m_Z2 1 (apu anil)) (its.map .int) [o, some (.own (RL c k))] (acc.map .int) = some (f.map .int, [o', some (.own (RL c' k'))])
 | [], c, k, o, acc, _, hb => ⟨acc, c, k, o, by simp, hb, rfl⟩
 | i :: its, c, k, o, acc, h, hb => by
  obtain ⟨x, c1, k1, hx, e⟩ := zv6 c k
  obtain ⟨f, c', k', o', hf, hfb, e2⟩ := Q1 its c1 k1 (some (.sh (.int i))) (acc ++ [x]) (by simp at h ⊢; omega) (fun v hv => by
   rcases List.mem_append.mp hv with z | z
   ·exact hb v z
   ·rw [List.mem_singleton.mp z]; exact hx)
  refine ⟨f, c', k', o', by rw [hf]; simp; omega, hfb, ?_⟩
  rw [map_cons, d8]
  have e3 : w4 m_Z2 1 (apu anil) [some (.sh (.int i)), some (.own (RL c k))] = some (.int x, [some (.sh (.int i)), some (.own (RL c1 k1))]) :=
   Z9 (r0 := RL c k) (r2 := RL c k) rfl (V5 y6) rfl e rfl
  show (match w4 m_Z2 1 (apu anil) [some (.sh (.int i)), some (.own (RL c k))] with | some (x, ρ1) => if (acc.map D.int).length < sizeLine then d8 _ (its.map .int) ρ1 (acc.map D.int ++ [x]) else none | none => none) = _
  rw [e3]
  have hz : (acc.map D.int).length < sizeLine := by
   have := u7
   rw [length_map]; simp at h; omega
  simp only [hz, if_true]
  rw [map_append] at e2
  exact e2
end
end
section
def envA (x : Addr) (row ws : List Int) (s : Int) (d : D) (f : List Int) (o : Option Nat) : Ro := [some (.sh d), some (.sh (RI row)), some (.sh (RI ws)), some (.sh (.int s)), some (.own (f.map .int)), oN o]
theorem xk0 {x : Addr} {row ws : List Int} {s : Int} {f : List Int} {o : Option Nat} {β : Bx} {C : Cell} (h : β.lookup x = some C) : thaw (envA x row ws s (.ptr x) f o) β = envA x row ws s (zu3 C) f o := by
 unfold thaw envA
 simp only [map_cons, map_nil]
 rw [ya4 h, ys4]
 rfl
theorem yc1 (n : Nat) : ixN (n + 1) (-1) = some n := by
 unfold ixN
 rw [if_neg (by decide), if_pos (by omega)]
 congr 1
 omega
theorem yh9 (xs : List D) (v : D) : (xs ++ [v]).set xs.length v = xs ++ [v] := by
 induction xs with
 | nil => rfl
 | cons a xs ih => rw [cons_append, length_cons, set_cons_succ, ih]
theorem zw4 {ρ : Ro} {i : Nat} {row : List Int} {m : ME} {n : Nat} (h : bvar i ρ = some (row.map .int)) (hm : m ρ = some (.int (n : Int))) : mcut (bvar i) g8 (i7 m) ρ = some ((row.take n).map .int) := by
 unfold mcut
 rw [h]
 unfold g8 i7
 rw [hm]
 show some (cutL (row.map D.int) none (some (n : Int))) = _
 rw [G5, zd9]
theorem wx5 {c : Ro -> Bx -> Option Bool} {x y : MW} {ρ : Ro} {β : Bx} {r : Option (Out × Bx)} {b : Bool} (h : c ρ β = some b) (hx : x ρ β = r) (hy : y ρ β = r) : mifW c x y ρ β = r := by
 unfold mifW; rw [h]; cases b
 ·exact hy
 ·exact hx
theorem ya8 (n : Nat) (h : n <= 1000) {m : ML} {ρ : Ro} (hm : m ρ = some [.int (n : Int)]) : j8 rng1 m ρ = some ((List.range' 0 n).map dN) := by
 unfold j8
 rw [hm, Option.bind_some, zr2 (T6 (by omega) (by omega)), Int.toNat_natCast, T1, <- range_eq_range']
 congr 1
 apply map_congr_left
 intro i _
 show D.int (0 + (i : Int)) = D.int (i : Int)
 rw [Int.zero_add]
theorem yk5 {mi : ML} {g : Tg} {body : MW} {ρ : Ro} {β : Bx} {its : List D} {r : Option (Out × Bx)} (h : mi ρ = some its) (h2 : forW g body its ρ β = r) : yv6 mi g body ρ β = r := by
 unfold yv6; rw [h, Option.bind_some, h2]
theorem xv6 {n : Nat} {m : MW} {ds es : List D} {β β' : Bx} (h : m (u5 n ds) β = some (.rf es, β')) (hl : β'.length = β.length) : runW n m ds β = some (.fr es, β') := by
 unfold runW; rw [h]; simp only [hl, Nat.sub_self, drop_zero]
section
variable (s : Int) (hs : 1 <= s) (row ws : List Int) (hw : ws.length = row.length) (h0 : ∀ x ∈ ws, 0 <= x) (hr : row.length <= 250)
include hs hw h0 hr
theorem yq0 (j : Nat) (hj : j < row.length) (x : Addr) (β : Bx) (hb : β.lookup x = some (Gc s (row.take j) (ws.take j) (momG s (row.take j)))) : c7 (envA x row ws s (.ptr x) (momG s (row.take j)) (some j)) β = some (.nx (envA x row ws s (.ptr x) (momG s (row.take (j + 1))) (some j)), updB x (Gc s (row.take (j + 1)) (ws.take (j + 1)) (momG s (row.take (j + 1)))) β) := by
 have big := u7
 have hjw : j < ws.length := by omega
 have g0 : 0 <= ws.getD j 0 := h0 _ (by rw [getD_eq_getElem?_getD, getElem?_eq_getElem hjw]; exact getElem_mem hjw)
 have lt : (row.take j).length = j := by rw [length_take]; omega
 have lw : (ws.take j).length = j := by rw [length_take]; omega
 have lt1 : (row.take (j + 1)).length = j + 1 := by rw [length_take]; omega
 have lm : (momG s (row.take j)).length = j := by rw [zq5, lt]
 have ms : momG s (row.take j) ++ [lenG s (row.take (j + 1))] = momG s (row.take (j + 1)) := by rw [<- K3 row j hj, ye8]
 have mi : (momG s (row.take j)).map D.int ++ [D.int (lenG s (row.take (j + 1)))] = (momG s (row.take (j + 1))).map D.int := by rw [<- ms, map_append]; rfl
 unfold c7
 rw [u9 (xi0 (x := x) (v := row.getD j 0) (g := ws.getD j 0) rfl hb (z7 (W9 (ds := row.map .int) (k := (j : Int)) rfl rfl (P9 row j hj)) (z7 (W9 (ds := ws.map .int) (k := (j : Int)) rfl rfl (P9 ws j hjw)) y6)) g0 hs (by omega) (by omega) (by omega)), K3 row j hj, K3 ws j hjw]
 have lk : U8 (mix (v7 (p5 "Grown" "moments" m_Z8 (mvar 0) anil)) (m1 negD (mc (.int 1)))) (envA x row ws s (.ptr x) (momG s (row.take j)) (some j)) (updB x (Gc s (row.take (j + 1)) (ws.take (j + 1)) (momG s (row.take j) ++ [lenG s (row.take (j + 1))])) β) = some (.int (lenG s (row.take (j + 1)))) := by
  unfold U8
  rw [xk0 (Y3 hb), zs6, zk1 s (row.take (j + 1)) (ws.take (j + 1)) (momG s (row.take j)) (lenG s (row.take (j + 1))) rfl]
  rfl
 have ap : yn8 4 (U8 (mix (v7 (p5 "Grown" "moments" m_Z8 (mvar 0) anil)) (m1 negD (mc (.int 1))))) (envA x row ws s (.ptr x) (momG s (row.take j)) (some j)) (updB x (Gc s (row.take (j + 1)) (ws.take (j + 1)) (momG s (row.take j) ++ [lenG s (row.take (j + 1))])) β) = some (.nx (envA x row ws s (.ptr x) (momG s (row.take (j + 1))) (some j)), updB x (Gc s (row.take (j + 1)) (ws.take (j + 1)) (momG s (row.take j) ++ [lenG s (row.take (j + 1))])) β) := by
  unfold yn8
  show ((U8 (mix (v7 (p5 "Grown" "moments" m_Z8 (mvar 0) anil)) (m1 negD (mc (.int 1)))) (envA x row ws s (.ptr x) (momG s (row.take j)) (some j)) _).bind fun d => if ((momG s (row.take j)).map D.int).length < sizeLine then some (Out.nx ((envA x row ws s (.ptr x) (momG s (row.take j)) (some j)).set 4 (some (.own ((momG s (row.take j)).map D.int ++ [d])))), _) else none) = _
  rw [lk, Option.bind_some, if_pos (by rw [length_map, lm]; omega), mi]
  rfl
 rw [u9 ap, ms]
 have t1 : mlen (bvar 1) (envA x row ws s (.ptr x) (momG s (row.take (j + 1))) (some j)) = some (.int (row.length : Int)) := by rw [j5 (ds := row.map .int) rfl, length_map]
 have hc : ∃ b, wE (cor (v3 (m2 ltD (mlen (bvar 1)) (mc (.int 81)))) (v3 (m2 eqSD (mvar 5) (m2 subD (mlen (bvar 1)) (mc (.int 1)))))) (envA x row ws s (.ptr x) (momG s (row.take (j + 1))) (some j)) (updB x (Gc s (row.take (j + 1)) (ws.take (j + 1)) (momG s (row.take (j + 1)))) β) = some b := by
  refine ⟨_, zi1 (xk5 t1 (k := 81) rfl) (U4 (b := (j : Int) == (row.length : Int) - 1) ?_)⟩
  rw [g4 (a := dN j) rfl ((g4 (b := .int 1) t1 rfl).trans (show subD (.int (row.length : Int)) (.int 1) = some (.int ((row.length : Int) - 1)) from rfl))]
  rfl
 obtain ⟨b, hb2⟩ := hc
 refine wx5 hb2 (zz0 ?_) rfl
 have ec : mlst (mcut (bvar 1) g8 (i7 (m2 addD (mvar 5) (mc (.int 1))))) (envA x row ws s (.ptr x) (momG s (row.take (j + 1))) (some j)) = some (.lst ((row.take (j + 1)).map .int)) :=
  r6 (zw4 rfl ((g4 (a := dN j) (b := .int 1) rfl rfl).trans (by show some (D.int ((j : Int) + 1)) = _; rw [show ((j : Int) + 1) = ((j + 1 : Nat) : Int) by omega])))
 have eh := v6 (z7 ec (z7 (x := mvar 3) (d := .int s) rfl y6)) (G3 s (row.take (j + 1)) hs (by omega))
 unfold a9
 rw [eh]
 show ((ixN ((momG s (row.take (j + 1))).map D.int).length (-1)).map fun q => Out.nx ((envA x row ws s (.ptr x) (momG s (row.take (j + 1))) (some j)).set 4 (some (.own (((momG s (row.take (j + 1))).map D.int).set q (.int (lenG s (row.take (j + 1)))))))) ) = _
 rw [<- mi, length_append, length_singleton, yc1, Option.map_some, yh9, mi]
 rfl
theorem zn6 : ∀ (n j : Nat) (o : Option Nat), j + n = row.length -> ∃ o' : Option Nat, ∀ x β, β.lookup x = some (Gc s (row.take j) (ws.take j) (momG s (row.take j))) ->
  forW (.nm 5) c7 ((List.range' j n).map dN) (envA x row ws s (.ptr x) (momG s (row.take j)) o) β = some (.nx (envA x row ws s (.ptr x) (momG s row) o'), updB x (Gc s row ws (momG s row)) β)
 | 0, j, o, hj => ⟨o, fun x β hb => by
   have e1 : row.take j = row := take_of_length_le (by omega)
   have e2 : ws.take j = ws := take_of_length_le (by omega)
   rw [e1, e2] at hb
   rw [e1, ya1 hb]; rfl⟩
 | n + 1, j, o, hj => by
  obtain ⟨o', ih⟩ := zn6 n (j + 1) (some j) (by omega)
  refine ⟨o', fun x β hb => ?_⟩
  rw [range'_succ, map_cons, yk6 (ρ1 := envA x row ws s (.ptr x) (momG s (row.take j)) (some j)) rfl (yq0 s hs row ws hw h0 hr j (by omega) x β hb), ih x _ (Y3 hb), O2]
theorem yg7 (x : Addr) (β : Bx) (hb : β.lookup x = some (Gc s [] [] [])) : W2 (u5 6 [.ptr x, RI row, RI ws, .int s]) β = some (.rf ((momG s row).map .int), updB x (Gc s row ws (momG s row)) β) := by
 obtain ⟨o', lp⟩ := zn6 s hs row ws hw h0 hr row.length 0 none (Nat.zero_add _)
 have i0 : 0 <= sizeLine := Nat.zero_le _
 unfold W2
 have s1 : wS (Y6 4 (t3 anil)) (u5 6 [.ptr x, RI row, RI ws, .int s]) β = some (.nx (envA x row ws s (.ptr x) [] none), β) := zz0 ((A3 (t5 y6 i0)).trans rfl)
 rw [u9 s1]
 have ei := ya8 row.length (by omega) (m := z8 (mlen (bvar 1)) anil) (ρ := envA x row ws s (.ptr x) [] none) (z7 (x := mlen (bvar 1)) (d := .int (row.length : Int)) (by rw [j5 (ds := row.map .int) rfl, length_map]) y6)
 rw [u9 (yk5 ei (lp x β hb))]
 unfold Q0 yz3
 rfl
theorem yw5 (x : Addr) (β : Bx) (hb : β.lookup x = some (Gc s [] [] [])) : Z1 [.ptr x, RI row, RI ws, .int s] β = some (.fr ((momG s row).map .int), updB x (Gc s row ws (momG s row)) β) := by
 unfold Z1
 exact xv6 (yg7 s hs row ws hw h0 hr x β hb) zp3
end
end
section
structure Ev where
 p : Addr
 c : Int
 k : Int
 row : List Int
 s : Int
 ws : List Int
def envR (e : Ev) (d4 : D) (o5 o6 o7 o8 o9 o10 o11 : Option S) : Ro := [some (.ob e.p (RL e.c e.k)), some (.sh (RI e.row)), some (.sh (.int e.s)), some (.sh (RI e.ws)), some (.sh d4), o5, o6, o7, o8, o9, o10, o11]
theorem zb4 {e : Ev} {x : Addr} {C : Cell} {o5 o6 o7 o8 o9 o10 o11 : Option S} (h5 : Y9 [(x, C)] o5 = o5) (h6 : Y9 [(x, C)] o6 = o6) (h7 : Y9 [(x, C)] o7 = o7) (h8 : Y9 [(x, C)] o8 = o8) (h9 : Y9 [(x, C)] o9 = o9) (h10 : Y9 [(x, C)] o10 = o10) (h11 : Y9 [(x, C)] o11 = o11) :
  thaw (envR e (.ptr x) o5 o6 o7 o8 o9 o10 o11) [(x, C)] = envR e (zu3 C) o5 o6 o7 o8 o9 o10 o11 := by
 unfold thaw envR
 simp only [map_cons, map_nil]
 rw [ya4 (Z2 x C []), h5, h6, h7, h8, h9, h10, h11]
 rfl
theorem ye7 {x : ME} {ρ : Ro} {b : Bool} (h : x ρ = some (.bl b)) : mtru x ρ = some b := by unfold mtru; rw [h]; rfl
theorem chk {args : ML} {ρ ρt : Ro} {β : Bx} {s : Int} {ns gs ls : List Int} (ht : thaw ρ β = ρt) (ha : args ρt = some [Go s ns gs ls, RI ns, RI gs, .int s]) (h4 : mvar 4 ρt = some (Go s ns gs ls)) (h5 : bvar 5 ρt = some (ls.map .int)) (hs : 1 <= s) (hw : gs.length = ns.length) (h0 : ∀ x ∈ gs, 0 <= x) (hl : ns.length <= 300) :
  mifW (zp2 (cor (cnot (mtru (t7 zp1 args))) (v3 (meqB true (v7 (p5 "Grown" "moments" m_Z8 (mvar 4) anil)) (bvar 5))))) (J7 0 (wE (mc (.bl false)))) (wS d7) ρ β = some (.nx ρ, β) := by
 refine (xy4 ?_).trans rfl
 unfold zp2
 rw [ht]
 refine zi1 (a := false) (b := false) ?_ (U4 ?_)
 ·unfold cnot
  rw [ye7 (v6 ha (zv0 s ns gs ls hs hw h0 hl))]
  rfl
 ·unfold meqB
  rw [p9 (zq9 h4 (by decide +kernel) (O1 s ns gs ls)), h5, Option.bind_some, Option.bind_some, zz5 _ true]
  rfl
theorem last {args : ML} {ρ ρt : Ro} {β : Bx} {s : Int} {ns gs ls : List Int} (ht : thaw ρ β = ρt) (ha : args ρt = some [Go s ns gs ls, RI ns, RI gs, .int s]) (h4 : mvar 4 ρt = some (Go s ns gs ls)) (h5 : bvar 5 ρt = some (ls.map .int)) (hs : 1 <= s) (hw : gs.length = ns.length) (h0 : ∀ x ∈ gs, 0 <= x) (hl : ns.length <= 300) :
  U8 (mand (t7 zp1 args) (meqB false (v7 (p5 "Grown" "moments" m_Z8 (mvar 4) anil)) (bvar 5))) ρ β = some (.bl true) := by
 unfold U8
 rw [ht, xr7 (a := true) (b := true) (v6 ha (zv0 s ns gs ls hs hw h0 hl)) (by
  unfold meqB
  rw [p9 (zq9 h4 (by decide +kernel) (O1 s ns gs ls)), h5, Option.bind_some, Option.bind_some, zz5 _ false]
  rfl)]
 rfl
abbrev oL (xs : List Int) : Option S := some (.sh (RI xs))
abbrev oO (xs : List Int) : Option S := some (.own (xs.map .int))
abbrev oZ (n : Nat) : Option S := some (.sh (.int (n : Int)))
def momO (s : Int) (pre other : List Int) (j : Nat) : List Int := (List.range j).map fun i => lenG s (pre ++ other.take (i + 1))
theorem zk2 (s : Int) (pre other : List Int) (j : Nat) : momO s pre other (j + 1) = momO s pre other j ++ [lenG s (pre ++ other.take (j + 1))] := by unfold momO; rw [range_succ, map_append]; rfl
theorem yz4 (s : Int) (pre other : List Int) (j : Nat) : (momO s pre other j).length = j := by unfold momO; simp
theorem yx8 (pre other : List Int) (j : Nat) (h : j < other.length) : pre ++ other.take j ++ [other.getD j 0] = pre ++ other.take (j + 1) := by rw [append_assoc, K3 other j h]
section
variable (e : Ev) (hs : 1 <= e.s) (hw : e.ws.length = e.row.length) (h0 : ∀ x ∈ e.ws, 0 <= x) (hr : e.row.length <= 250) (left many : Nat) (hleft : left <= e.row.length) (other loads : List Int) (ho : other.length <= 12) (hlo : loads.length = other.length) (h1 : ∀ x ∈ loads, 0 <= x) (M0 : List Int) (hM : M0.length <= 300)
include hs hw hr hleft ho hlo h1 hM
theorem wz7 (j : Nat) (hj : j < other.length) (x : Addr) : j7 (envR e (.ptr x) (oO (M0 ++ momO e.s (e.row.take left) other j)) (oZ many) (oZ left) (oL other) (oL loads) (oN (some j)) none) [(x, Gc e.s (e.row.take left ++ other.take j) (e.ws.take left ++ loads.take j) (M0 ++ momO e.s (e.row.take left) other j))]
  = some (.nx (envR e (.ptr x) (oO (M0 ++ momO e.s (e.row.take left) other (j + 1))) (oZ many) (oZ left) (oL other) (oL loads) (oN (some j)) none), [(x, Gc e.s (e.row.take left ++ other.take (j + 1)) (e.ws.take left ++ loads.take (j + 1)) (M0 ++ momO e.s (e.row.take left) other (j + 1)))]) := by
 have big := u7
 have hjl : j < loads.length := by omega
 have g0 : 0 <= loads.getD j 0 := h1 _ (by rw [getD_eq_getElem?_getD, getElem?_eq_getElem hjl]; exact getElem_mem hjl)
 have l1 : (e.row.take left ++ other.take j).length < 300 := by rw [length_append, length_take, length_take]; omega
 have l2 : (e.ws.take left ++ loads.take j).length < 300 := by rw [length_append, length_take, length_take]; omega
 have l3 : (M0 ++ momO e.s (e.row.take left) other j).length < 100000 := by rw [length_append, yz4]; omega
 have l4 : (e.row.take left ++ other.take (j + 1)).length <= 300 := by rw [length_append, length_take, length_take]; omega
 unfold j7
 rw [u9 (xi0 (x := x) (v := other.getD j 0) (g := loads.getD j 0) rfl (Z2 _ _ _) (z7 (W9 (ds := other.map .int) (k := (j : Int)) rfl rfl (P9 other j hj)) (z7 (W9 (ds := loads.map .int) (k := (j : Int)) rfl rfl (P9 loads j hjl)) y6)) g0 hs l1 l2 l3), V9, yx8 _ other j hj, yx8 _ loads j hjl]
 have ec : mlst (mcat (mcut (bvar 1) g8 (i7 (mvar 7))) (mcut (bvar 8) g8 (i7 (m2 addD (mvar 10) (mc (.int 1)))))) (envR e (.ptr x) (oO (M0 ++ momO e.s (e.row.take left) other j)) (oZ many) (oZ left) (oL other) (oL loads) (oN (some j)) none) = some (.lst ((e.row.take left ++ other.take (j + 1)).map .int)) := by
  refine (r6 (P5 (zw4 (row := e.row) (n := left) rfl rfl) (zw4 (row := other) (n := j + 1) rfl ((g4 (a := dN j) (b := .int 1) rfl rfl).trans (by show some (D.int ((j : Int) + 1)) = _; rw [show ((j : Int) + 1) = ((j + 1 : Nat) : Int) by omega]))) ?_)).trans (by rw [map_append])
  rw [length_map, length_map, <- length_append]; omega
 have eh := v6 (z7 ec (z7 (x := mvar 2) (d := .int e.s) rfl y6)) (G3 e.s _ hs l4)
 refine (zz0 (ρ' := envR e (.ptr x) (oO (M0 ++ momO e.s (e.row.take left) other (j + 1))) (oZ many) (oZ left) (oL other) (oL loads) (oN (some j)) none) ?_).trans (by rw [zk2, append_assoc])
 unfold mapp
 show ((t7 J9 _ (envR e (.ptr x) (oO (M0 ++ momO e.s (e.row.take left) other j)) (oZ many) (oZ left) (oL other) (oL loads) (oN (some j)) none)).bind fun d => if ((M0 ++ momO e.s (e.row.take left) other j).map D.int).length < sizeLine then some (Out.nx ((envR e (.ptr x) (oO (M0 ++ momO e.s (e.row.take left) other j)) (oZ many) (oZ left) (oL other) (oL loads) (oN (some j)) none).set 5 (some (.own ((M0 ++ momO e.s (e.row.take left) other j).map D.int ++ [d]))))) else none) = _
 rw [eh, Option.bind_some, if_pos (by rw [length_map]; omega), zk2, <- append_assoc]
 show some (Out.nx (envR e (.ptr x) (some (.own ((M0 ++ momO e.s (e.row.take left) other j).map D.int ++ [D.int (lenG e.s (e.row.take left ++ other.take (j + 1)))]))) (oZ many) (oZ left) (oL other) (oL loads) (oN (some j)) none)) = _
 rw [show (M0 ++ momO e.s (e.row.take left) other j).map D.int ++ [D.int (lenG e.s (e.row.take left ++ other.take (j + 1)))] = (M0 ++ momO e.s (e.row.take left) other j ++ [lenG e.s (e.row.take left ++ other.take (j + 1))]).map D.int by rw [map_append (l₁ := M0 ++ momO e.s (e.row.take left) other j)]; rfl]
theorem xz1 : ∀ (n j : Nat) (o : Option Nat), j + n = other.length -> ∃ o' : Option Nat, ∀ x, forW (.nm 10) j7 ((List.range' j n).map dN) (envR e (.ptr x) (oO (M0 ++ momO e.s (e.row.take left) other j)) (oZ many) (oZ left) (oL other) (oL loads) (oN o) none) [(x, Gc e.s (e.row.take left ++ other.take j) (e.ws.take left ++ loads.take j) (M0 ++ momO e.s (e.row.take left) other j))]
  = some (.nx (envR e (.ptr x) (oO (M0 ++ momO e.s (e.row.take left) other other.length)) (oZ many) (oZ left) (oL other) (oL loads) (oN o') none), [(x, Gc e.s (e.row.take left ++ other) (e.ws.take left ++ loads) (M0 ++ momO e.s (e.row.take left) other other.length))])
 | 0, j, o, hj => ⟨o, fun x => by
   have : j = other.length := by omega
   subst this
   rw [take_length, show loads.take other.length = loads from take_of_length_le (by omega)]; rfl⟩
 | n + 1, j, o, hj => by
  obtain ⟨o', ih⟩ := xz1 n (j + 1) (some j) (by omega)
  refine ⟨o', fun x => ?_⟩
  rw [range'_succ, map_cons, yk6 (ρ1 := envR e (.ptr x) (oO (M0 ++ momO e.s (e.row.take left) other j)) (oZ many) (oZ left) (oL other) (oL loads) (oN (some j)) none) rfl (wz7 e hs hw hr left many hleft other loads ho hlo h1 M0 hM j (by omega) x), ih x]
end
end
section
theorem zf8 {a b : List Int} {n : Nat} (h0 : ∀ x ∈ a, 0 <= x) (h1 : ∀ x ∈ b, 0 <= x) : ∀ x ∈ a.take n ++ b, 0 <= x := fun x hx => by
 rcases List.mem_append.mp hx with z | z
 ·exact h0 x (mem_of_mem_take z)
 ·exact h1 x z
theorem xm5 {ρ : Ro} {p : Addr} {c k c' k' : Int} {o' : Option S} {i : Nat} {xs ws : List Int} (h0 : ρ[0]? = some (some (.ob p (RL c k)))) (hi : ρ[i]? = some (some (.sh (RI xs)))) (h : d8 (w4 m_Z2 1 (apu anil)) (xs.map .int) [none, some (.own (RL c k))] [] = some (ws.map .int, [o', some (.own (RL c' k'))])) :
  U7 [none, some 0] (v7 (mvar i)) 0 1 (w4 m_Z2 1 (apu anil)) ρ = some (RI ws, ρ.set 0 (some (.ob p (RL c' k')))) := by
 refine zt7 (rr := p) (r0 := RL c k) (r1 := RL c' k') h0 (its := xs.map .int) (p9 (by unfold mvar; rw [hi])) (out := ws.map .int) (ρb := [o', some (.own (RL c' k'))]) ?_ rfl
 have eb : (g5 [none, some 0] ρ).set 1 (some (.own (RL c k))) = [none, some (.own (RL c k))] := by
  unfold g5
  simp only [map_cons, map_nil, Option.bind_none, Option.bind_some, h0]
  rfl
 rw [eb]
 exact h
theorem ys6 {e e' : Ev} {d4 : D} {o5 o6 o7 o8 o9 o10 o11 : Option S} {i : Nat} {m : MEm} {v : D} {ρ' : Ro} (h : m (envR e d4 o5 o6 o7 o8 o9 o10 o11) = some (v, envR e' d4 o5 o6 o7 o8 o9 o10 o11)) (hs : (envR e' d4 o5 o6 o7 o8 o9 o10 o11).set i (some (.sh v)) = ρ') (β : Bx) : wS (X9 i m) (envR e d4 o5 o6 o7 o8 o9 o10 o11) β = some (.nx ρ', β) := by
 refine zz0 ((Y2 h).trans ?_)
 rw [hs]
theorem zn2 (c k : Int) (row : List Int) (hr : row.length <= 250) (s : Int) (hs : 1 <= s) : ∃ c' k' : Int, ∀ p, i9 p (RL c k) [RI row, .int s] = some (.sh (.bl true), RL c' k') := by
 have big := u7
 obtain ⟨ws, c1, k1, o1, hw, h0, e1⟩ := Q1 row c k none [] (by simp; omega) (by simp)
 have hw : ws.length = row.length := by simpa using hw
 obtain ⟨m, c2, k2, m0, m1, e2⟩ := m7 c1 k1 ((row.length : Int) + 1) (by omega) (by omega)
 obtain ⟨many, rfl⟩ := yo2 m0
 have hm : many <= row.length := by omega
 obtain ⟨other, c3, k3, ho, _, e3⟩ := zz3 c2 k2 12 (by decide)
 obtain ⟨loads, c4, k4, o4, hlo, h1, e4⟩ := Q1 other c3 k3 none [] (by simp; omega) (by simp)
 have hlo : loads.length = other.length := by simpa using hlo
 have lL : row.length - many <= row.length := by omega
 have lt : (row.take (row.length - many)).length = row.length - many := by rw [length_take]; omega
 have lw : (ws.take (row.length - many)).length = row.length - many := by rw [length_take]; omega
 have h0' : ∀ x ∈ ws.take (row.length - many), 0 <= x := fun x hx => h0 x (mem_of_mem_take hx)
 have hM : (momG s row ++ [lenG s (row.take (row.length - many))]).length <= 300 := by rw [length_append, zq5, length_singleton]; omega
 generalize hleft : row.length - many = left at *
 generalize hM0 : momG s row ++ [lenG s (row.take left)] = M0 at *
 refine ⟨c4, k4, fun p => ?_⟩
 obtain ⟨o', lp⟩ := xz1 ⟨p, c4, k4, row, s, ws⟩ hs hw hr left many lL other loads ho hlo h1 M0 hM other.length 0 none (Nat.zero_add _)
 have lp := fun x => lp x
 generalize hMo : momO s (row.take left) other other.length = Mo at lp
 have lMo : Mo.length = other.length := by rw [<- hMo, yz4]
 have main : ∀ x, Z3 (envR ⟨p, c1, k1, row, s, ws⟩ (.ptr x) none none none none none none none) [(x, Gc s [] [] [])] = some (.rg (.bl true) p (RL c4 k4), [(x, Gc s (row.take left) (ws.take left) (M0 ++ Mo ++ [lenG s (row.take left)]))]) := fun x => by
  unfold Z3
  have s1 : yo5 5 (zk8 Z1 (z8 (mvar 4) (z8 (mvar 1) (z8 (mvar 3) (z8 (mvar 2) anil))))) (envR ⟨p, c1, k1, row, s, ws⟩ (.ptr x) none none none none none none none) [(x, Gc s [] [] [])] = some (.nx (envR ⟨p, c1, k1, row, s, ws⟩ (.ptr x) (oL (momG s row)) none none none none none none), [(x, Gc s row ws (momG s row))]) := by
   unfold yo5 zk8
   rw [z7 (x := mvar 4) (d := .ptr x) rfl (z7 (x := mvar 1) (d := RI row) rfl (z7 (x := mvar 3) (d := RI ws) rfl (z7 (x := mvar 2) (d := .int s) rfl y6))), Option.bind_some, yw5 s hs row ws hw h0 hr x _ (Z2 _ _ _), V9]
   rfl
  rw [u9 s1]
  rw [u9 (chk (zb4 rfl rfl rfl rfl rfl rfl rfl) (z7 (x := mvar 4) (d := Go s row ws (momG s row)) rfl (z7 (x := mvar 1) (d := RI row) rfl (z7 (x := mvar 3) (d := RI ws) rfl (z7 (x := mvar 2) (d := .int s) rfl y6)))) rfl rfl hs hw h0 (by omega))]
  have tl : mlen (bvar 1) (envR ⟨p, c1, k1, row, s, ws⟩ (.ptr x) (oL (momG s row)) none none none none none none) = some (.int (row.length : Int)) := by rw [j5 (ds := row.map .int) rfl, length_map]
  rw [u9 (ys6 (e := ⟨p, c1, k1, row, s, ws⟩) (e' := ⟨p, c2, k2, row, s, ws⟩) (v := .int (many : Int)) (ρ' := envR ⟨p, c2, k2, row, s, ws⟩ (.ptr x) (oL (momG s row)) (oZ many) none none none none none) (l5 e2 ((g4 (b := .int 1) tl rfl).trans rfl)) rfl _)]
  have s4 : wS (mset 7 (m2 subD (mlen (bvar 1)) (mvar 6))) (envR ⟨p, c2, k2, row, s, ws⟩ (.ptr x) (oL (momG s row)) (oZ many) none none none none none) [(x, Gc s row ws (momG s row))] = some (.nx (envR ⟨p, c2, k2, row, s, ws⟩ (.ptr x) (oL (momG s row)) (oZ many) (oZ left) none none none none), [(x, Gc s row ws (momG s row))]) := by
   refine zz0 ((S7 (d := .int (left : Int)) ?_).trans rfl)
   rw [g4 (a := .int (row.length : Int)) (b := .int (many : Int)) (by rw [j5 (ds := row.map .int) rfl, length_map]) rfl]
   show some (D.int ((row.length : Int) - (many : Int))) = _
   rw [show ((row.length : Int) - (many : Int)) = (left : Int) by omega]
  rw [u9 s4]
  have s5 := ya5 (i := 4) (m := z8 (mvar 6) anil) (ρ := envR ⟨p, c2, k2, row, s, ws⟩ (.ptr x) (oL (momG s row)) (oZ many) (oZ left) none none none none) (β := [(x, Gc s row ws (momG s row))]) (x := x) (k := many) rfl (Z2 _ _ _) (z7 rfl y6) hs hm hw (by omega) (by rw [zq5]; omega)
  rw [hleft, V9, hM0] at s5
  rw [u9 s5]
  have ecut : ∀ (e : Ev) (d4 : D) (o5 o8 o9 o10 o11 : Option S), e.row = row -> mlst (mcut (bvar 1) g8 (i7 (mvar 7))) (envR e d4 o5 (oZ many) (oZ left) o8 o9 o10 o11) = some (RI (row.take left)) := fun e d4 o5 o8 o9 o10 o11 h => by
   subst h
   exact r6 (zw4 (row := e.row) (n := left) rfl rfl)
  have wcut : ∀ (e : Ev) (d4 : D) (o5 o8 o9 o10 o11 : Option S), e.ws = ws -> mlst (mcut (bvar 3) g8 (i7 (mvar 7))) (envR e d4 o5 (oZ many) (oZ left) o8 o9 o10 o11) = some (RI (ws.take left)) := fun e d4 o5 o8 o9 o10 o11 h => by
   subst h
   exact r6 (zw4 (row := e.ws) (n := left) rfl rfl)
  have s6 : wS (Y6 5 (mcat (bvar 5) (t3 (z8 (t7 J9 (z8 (mlst (mcut (bvar 1) g8 (i7 (mvar 7)))) (z8 (mvar 2) anil))) anil)))) (envR ⟨p, c2, k2, row, s, ws⟩ (.ptr x) (oL (momG s row)) (oZ many) (oZ left) none none none none) [(x, Gc s (row.take left) (ws.take left) M0)] = some (.nx (envR ⟨p, c2, k2, row, s, ws⟩ (.ptr x) (oO M0) (oZ many) (oZ left) none none none none), [(x, Gc s (row.take left) (ws.take left) M0)]) := by
   refine zz0 ((A3 (ds := M0.map .int) ?_).trans rfl)
   rw [P5 (ds := (momG s row).map .int) (es := [.int (lenG s (row.take left))]) rfl (t5 (z7 (v6 (z7 (ecut _ _ _ _ _ _ _ rfl) (z7 (x := mvar 2) (d := .int s) rfl y6)) (G3 s (row.take left) hs (by omega))) y6) (u0 (by simp))) (by rw [length_map, zq5, length_singleton]; omega), <- hM0, map_append]
   rfl
  rw [u9 s6]
  rw [u9 (chk (s := s) (ns := row.take left) (gs := ws.take left) (ls := M0) (zb4 rfl rfl rfl rfl rfl rfl rfl) (z7 (x := mvar 4) (d := Go s (row.take left) (ws.take left) M0) rfl (z7 (ecut _ _ _ _ _ _ _ rfl) (z7 (wcut _ _ _ _ _ _ _ rfl) (z7 (x := mvar 2) (d := .int s) rfl y6)))) rfl rfl hs (by omega) h0' (by omega))]
  rw [u9 (ys6 (e := ⟨p, c2, k2, row, s, ws⟩) (e' := ⟨p, c3, k3, row, s, ws⟩) (v := RI other) (ρ' := envR ⟨p, c3, k3, row, s, ws⟩ (.ptr x) (oO M0) (oZ many) (oZ left) (oL other) none none none) (zy9 (p := p) (r0 := RL c2 k2) (r2 := RL c2 k2) rfl (V5 (z7 (d := .int 12) rfl y6)) rfl (e3 p) rfl) rfl _)]
  rw [u9 (ys6 (e := ⟨p, c3, k3, row, s, ws⟩) (e' := ⟨p, c4, k4, row, s, ws⟩) (v := RI loads) (ρ' := envR ⟨p, c4, k4, row, s, ws⟩ (.ptr x) (oO M0) (oZ many) (oZ left) (oL other) (oL loads) none none) ((xm5 (p := p) (xs := other) (i := 8) rfl rfl e4).trans rfl) rfl _)]
  have ei := ya8 other.length (by omega) (m := z8 (mlen (bvar 8)) anil) (ρ := envR ⟨p, c4, k4, row, s, ws⟩ (.ptr x) (oO M0) (oZ many) (oZ left) (oL other) (oL loads) none none) (z7 (x := mlen (bvar 8)) (d := .int (other.length : Int)) (by rw [j5 (ds := other.map .int) rfl, length_map]) y6)
  have lx := lp x
  have z0 : M0 ++ momO s (row.take left) other 0 = M0 := append_nil _
  rw [take_zero, take_zero, append_nil, append_nil] at lx
  have z1 : (⟨p, c4, k4, row, s, ws⟩ : Ev).s = s := rfl
  have z2 : (⟨p, c4, k4, row, s, ws⟩ : Ev).row = row := rfl
  have z3 : (⟨p, c4, k4, row, s, ws⟩ : Ev).ws = ws := rfl
  rw [z1, z2, z3, z0] at lx
  rw [u9 (yk5 ei lx)]
  unfold U6
  have lwh : (row.take left ++ other).length <= 300 := by rw [length_append]; omega
  have s11 : wS (mset 11 (mlst (mcat (mcut (bvar 1) g8 (i7 (mvar 7))) (bvar 8)))) (envR ⟨p, c4, k4, row, s, ws⟩ (.ptr x) (oO (M0 ++ Mo)) (oZ many) (oZ left) (oL other) (oL loads) (oN o') none) [(x, Gc s (row.take left ++ other) (ws.take left ++ loads) (M0 ++ Mo))] = some (.nx (envR ⟨p, c4, k4, row, s, ws⟩ (.ptr x) (oO (M0 ++ Mo)) (oZ many) (oZ left) (oL other) (oL loads) (oN o') (oL (row.take left ++ other))), [(x, Gc s (row.take left ++ other) (ws.take left ++ loads) (M0 ++ Mo))]) := by
   refine zz0 ((S7 (d := RI (row.take left ++ other)) ?_).trans rfl)
   refine (r6 (P5 (es := other.map .int) (zw4 (row := row) (n := left) rfl rfl) rfl (by rw [length_map, length_map, <- length_append]; omega))).trans ?_
   rw [<- map_append]
  rw [u9 s11]
  have ewl : mlst (mcat (mcut (bvar 3) g8 (i7 (mvar 7))) (bvar 9)) (envR ⟨p, c4, k4, row, s, ws⟩ (Go s (row.take left ++ other) (ws.take left ++ loads) (M0 ++ Mo)) (oO (M0 ++ Mo)) (oZ many) (oZ left) (oL other) (oL loads) (oN o') (oL (row.take left ++ other))) = some (RI (ws.take left ++ loads)) := by
   refine (r6 (P5 (es := loads.map .int) (zw4 (row := ws) (n := left) rfl rfl) rfl (by rw [length_map, length_map]; omega))).trans ?_
   rw [<- map_append]
  rw [u9 (chk (s := s) (ns := row.take left ++ other) (gs := ws.take left ++ loads) (ls := M0 ++ Mo) (zb4 rfl rfl rfl rfl rfl (ys4 _ _) rfl) (z7 (x := mvar 4) (d := Go s (row.take left ++ other) (ws.take left ++ loads) (M0 ++ Mo)) rfl (z7 (x := mvar 11) (d := RI (row.take left ++ other)) rfl (z7 ewl (z7 (x := mvar 2) (d := .int s) rfl y6)))) rfl rfl hs (by rw [length_append, length_append]; omega) (zf8 h0 h1) lwh)]
  have s13 := ya5 (i := 4) (m := z8 (mlen (bvar 8)) anil) (ρ := envR ⟨p, c4, k4, row, s, ws⟩ (.ptr x) (oO (M0 ++ Mo)) (oZ many) (oZ left) (oL other) (oL loads) (oN o') (oL (row.take left ++ other))) (β := [(x, Gc s (row.take left ++ other) (ws.take left ++ loads) (M0 ++ Mo))]) (x := x) (k := other.length) rfl (Z2 _ _ _) (z7 (by rw [j5 (ds := other.map .int) rfl, length_map]) y6) hs (by rw [length_append]; omega) (by rw [length_append, length_append]; omega) lwh (by rw [length_append]; omega)
  have lk : (row.take left ++ other).length - other.length = (row.take left).length := by rw [length_append]; omega
  have tk2 : (ws.take left ++ loads).take (row.take left).length = ws.take left := take_left' (by rw [lt, lw])
  rw [lk, take_left, tk2, V9] at s13
  rw [u9 s13]
  have s14 : wS (mapp 5 (t7 J9 (z8 (mlst (mcut (bvar 1) g8 (i7 (mvar 7)))) (z8 (mvar 2) anil)))) (envR ⟨p, c4, k4, row, s, ws⟩ (.ptr x) (oO (M0 ++ Mo)) (oZ many) (oZ left) (oL other) (oL loads) (oN o') (oL (row.take left ++ other))) [(x, Gc s (row.take left) (ws.take left) (M0 ++ Mo ++ [lenG s (row.take left)]))] = some (.nx (envR ⟨p, c4, k4, row, s, ws⟩ (.ptr x) (oO (M0 ++ Mo ++ [lenG s (row.take left)])) (oZ many) (oZ left) (oL other) (oL loads) (oN o') (oL (row.take left ++ other))), [(x, Gc s (row.take left) (ws.take left) (M0 ++ Mo ++ [lenG s (row.take left)]))]) := by
   refine zz0 ?_
   unfold mapp
   show ((t7 J9 _ (envR ⟨p, c4, k4, row, s, ws⟩ (.ptr x) (oO (M0 ++ Mo)) (oZ many) (oZ left) (oL other) (oL loads) (oN o') (oL (row.take left ++ other)))).bind fun d => if ((M0 ++ Mo).map D.int).length < sizeLine then some (Out.nx ((envR ⟨p, c4, k4, row, s, ws⟩ (.ptr x) (oO (M0 ++ Mo)) (oZ many) (oZ left) (oL other) (oL loads) (oN o') (oL (row.take left ++ other))).set 5 (some (.own ((M0 ++ Mo).map D.int ++ [d]))))) else none) = _
   rw [v6 (z7 (ecut _ _ _ _ _ _ _ rfl) (z7 (x := mvar 2) (d := .int s) rfl y6)) (G3 s (row.take left) hs (by omega)), Option.bind_some, if_pos (by rw [length_map, length_append]; omega), show (M0 ++ Mo).map D.int ++ [D.int (lenG s (row.take left))] = (M0 ++ Mo ++ [lenG s (row.take left)]).map D.int by rw [map_append (l₁ := M0 ++ Mo)]; rfl]
   rfl
  rw [u9 s14]
  show J7 0 _ (envR ⟨p, c4, k4, row, s, ws⟩ (.ptr x) (oL (M0 ++ Mo ++ [lenG s (row.take left)])) (oZ many) (oZ left) (oL other) (oL loads) (oN o') (oL (row.take left ++ other))) _ = _
  unfold J7
  rw [last (s := s) (ns := row.take left) (gs := ws.take left) (ls := M0 ++ Mo ++ [lenG s (row.take left)]) (zb4 rfl rfl rfl rfl rfl (ys4 _ _) rfl) (z7 (x := mvar 4) (d := Go s (row.take left) (ws.take left) (M0 ++ Mo ++ [lenG s (row.take left)])) rfl (z7 (ecut _ _ _ _ _ _ _ rfl) (z7 (wcut _ _ _ _ _ _ _ rfl) (z7 (x := mvar 2) (d := .int s) rfl y6)))) rfl rfl hs (by omega) h0' (by omega)]
  rfl
 have run : Z4 (T0 12 p (RL c k) [RI row, .int s]) [] = some (.rg (.bl true) p (RL c4 k4), []) := by
  unfold Z4
  have s0 : wS (X9 3 (U7 [none, some 0] (v7 (mvar 1)) 0 1 (w4 m_Z2 1 (apu anil)))) (T0 12 p (RL c k) [RI row, .int s]) [] = some (.nx [some (.ob p (RL c1 k1)), some (.sh (RI row)), some (.sh (.int s)), some (.sh (RI ws)), none, none, none, none, none, none, none, none], []) :=
   zz0 ((Y2 (xm5 (p := p) (xs := row) (i := 1) rfl rfl e1)).trans rfl)
  rw [u9 s0]
  refine xr3 (ds := [.int s]) (z7 rfl y6) fun x _ => ?_
  exact ⟨_, (.rg (.bl true) p (RL c4 k4), [(x, Gc s (row.take left) (ws.take left) (M0 ++ Mo ++ [lenG s (row.take left)]))]), xq5 x s hs _, main x, rfl⟩
 unfold i9 yg3
 rw [run]
 simp only [if_true]
end
section
def envP (scr : D) (j : Nat) (c k : Int) (o3 o4 o5 : Option S) : Ro := [some (.sh scr), some (.sh (.int (j : Int))), some (.own (RL c k)), o3, o4, o5]
theorem yz1 {scr : D} {j : Nat} {c k m x c' k' : Int} {o3 o4 o5 : Option S} {e : ME} (h : Nx c k m x c' k') (hx : e (envP scr j c k o3 o4 o5) = some (.int m)) : w4 o0 2 (apu (z8 e anil)) (envP scr j c k o3 o4 o5) = some (.int x, envP scr j c' k' o3 o4 o5) :=
 (Z9 (r0 := RL c k) (r2 := RL c k) rfl (V5 (z7 hx y6)) rfl h rfl).trans rfl
theorem zh3 : ∀ (its : List Int) (c k : Int) (o : Option S) (acc : List Int), acc.length + its.length <= 1000 -> ∃ (f : List Int) (c' k' : Int) (o' : Option S), f.length = acc.length + its.length /\
  d8 (m2m subD (w4 o0 1 (apu (z8 (mc (.int 41)) anil))) (mpu (mc (.int 20)))) (its.map .int) [o, some (.own (RL c k))] (acc.map .int) = some (f.map .int, [o', some (.own (RL c' k'))])
 | [], c, k, o, acc, _ => ⟨acc, c, k, o, by simp, rfl⟩
 | i :: its, c, k, o, acc, h => by
  obtain ⟨x, c1, k1, _, _, e⟩ := m7 c k 41 (by decide) (by decide)
  obtain ⟨f, c', k', o', hf, e2⟩ := zh3 its c1 k1 (some (.sh (.int i))) (acc ++ [x - 20]) (by simp at h ⊢; omega)
  refine ⟨f, c', k', o', by rw [hf]; simp; omega, ?_⟩
  rw [map_cons, d8]
  have e3 : m2m subD (w4 o0 1 (apu (z8 (mc (.int 41)) anil))) (mpu (mc (.int 20))) [some (.sh (.int i)), some (.own (RL c k))] = some (.int (x - 20), [some (.sh (.int i)), some (.own (RL c1 k1))]) :=
   X5 (Z9 (r0 := RL c k) (r2 := RL c k) rfl (V5 (z7 (d := .int 41) rfl y6)) rfl e rfl) (Y7 (d := .int 20) rfl) rfl
  show (match m2m subD (w4 o0 1 (apu (z8 (mc (.int 41)) anil))) (mpu (mc (.int 20))) [some (.sh (.int i)), some (.own (RL c k))] with | some (x, ρ1) => if (acc.map D.int).length < sizeLine then d8 _ (its.map .int) ρ1 (acc.map D.int ++ [x]) else none | none => none) = _
  rw [e3]
  have hz : (acc.map D.int).length < sizeLine := by
   have := u7
   rw [length_map]; simp at h; omega
  simp only [hz, if_true]
  rw [map_append] at e2
  exact e2
theorem zk6 {f : List D -> Option (List D)} {m : MLm} {ρ ρ1 : Ro} {ds its : List D} (h : m ρ = some (ds, ρ1)) (h2 : f ds = some its) : R6 f m ρ = some (its, ρ1) := by
 unfold R6
 rw [h]
 simp only
 rw [h2]
theorem yr6 (n : Nat) (hn : n <= 1000) : rng1 [.int (n : Int)] = some (((List.range n).map fun (i : Nat) => (i : Int)).map .int) := by
 rw [zr2 (T6 (by omega) (by omega)), Int.toNat_natCast, zz7]
theorem yj3 {src : List (Option Nat)} {mi : MLm} {i j : Nat} {elt : MEm} {ρ ρ1 ρ2 : Ro} {its : List D} {d : D} (h : mi ρ = some (its, ρ1)) (h2 : zk7 src (fun _ => some its) i j elt ρ1 = some (d, ρ2)) : P3 src mi i j elt ρ = some (d, ρ2) := by
 unfold P3
 rw [h]
 exact h2
theorem yb1 {src : List (Option Nat)} {mi : MLm} {g : Tg} {c : MB} {elt : ME} {ρ ρ1 : Ro} {its out : List D} (h : mi ρ = some (its, ρ1)) (h2 : V4 g c elt its (g5 src ρ1) [] = some out) : D3 src mi g c elt ρ = some (.lst out, ρ1) := by
 unfold D3
 rw [h]
 simp only
 rw [h2]
theorem xp6 (scr : D) (j : Nat) (c k : Int) (o3 o4 o5 : Option S) : ∃ (f : List Int) (c' k' : Int), 1 <= f.length /\ f.length <= 12 /\ P3 [none, some 2] (R6 rng1 (l0 (m2m addD (mpu (mc (.int 1))) (w4 o0 2 (apu (z8 (mc (.int 12)) anil)))) (apu anil))) 2 1 (m2m subD (w4 o0 1 (apu (z8 (mc (.int 41)) anil))) (mpu (mc (.int 20)))) (envP scr j c k o3 o4 o5) = some (RI f, envP scr j c' k' o3 o4 o5) := by
 obtain ⟨x, c1, k1, x0, x1, e1⟩ := m7 c k 12 (by decide) (by decide)
 obtain ⟨n, rfl⟩ := yo2 x0
 obtain ⟨f, c2, k2, o', hf, e2⟩ := zh3 ((List.range (n + 1)).map fun (i : Nat) => (i : Int)) c1 k1 none [] (by simp; omega)
 have hf : f.length = n + 1 := by simpa using hf
 refine ⟨f, c2, k2, by omega, by omega, ?_⟩
 have ei : R6 rng1 (l0 (m2m addD (mpu (mc (.int 1))) (w4 o0 2 (apu (z8 (mc (.int 12)) anil)))) (apu anil)) (envP scr j c k o3 o4 o5) = some (((List.range (n + 1)).map fun (i : Nat) => (i : Int)).map .int, envP scr j c1 k1 o3 o4 o5) :=
  zk6 (ds := [.int ((n + 1 : Nat) : Int)]) (l8 (X5 (Y7 (d := .int 1) rfl) (yz1 e1 rfl) (show addD (.int 1) (.int (n : Int)) = some (.int ((n + 1 : Nat) : Int)) by show some (D.int (1 + (n : Int))) = _; rw [show (1 + (n : Int)) = ((n + 1 : Nat) : Int) by omega])) (V5 y6)) (yr6 (n + 1) (by omega))
 exact yj3 ei ((yn4 (ρ := envP scr j c1 k1 o3 o4 o5) (r0 := RL c1 k1) (r1 := RL c2 k2) rfl rfl (out := f.map .int) (ρb := [o', some (.own (RL c2 k2))]) e2 rfl).trans rfl)
theorem xq2 (scr : D) (j : Nat) (c k : Int) (o3 o4 : Option S) (f : List Int) (h1 : 1 <= f.length) (h12 : f.length <= 12) : ∃ (g : List Int) (c' k' : Int), g.length <= 250 /\ D3 [none, some 5] (R6 rng1 (l0 (m2m ixLD (zv9 (l0 (m2m addD (mpu (mc (.int 40))) (w4 o0 2 (apu (z8 (mc (.int 41)) anil)))) (apu (z8 (mc (.int 200)) anil)))) (w4 o0 2 (apu (z8 (mc (.int 2)) anil)))) (apu anil))) (.nm 0) cyes (m2 addD (mix (bvar 1) (m2 modD (mvar 0) (mlen (bvar 1)))) (m2 zu1 (mvar 0) (mc (.int 9)))) (envP scr j c k o3 o4 (some (.sh (RI f)))) = some (RI g, envP scr j c' k' o3 o4 (some (.sh (RI f)))) := by
 have i2 : 0 + 1 + 1 <= sizeLine := u0 (by decide)
 obtain ⟨x, c1, k1, x0, x1, e1⟩ := m7 c k 41 (by decide) (by decide)
 obtain ⟨y, c2, k2, y0, y1, e2⟩ := m7 c1 k1 2 (by decide) (by decide)
 obtain ⟨n, hn, hn2⟩ : ∃ n : Nat, atI [D.int (40 + x), .int 200] y = some (.int (n : Int)) /\ n <= 200 := by
  have : y = 0 \/ y = 1 := by omega
  rcases this with h | h <;> subst h
  ·exact ⟨(40 + x).toNat, by rw [show (((40 + x).toNat : Nat) : Int) = 40 + x by omega]; rfl, by omega⟩
  ·exact ⟨200, rfl, by decide⟩
 have ei : R6 rng1 (l0 (m2m ixLD (zv9 (l0 (m2m addD (mpu (mc (.int 40))) (w4 o0 2 (apu (z8 (mc (.int 41)) anil)))) (apu (z8 (mc (.int 200)) anil)))) (w4 o0 2 (apu (z8 (mc (.int 2)) anil)))) (apu anil)) (envP scr j c k o3 o4 (some (.sh (RI f)))) = some (((List.range n).map fun (i : Nat) => (i : Int)).map .int, envP scr j c2 k2 o3 o4 (some (.sh (RI f)))) :=
  zk6 (ds := [.int (n : Int)]) (l8 (X5 (zq6 (l8 (X5 (Y7 (d := .int 40) rfl) (yz1 e1 rfl) (g := .int (40 + x)) rfl) (V5 (z7 (d := .int 200) rfl y6))) i2) (yz1 e2 rfl) (show ixLD (.lst [D.int (40 + x), .int 200]) (.int y) = some (.int (n : Int)) from hn)) (V5 y6)) (yr6 n (by omega))
 refine ⟨(List.range n).map fun (i : Nat) => f.getD (i % f.length) 0 + ((i / 9 : Nat) : Int), c2, k2, by simp; omega, ?_⟩
 have hl : (f.length : Int) > 0 := by omega
 have ec : V4 (.nm 0) cyes (m2 addD (mix (bvar 1) (m2 modD (mvar 0) (mlen (bvar 1)))) (m2 zu1 (mvar 0) (mc (.int 9)))) (((List.range n).map fun (i : Nat) => (i : Int)).map .int) (g5 [none, some 5] (envP scr j c2 k2 o3 o4 (some (.sh (RI f))))) [] = some (((List.range n).map fun (i : Nat) => f.getD (i % f.length) 0 + ((i / 9 : Nat) : Int)).map .int) := by
  rw [map_map]
  refine (V3 (f := fun (i : Nat) => D.int (i : Int)) (G := fun (i : Nat) => D.int (f.getD (i % f.length) 0 + ((i / 9 : Nat) : Int))) (fun _ ρ => ∃ o, ρ = [o, some (.sh (RI f))]) (by
   rintro i ds ρ ⟨o, rfl⟩
   refine ⟨[some (.sh (.int (i : Int))), some (.sh (RI f))], rfl, rfl, ?_, _, rfl⟩
   have el : mlen (bvar 1) [some (.sh (.int (i : Int))), some (.sh (RI f))] = some (.int (f.length : Int)) := by rw [j5 (ds := f.map .int) rfl, length_map]
   have em : m2 modD (mvar 0) (mlen (bvar 1)) [some (.sh (.int (i : Int))), some (.sh (RI f))] = some (.int ((i % f.length : Nat) : Int)) := by
    rw [g4 (a := .int (i : Int)) rfl el]
    show (if zk4 (i : Int) (f.length : Int) = true then some (D.int ((i : Int) % (f.length : Int))) else none) = _
    rw [if_pos (S9 _ _ (by omega))]
    rfl
   have ed : m2 zu1 (mvar 0) (mc (.int 9)) [some (.sh (.int (i : Int))), some (.sh (RI f))] = some (.int ((i / 9 : Nat) : Int)) := by
    rw [g4 (a := .int (i : Int)) (b := .int 9) rfl rfl]
    show (if zs2 (i : Int) 9 = true then some (D.int ((i : Int) / 9)) else none) = _
    rw [if_pos (zw0 _ _ (by decide) (by decide))]
    rfl
   rw [g4 (W9 (ds := f.map .int) rfl em (P9 f (i % f.length) (Nat.mod_lt _ (by omega)))) ed]
   rfl) (List.range n) _ [] ⟨none, rfl⟩ (u0 (by simp; omega))).trans ?_
  rw [nil_append, map_map]
  rfl
 exact yb1 ei ec
theorem xi2 (scr : D) (j : Nat) (c : Int) (o3 o4 o5 : Option S) : ∃ o2' o3' o4' o5', A6 (envP scr j c 0 o3 o4 o5) = some (.nx [some (.sh scr), some (.sh (.int (j : Int))), o2', o3', o4', o5']) := by
 unfold A6
 obtain ⟨row, c1, k1, hl, _, e1⟩ := zz3 c 0 40 (by decide)
 obtain ⟨s, c2, k2, hs, _, e2⟩ := zo7 c1 k1
 have h1 : w4 yu1 2 (apu (z8 (mc (.int 40)) anil)) (envP scr j c 0 o3 o4 o5) = some (RI row, envP scr j c1 k1 o3 o4 o5) :=
  (Z9 (r0 := RL c 0) (r2 := RL c 0) rfl (V5 (z7 (d := .int 40) rfl y6)) rfl e1 rfl).trans rfl
 have h2 : w4 m_Z7 2 (apu anil) (envP scr j c1 k1 (some (.sh (RI row))) o4 o5) = some (.int s, envP scr j c2 k2 (some (.sh (RI row))) o4 o5) :=
  (Z9 (r0 := RL c1 k1) (r2 := RL c1 k1) rfl (V5 y6) rfl e2 rfl).trans rfl
 obtain ⟨g, c4, k4, o5', hg, h3⟩ : ∃ (g : List Int) (c4 k4 : Int) (o5' : Option S), g.length <= 250 /\ mifm (zc2 (cpu (v3 (m2 eqSD (mvar 1) (mc (.int 0))))) (P2 (m2m eqSD (w4 o0 2 (apu (z8 (mc (.int 8)) anil))) (mpu (mc (.int 0)))))) (mseq (X9 5 (P3 [none, some 2] (R6 rng1 (l0 (m2m addD (mpu (mc (.int 1))) (w4 o0 2 (apu (z8 (mc (.int 12)) anil)))) (apu anil))) 2 1 (m2m subD (w4 o0 1 (apu (z8 (mc (.int 41)) anil))) (mpu (mc (.int 20)))))) (X9 3 (D3 [none, some 5] (R6 rng1 (l0 (m2m ixLD (zv9 (l0 (m2m addD (mpu (mc (.int 40))) (w4 o0 2 (apu (z8 (mc (.int 41)) anil)))) (apu (z8 (mc (.int 200)) anil)))) (w4 o0 2 (apu (z8 (mc (.int 2)) anil)))) (apu anil))) (.nm 0) cyes (m2 addD (mix (bvar 1) (m2 modD (mvar 0) (mlen (bvar 1)))) (m2 zu1 (mvar 0) (mc (.int 9))))))) d7 (envP scr j c2 k2 (some (.sh (RI row))) (some (.sh (.int s))) o5) = some (.nx (envP scr j c4 k4 (some (.sh (RI g))) (some (.sh (.int s))) o5')) := by
  have t0 : cpu (v3 (m2 eqSD (mvar 1) (mc (.int 0)))) (envP scr j c2 k2 (some (.sh (RI row))) (some (.sh (.int s))) o5) = some ((j : Int) == 0, envP scr j c2 k2 (some (.sh (RI row))) (some (.sh (.int s))) o5) := by
   unfold cpu
   rw [xk6 (i := (j : Int)) rfl]
  cases hj : ((j : Int) == 0) with
  | false =>
   refine ⟨row, c2, k2, o5, by omega, ?_⟩
   unfold mifm zc2
   rw [t0, hj]
   rfl
  | true =>
   obtain ⟨x, c3, k3, _, _, e3⟩ := m7 c2 k2 8 (by decide) (by decide)
   have t1 : P2 (m2m eqSD (w4 o0 2 (apu (z8 (mc (.int 8)) anil))) (mpu (mc (.int 0)))) (envP scr j c2 k2 (some (.sh (RI row))) (some (.sh (.int s))) o5) = some (x == 0, envP scr j c3 k3 (some (.sh (RI row))) (some (.sh (.int s))) o5) := by
    unfold P2
    rw [X5 (yz1 e3 rfl) (Y7 (d := .int 0) rfl) (g := .bl (x == 0)) rfl]
   have t2 : zc2 (cpu (v3 (m2 eqSD (mvar 1) (mc (.int 0))))) (P2 (m2m eqSD (w4 o0 2 (apu (z8 (mc (.int 8)) anil))) (mpu (mc (.int 0))))) (envP scr j c2 k2 (some (.sh (RI row))) (some (.sh (.int s))) o5) = some (x == 0, envP scr j c3 k3 (some (.sh (RI row))) (some (.sh (.int s))) o5) := by
    unfold zc2
    rw [t0, hj]
    exact t1
   cases hx : (x == 0) with
   | false =>
    refine ⟨row, c3, k3, o5, by omega, ?_⟩
    unfold mifm
    rw [t2, hx]
    rfl
   | true =>
    obtain ⟨f, c4, k4, f1, f2, e4⟩ := xp6 scr j c3 k3 (some (.sh (RI row))) (some (.sh (.int s))) o5
    obtain ⟨g, c5, k5, hg, e5⟩ := xq2 scr j c4 k4 (some (.sh (RI row))) (some (.sh (.int s))) f f1 f2
    refine ⟨g, c5, k5, some (.sh (RI f)), hg, ?_⟩
    unfold mifm
    rw [t2, hx]
    simp only
    exact seqI (ρ' := envP scr j c4 k4 (some (.sh (RI row))) (some (.sh (.int s))) (some (.sh (RI f)))) ((Y2 e4).trans rfl) ((Y2 e5).trans rfl)
 obtain ⟨c5, k5, e5⟩ := zn2 c4 k4 g hg s hs
 refine ⟨some (.own (RL c5 k5)), some (.sh (RI g)), some (.sh (.int s)), o5', ?_⟩
 refine seqI (ρ' := envP scr j c1 k1 (some (.sh (RI row))) o4 o5) ((Y2 h1).trans rfl) ?_
 refine seqI (ρ' := envP scr j c2 k2 (some (.sh (RI row))) (some (.sh (.int s))) o5) ((Y2 h2).trans rfl) ?_
 refine seqI h3 ?_
 have h5 : w4 i9 2 (apu (z8 (mvar 3) (z8 (mvar 4) anil))) (envP scr j c4 k4 (some (.sh (RI g))) (some (.sh (.int s))) o5') = some (.bl true, envP scr j c5 k5 (some (.sh (RI g))) (some (.sh (.int s))) o5') :=
  (Z9 (r0 := RL c4 k4) (r2 := RL c4 k4) rfl (V5 (z7 (d := RI g) rfl (z7 (d := .int s) rfl y6))) rfl e5 rfl).trans rfl
 unfold mifm yb2 P2
 rw [h5]
 rfl
theorem zj6 {body : MS} {scr : D} (hs : ∀ (j : Nat) (c : Int) o3 o4 o5, ∃ o2' o3' o4' o5', body (envP scr j c 0 o3 o4 o5) = some (.nx [some (.sh scr), some (.sh (.int (j : Int))), o2', o3', o4', o5'])) : ∀ (cs : List Int) (n : Nat) (o1 o2 o3 o4 o5 : Option S), ∃ o1' o2' o3' o4' o5', zx8 1 2 body n (cs.map fun c => RL c 0) [some (.sh scr), o1, o2, o3, o4, o5] = some (.nx [some (.sh scr), o1', o2', o3', o4', o5'])
 | [], n, o1, o2, o3, o4, o5 => ⟨o1, o2, o3, o4, o5, rfl⟩
 | c :: cs, n, o1, o2, o3, o4, o5 => by
  obtain ⟨b2, b3, b4, b5, e⟩ := hs n c o3 o4 o5
  obtain ⟨d1, d2, d3, d4, d5, e2⟩ := zj6 hs cs (n + 1) (some (.sh (.int (n : Int)))) b2 b3 b4 b5
  refine ⟨d1, d2, d3, d4, d5, ?_⟩
  rw [map_cons, zx8]
  show (match body (envP scr n c 0 o3 o4 o5) with | some (.nx ρ2) => zx8 1 2 body (n + 1) (cs.map fun c => RL c 0) ρ2 | some (.ct ρ2) => zx8 1 2 body (n + 1) (cs.map fun c => RL c 0) ρ2 | some (.bk ρ2) => some (Out.nx ρ2) | o => o) = _
  rw [e]
  exact e2
theorem law_true (ns : List Int) (hn : ns.length <= 63) : ze0 [.lst (ns.map .int)] = some (.sh (.bl true)) := by
 unfold ze0 xp7
 refine c8 ?_
 have c1 : mlst (mcut (bvar 0) g8 (i7 (mc (.int 2)))) (u5 6 [.lst (ns.map .int)]) = some (.lst ((cutI ns none (some 2)).map .int)) := by
  refine r6 ?_
  unfold mcut
  exact congrArg some (G5 D.int ns none (some 2))
 have hc := yy9 ns none (some 2)
 obtain ⟨cs, e⟩ := xu8 (cutI ns none (some 2)) (by omega)
 obtain ⟨o1, o2, o3, o4, o5, e2⟩ := zj6 (body := A6) (scr := .lst (ns.map .int)) (fun j c o3 o4 o5 => xi2 (.lst (ns.map .int)) j c o3 o4 o5) cs 0 none none none none none
 refine seqI (ρ' := [some (.sh (.lst (ns.map .int))), o1, o2, o3, o4, o5]) ?_ rfl
 unfold yz6 yz9
 rw [z7 c1 y6, Option.bind_some, e, Option.bind_some]
 exact e2
end
end Lw
namespace Lw
open List
open PySem L2
open PyProof.Rows
section
def top (i : Nat) : Stmt := PySem.Challenge.pw_wavyrow_k32_whole_grown_as_plain.main.body.getD i (.Pass ⟨0, 0, 0, 0⟩)
def xc5 : Stmt -> List Stmt
 | .ClassDef _ _ _ b _ _ _ _ _ _ _ => b
 | _ => []
def zp0 (i j : Nat) : Stmt := (xc5 (top i)).getD j (.Pass ⟨0, 0, 0, 0⟩)
section
variable (P : Program) (w : World) (K : W.Frag) (mg : Str -> Option Value) (base : Heap)
abbrev yt6 : Prop := QHd P w K mg base 1 "refuse_step" ["step"] (spR K 1 zk9)
abbrev xn7 : Prop := QHd P w K mg base 1 "later_steps" ["row", "step"] (spR K 2 ym1)
abbrev T_Z6 : Prop := QHd P w K mg base 1 "longest_joined" ["tails"] (spR K 1 m_Z6)
abbrev T_Z0 : Prop := QHd P w K mg base 2 "how_many_longest" ["row", "step"] (spR K 2 m_Z0)
abbrev T_Z9 : Prop := QHd P w K mg base 1 "refuse_weight" ["weight"] (spR K 1 m_Z9)
abbrev T_Z5 : Prop := QHd P w K mg base 2 "refuse_weights" ["row", "weights"] (spR K 2 m_Z5)
abbrev xa0 : Prop := QHd P w K mg base 1 "heavier_first" ["heavy"] (spR K 1 yu2)
abbrev T_Z3 : Prop := QHd P w K mg base 3 "first_heaviest" ["heavies"] (spR K 1 m_Z3)
abbrev xb5 : Prop := QHd P w K mg base 4 "heavy_tails" ["row", "step", "weights"] (spR K 3 xr9)
abbrev xn5 : Prop := QHd P w K mg base 5 "heaviest" ["row", "step", "weights"] (spR K 3 ze1)
abbrev xb2 : Prop := QHd P w K mg base 1 "tails" ["row", "step"] (spR K 2 xr8)
abbrev xb7 : Prop := QHd P w K mg base 1 "longer_first" ["places"] (spR K 1 zj0)
abbrev xb3 : Prop := QHd P w K mg base 3 "longest" ["row", "step"] (spR K 2 yn9)
abbrev yb7 : Prop := QHd P w K mg base 4 "how_long" ["row", "step"] (spR K 2 J9)
abbrev xb6 : Prop := QHd P w K mg base 1 "first_break" ["row", "step", "kind", "start"] (spR K 4 ze3)
abbrev xn6 : Prop := QHd P w K mg base 2 "pieces_of" ["row", "step"] (spR K 2 ze2)
abbrev C9 (y_Grown : Addr) : Prop := QHm P w K mg base 2 y_Grown "__init__" ["self", "step"] (spW K 2 k9)
abbrev xn8 (y_Grown : Addr) : Prop := QHm P w K mg base 3 y_Grown "pieces" ["self"] (spR K 1 ze4)
abbrev yb8 (y_Grown : Addr) : Prop := QHm P w K mg base 4 y_Grown "length" ["self"] (spR K 1 E9)
abbrev K0 (y_Grown : Addr) : Prop := QHm P w K mg base 5 y_Grown "put" ["self", "number", "weight"] (spW K 3 Y0)
abbrev C1 (y_Grown : Addr) : Prop := QHm P w K mg base 5 y_Grown "take" ["self", "many"] (spW K 2 a0)
abbrev xb8 (y_Grown : Addr) : Prop := QHm P w K mg base 6 y_Grown "weight" ["self"] (spR K 1 yd7)
abbrev T_Z4 (y_Grown : Addr) : Prop := QHm P w K mg base 3 y_Grown "how_many" ["self"] (spR K 1 m_Z4)
abbrev xb4 (y_Grown : Addr) : Prop := QHm P w K mg base 1 y_Grown "row" ["self"] (spR K 1 ym0)
abbrev T_Z8 (y_Grown : Addr) : Prop := QHm P w K mg base 1 y_Grown "moments" ["self"] (spR K 1 m_Z8)
abbrev zc8 : Prop := QHd P w K mg base 1 "_law_next" ["pot", "many"] (spG K 2 o0)
abbrev zs8 : Prop := QHd P w K mg base 1 "_law_pots" ["script"] (spP K 1 O9)
abbrev T_Z1 : Prop := QHd P w K mg base 2 "_law_some_number" ["pot", "kind"] (spG K 2 m_Z1)
abbrev xn9 : Prop := QHd P w K mg base 3 "_law_some_row" ["pot", "most"] (spG K 2 yu1)
abbrev T_Z7 : Prop := QHd P w K mg base 2 "_law_some_step" ["pot"] (spG K 1 m_Z7)
abbrev T_Z2 : Prop := QHd P w K mg base 2 "_law_some_weight" ["pot"] (spG K 1 m_Z2)
abbrev xb9 : Prop := QHd P w K mg base 7 "_law_as_plain" ["grown", "row", "weights", "step"] (spR K 4 zp1)
abbrev F7 : Prop := QHd P w K mg base 6 "_law_put_all" ["grown", "row", "weights", "step"] (spW K 4 Z1)
abbrev O0 : Prop := QHd P w K mg base 8 "_law_run_right" ["pot", "row", "step"] (spG K 3 i9)
end
abbrev Zs (mg : Str -> Option Value) : Prop := mg "enumerate" = none /\ mg "len" = none /\ mg "list" = none /\ mg "max" = none /\ mg "min" = none /\ mg "range" = none /\ mg "reversed" = none /\ mg "sorted" = none /\ mg "sum" = none /\ True
theorem M4 {mg : Str -> Option Value} (Z : Zs mg) : mg "enumerate" = none := Z.1
theorem k6 {mg : Str -> Option Value} (Z : Zs mg) : mg "len" = none := Z.2.1
theorem ya0 {mg : Str -> Option Value} (Z : Zs mg) : mg "list" = none := Z.2.2.1
theorem xy9 {mg : Str -> Option Value} (Z : Zs mg) : mg "max" = none := Z.2.2.2.1
theorem ys1 {mg : Str -> Option Value} (Z : Zs mg) : mg "min" = none := Z.2.2.2.2.1
theorem g9 {mg : Str -> Option Value} (Z : Zs mg) : mg "range" = none := Z.2.2.2.2.2.1
theorem F8 {mg : Str -> Option Value} (Z : Zs mg) : mg "reversed" = none := Z.2.2.2.2.2.2.1
theorem yh3 {mg : Str -> Option Value} (Z : Zs mg) : mg "sorted" = none := Z.2.2.2.2.2.2.2.1
theorem xm4 {mg : Str -> Option Value} (Z : Zs mg) : mg "sum" = none := Z.2.2.2.2.2.2.2.2.1
variable {P : Program} {w : World} {K : W.Frag} {mg : Str -> Option Value} {base : Heap}
abbrev xw9 : Stmt := top 6
abbrev wv2 : List Str := ["step"]
theorem xj2 : FnScope wv2 ["step"] (y4 xw9) := qsc
theorem xf1 (D : QDf K mg "refuse_step" xw9 ["step"]) : yt6 P w K mg base :=
 D.mk fun f fd Fn => Fn.okD (k := 0) (m := xo5) xj2 fun cdv A outer s H E hr => (y9 (Z5 (t6 zf3 zy4 (z6 0 (pv 0)) y7 (u8 _)) (y9 K9) t8))
abbrev zg0 : Stmt := top 7
abbrev yh0 : List Str := ["row", "step", "above", "below", "place", "number"]
theorem sc_Z19 : FnScope yh0 ["row", "step"] (y4 zg0) := qsc
theorem R5 : List.Nodup (["later", "step", "number", "row"] : List Str) := by decide +kernel
theorem R4 : List.Nodup (["later", "step", "number", "row"] : List Str) := by decide +kernel
theorem xg9 (D : QDf K mg "later_steps" zg0 ["row", "step"]) (Z : Zs mg) : xn7 P w K mg base :=
 D.mk fun f fd Fn => Fn.okD (k := 0) (m := xo3) sc_Z19 fun cdv A outer s H E hr => (y2 (X7 (i := 2) sc_Z19.nd rfl (Or.inl rfl) (m8 z9)) (y2 (X7 (i := 3) sc_Z19.nd rfl (Or.inl rfl) (m8 z9)) (y2 (M6 PassesOwn.never rfl (za3 rfl (M4 Z) (z5 (z6 0 (pv 0)) z9)) (c9 (is := [4, 5]) (X4 rfl (w9 (x9 (i := 4) sc_Z19.nd rfl (Or.inl rfl)) (w9 (x9 (i := 5) sc_Z19.nd rfl (Or.inr rfl)) f6)))) (y2 (T3 (i := 2) (pv 2) (j4 (Q6 (d9 (N := ["later", "step", "number", "row"]) (src := [none, some 1, some 5, some 0]) (y4 zg0) yh0 rfl rfl (by decide +kernel)) rfl (W4 rfl (g9 Z) (z5 (l9 (z6 4 (pv 4)) y7) (z5 (v4 rfl (k6 Z) (x8 0 (pv 0))) z9))) (fun C fp s0 H0 => (t9 (i := 0) (x9 R5 rfl (Or.inl rfl)))) (fun C fp s0 H0 => (O5 (t6 zq0 J4 (J2 (i6 (x8 3 (pv 3)) (z6 0 (pv 0))) (z6 2 (pv 2))) (z6 1 (pv 1)) (u8 _)))) (fun C fp s0 H0 => (z6 0 (pv 0))))) (fun t ha => qap (pv 2) ha) (z5 (j4 (Q6 (d9 (N := ["later", "step", "number", "row"]) (src := [none, some 1, some 5, some 0]) (y4 zg0) yh0 rfl rfl (by decide +kernel)) rfl (W4 rfl (g9 Z) (z5 (l9 (z6 4 (pv 4)) y7) (z5 (v4 rfl (k6 Z) (x8 0 (pv 0))) z9))) (fun C fp s0 H0 => (t9 (i := 0) (x9 R5 rfl (Or.inl rfl)))) (fun C fp s0 H0 => (O5 (t6 zq0 J4 (J2 (i6 (x8 3 (pv 3)) (z6 0 (pv 0))) (z6 2 (pv 2))) (z6 1 (pv 1)) (u8 _)))) (fun C fp s0 H0 => (z6 0 (pv 0))))) z9)) (y9 (T3 (i := 3) (pv 3) (j4 (Q6 (d9 (N := ["later", "step", "number", "row"]) (src := [none, some 1, some 5, some 0]) (y4 zg0) yh0 rfl rfl (by decide +kernel)) rfl (W4 rfl (g9 Z) (z5 (l9 (z6 4 (pv 4)) y7) (z5 (v4 rfl (k6 Z) (x8 0 (pv 0))) z9))) (fun C fp s0 H0 => (t9 (i := 0) (x9 R4 rfl (Or.inl rfl)))) (fun C fp s0 H0 => (O5 (t6 zq0 J4 (J2 (z6 2 (pv 2)) (i6 (x8 3 (pv 3)) (z6 0 (pv 0)))) (z6 1 (pv 1)) (u8 _)))) (fun C fp s0 H0 => (z6 0 (pv 0))))) (fun t ha => qap (pv 3) ha) (z5 (j4 (Q6 (d9 (N := ["later", "step", "number", "row"]) (src := [none, some 1, some 5, some 0]) (y4 zg0) yh0 rfl rfl (by decide +kernel)) rfl (W4 rfl (g9 Z) (z5 (l9 (z6 4 (pv 4)) y7) (z5 (v4 rfl (k6 Z) (x8 0 (pv 0))) z9))) (fun C fp s0 H0 => (t9 (i := 0) (x9 R4 rfl (Or.inl rfl)))) (fun C fp s0 H0 => (O5 (t6 zq0 J4 (J2 (z6 2 (pv 2)) (i6 (x8 3 (pv 3)) (z6 0 (pv 0)))) (z6 1 (pv 1)) (u8 _)))) (fun C fp s0 H0 => (z6 0 (pv 0))))) z9))))) (k7 3 (k7 2 (y9 (m6 (W5 (z5 (z6 2 (pv 2)) (z5 (z6 3 (pv 3)) z9))))))))))
abbrev s_Z6 : Stmt := top 9
abbrev N_Z6 : List Str := ["tails", "known", "most"]
theorem sc_Z6 : FnScope N_Z6 ["tails"] (y4 s_Z6) := qsc
theorem W7 : List.Nodup (["length", "many"] : List Str) := by decide +kernel
theorem W6 : List.Nodup (["length", "many", "most"] : List Str) := by decide +kernel
theorem wy6 (D : QDf K mg "longest_joined" s_Z6 ["tails"]) (Z : Zs mg) : T_Z6 P w K mg base :=
 D.mk fun f fd Fn => Fn.okD (k := 0) (m := b_Z6) sc_Z6 fun cdv A outer s H E hr => (y2 (n9 (i := 1) sc_Z6.nd rfl (Or.inl rfl) (j4 (Q7 (S6 (m8 (z5 (W5 (z5 y7 (z5 y7 z9))) z9))) (x8 0 (pv 0))))) (y2 (n9 (i := 2) sc_Z6.nd rfl (Or.inr rfl) (xt7 rfl rfl (xy9 Z) (S6 (Q6 (d9 (N := ["length", "many"]) (src := [none, none]) (y4 s_Z6) N_Z6 rfl rfl (by decide +kernel)) rfl (X1 (z6 1 (pv 1))) (fun C fp s0 H0 => (c9 (is := [0, 1]) (X4 rfl (w9 (x9 (i := 0) W7 rfl (Or.inl rfl)) (w9 (x9 (i := 1) W7 rfl (Or.inl rfl)) f6))))) (fun C fp s0 H0 => a7) (fun C fp s0 H0 => (z6 0 (pv 0))))))) (y9 (m6 (W5 (z5 (l9 (z6 2 (pv 2)) y7) (z5 (xz6 rfl rfl (xm4 Z) (S6 (Q6 (d9 (N := ["length", "many", "most"]) (src := [none, none, some 2]) (y4 s_Z6) N_Z6 rfl rfl (by decide +kernel)) rfl (X1 (z6 1 (pv 1))) (fun C fp s0 H0 => (c9 (is := [0, 1]) (X4 rfl (w9 (x9 (i := 0) W6 rfl (Or.inl rfl)) (w9 (x9 (i := 1) W6 rfl (Or.inl rfl)) f6))))) (fun C fp s0 H0 => (O5 (t6 E5 Z8 (z6 0 (pv 0)) (z6 2 (pv 2)) (u8 _)))) (fun C fp s0 H0 => (z6 1 (pv 1))))) PyProof.Rows.boot_sum) z9)))))))
abbrev s_Z0 : Stmt := top 10
abbrev N_Z0 : List Str := ["row", "step", "above", "below", "ups", "downs", "place", "most"]
theorem sc_Z0 : FnScope N_Z0 ["row", "step"] (y4 s_Z0) := qsc
theorem P0 : List.Nodup (["later", "downs"] : List Str) := by decide +kernel
theorem Q9 : List.Nodup (["later", "ups"] : List Str) := by decide +kernel
theorem Y5 : List.Nodup (["length", "many"] : List Str) := by decide +kernel
theorem Y4 : List.Nodup (["length", "many", "most"] : List Str) := by decide +kernel
theorem wx2 (D : QDf K mg "how_many_longest" s_Z0 ["row", "step"]) (H_Z19 : xn7 P w K mg base) (H_Z6 : T_Z6 P w K mg base) (H_Z17 : yt6 P w K mg base) (Z : Zs mg) : T_Z0 P w K mg base :=
 D.mk fun f fd Fn => Fn.okD (k := 1) (m := b_Z0) sc_Z0 fun cdv A outer s H E hr => (y2 (U2 (v5 (fun t ha => qcl H_Z17 hr ha) rfl (z5 (z6 1 (pv 1)) z9) qal1)) (y2 (S3 (Z6 (v5 (fun t ha => qcl H_Z19 hr ha) rfl (z5 (z6 0 (pv 0)) (z5 (z6 1 (pv 1)) z9)) qal2) (c9 (is := [2, 3]) (X4 rfl (w9 (x9 (i := 2) sc_Z0.nd rfl (Or.inl rfl)) (w9 (x9 (i := 3) sc_Z0.nd rfl (Or.inl rfl)) f6)))))) (y2 (X7 (i := 4) sc_Z0.nd rfl (Or.inr rfl) (zm3 (m8 (z5 (W5 (z5 y7 (z5 y7 z9))) z9)) (v4 rfl (k6 Z) (x8 0 (pv 0))))) (y2 (X7 (i := 5) sc_Z0.nd rfl (Or.inr rfl) (zm3 (m8 (z5 (W5 (z5 y7 (z5 y7 z9))) z9)) (v4 rfl (k6 Z) (x8 0 (pv 0))))) (y2 (M6 PassesOwn.never rfl (zy0 rfl (F8 Z) rfl (g9 Z) (z5 (v4 rfl (k6 Z) (x8 0 (pv 0))) z9)) (t9 (i := 6) (x9 sc_Z0.nd rfl (Or.inl rfl))) (y2 (a8 (i := 4) (Z6 (v5 (fun t ha => qcl H_Z6 hr ha) rfl (z5 (j4 (A0 (B5 (by decide)) (d9 (N := ["later", "downs"]) (src := [none, some 5]) (y4 s_Z0) N_Z0 rfl rfl (by decide +kernel)) rfl (X1 (i6 (x8 2 (pv 2)) (z6 6 (pv 6)))) (fun C fp s0 H0 => (t9 (i := 0) (x9 P0 rfl (Or.inl rfl)))) (fun C fp s0 H0 => a7) (fun C fp s0 H0 => (i6 (x8 1 (pv 1)) (z6 0 (pv 0)))))) z9) qal1) (J0 (pv 4) (z6 6 (pv 6)) X6))) (y9 (a8 (i := 5) (Z6 (v5 (fun t ha => qcl H_Z6 hr ha) rfl (z5 (j4 (A0 (B5 (by decide)) (d9 (N := ["later", "ups"]) (src := [none, some 4]) (y4 s_Z0) N_Z0 rfl rfl (by decide +kernel)) rfl (X1 (i6 (x8 3 (pv 3)) (z6 6 (pv 6)))) (fun C fp s0 H0 => (t9 (i := 0) (x9 Q9 rfl (Or.inl rfl)))) (fun C fp s0 H0 => a7) (fun C fp s0 H0 => (i6 (x8 1 (pv 1)) (z6 0 (pv 0)))))) z9) qal1) (J0 (pv 5) (z6 6 (pv 6)) X6)))))) (k7 4 (k7 5 (y2 (n9 (i := 7) sc_Z0.nd rfl (Or.inr rfl) (xt8 rfl hr.units rfl (xy9 Z) (S6 (Q6 (d9 (N := ["length", "many"]) (src := [none, none]) (y4 s_Z0) N_Z0 rfl rfl (by decide +kernel)) rfl (X1 (l9 (z6 4 (pv 4)) (z6 5 (pv 5)))) (fun C fp s0 H0 => (c9 (is := [0, 1]) (X4 rfl (w9 (x9 (i := 0) Y5 rfl (Or.inl rfl)) (w9 (x9 (i := 1) Y5 rfl (Or.inl rfl)) f6))))) (fun C fp s0 H0 => a7) (fun C fp s0 H0 => (z6 0 (pv 0))))) y7)) (y2 (Z5 (t6 zf3 zy4 (z6 7 (pv 7)) y7 (u8 _)) (y9 (m6 (xt9 rfl rfl (xy9 Z) (z5 y7 (z5 (v4 rfl (k6 Z) (x8 0 (pv 0))) z9))))) t8) (y9 (m6 (xz6 rfl rfl (xm4 Z) (S6 (Q6 (d9 (N := ["length", "many", "most"]) (src := [none, none, some 7]) (y4 s_Z0) N_Z0 rfl rfl (by decide +kernel)) rfl (X1 (l9 (z6 4 (pv 4)) (z6 5 (pv 5)))) (fun C fp s0 H0 => (c9 (is := [0, 1]) (X4 rfl (w9 (x9 (i := 0) Y4 rfl (Or.inl rfl)) (w9 (x9 (i := 1) Y4 rfl (Or.inl rfl)) f6))))) (fun C fp s0 H0 => (O5 (t6 E5 Z8 (z6 0 (pv 0)) (z6 2 (pv 2)) (u8 _)))) (fun C fp s0 H0 => (z6 1 (pv 1))))) PyProof.Rows.boot_sum))))))))))))
abbrev s_Z9 : Stmt := top 12
abbrev N_Z9 : List Str := ["weight"]
theorem xa7 : FnScope N_Z9 ["weight"] (y4 s_Z9) := qsc
theorem wy3 (D : QDf K mg "refuse_weight" s_Z9 ["weight"]) : T_Z9 P w K mg base :=
 D.mk fun f fd Fn => Fn.okD (k := 0) (m := b_Z9) xa7 fun cdv A outer s H E hr => (y9 (Z5 (t6 zf3 zy4 (z6 0 (pv 0)) y7 (u8 _)) (y9 K9) t8))
abbrev s_Z5 : Stmt := top 13
abbrev N_Z5 : List Str := ["row", "weights", "weight"]
theorem sc_Z5 : FnScope N_Z5 ["row", "weights"] (y4 s_Z5) := qsc
theorem wy7 (D : QDf K mg "refuse_weights" s_Z5 ["row", "weights"]) (H_Z9 : T_Z9 P w K mg base) (Z : Zs mg) : T_Z5 P w K mg base :=
 D.mk fun f fd Fn => Fn.okD (k := 1) (m := b_Z5) sc_Z5 fun cdv A outer s H E hr => (y2 (Z5 (t6 wy1 xs6 (v4 rfl (k6 Z) (x8 1 (pv 1))) (v4 rfl (k6 Z) (x8 0 (pv 0))) (u8 _)) (y9 K9) t8) (y9 (M6 PassesOwn.never rfl (X1 (z6 1 (pv 1))) (t9 (i := 2) (x9 sc_Z5.nd rfl (Or.inl rfl))) (y9 (U2 (v5 (fun t ha => qcl H_Z9 hr ha) rfl (z5 (z6 2 (pv 2)) z9) qal1))))))
abbrev xv5 : Stmt := top 14
abbrev wv8 : List Str := ["heavy", "weight", "places"]
theorem sc_Z10 : FnScope wv8 ["heavy"] (y4 xv5) := qsc
theorem xf8 (D : QDf K mg "heavier_first" xv5 ["heavy"]) (Z : Zs mg) : xa0 P w K mg base :=
 D.mk fun f fd Fn => Fn.okD (k := 0) (m := yi6) sc_Z10 fun cdv A outer s H E hr => (y2 (S3 (Z6 (z6 0 (pv 0)) (c9 (is := [1, 2]) (X4 rfl (w9 (x9 (i := 1) sc_Z10.nd rfl (Or.inl rfl)) (w9 (x9 (i := 2) sc_Z10.nd rfl (Or.inl rfl)) f6)))))) (y9 (m6 (W5 (z5 (J3 (z6 1 (pv 1))) (z5 (v4 rfl (k6 Z) (x8 2 (pv 2))) (z5 (z6 2 (pv 2)) z9)))))))
abbrev s_Z3 : Stmt := top 15
abbrev N_Z3 : List Str := ["heavies"]
theorem wz1 : FnScope N_Z3 ["heavies"] (y4 s_Z3) := qsc
theorem wy9 (D : QDf K mg "first_heaviest" s_Z3 ["heavies"]) (H_Z10 : xa0 P w K mg base) (Z : Zs mg) : T_Z3 P w K mg base := by
 obtain ⟨x_Z10, d_Z10, G_Z10, yi6, k_Z10, a_Z10⟩ := H_Z10
 exact D.mk fun f fd Fn => Fn.okD (k := 2) (m := b_Z3) wz1 fun cdv A outer s H E hr => (y9 (m6 (xt5 (yy3 (G_Z10.mono (by decide)) hr.in1 yi6) rfl hr.units rfl (ys1 Z) rfl a_Z10 (S6 (Q7 (S6 (m8 (z5 (W5 (z5 y7 (z5 (j4 (m8 z9)) z9))) z9))) (x8 0 (pv 0)))))))
abbrev yr1 : Stmt := top 16
abbrev xm2 : List Str := ["row", "step", "weights", "above", "below", "ups", "downs", "place", "weight", "places"]
theorem sc_Z20 : FnScope xm2 ["row", "step", "weights"] (y4 yr1) := qsc
theorem C8 : List.Nodup (["later", "downs"] : List Str) := by decide +kernel
theorem C7 : List.Nodup (["later", "ups"] : List Str) := by decide +kernel
theorem xg8 (D : QDf K mg "heavy_tails" yr1 ["row", "step", "weights"]) (H_Z3 : T_Z3 P w K mg base) (H_Z19 : xn7 P w K mg base) (Z : Zs mg) : xb5 P w K mg base :=
 D.mk fun f fd Fn => Fn.okD (k := 3) (m := yb6) sc_Z20 fun cdv A outer s H E hr => (y2 (S3 (Z6 (v5 (fun t ha => qcl H_Z19 hr ha) rfl (z5 (z6 0 (pv 0)) (z5 (z6 1 (pv 1)) z9)) qal2) (c9 (is := [3, 4]) (X4 rfl (w9 (x9 (i := 3) sc_Z20.nd rfl (Or.inl rfl)) (w9 (x9 (i := 4) sc_Z20.nd rfl (Or.inl rfl)) f6)))))) (y2 (X7 (i := 5) sc_Z20.nd rfl (Or.inr rfl) (zm3 (m8 (z5 (W5 (z5 y7 (z5 (j4 (m8 z9)) z9))) z9)) (v4 rfl (k6 Z) (x8 0 (pv 0))))) (y2 (X7 (i := 6) sc_Z20.nd rfl (Or.inr rfl) (zm3 (m8 (z5 (W5 (z5 y7 (z5 (j4 (m8 z9)) z9))) z9)) (v4 rfl (k6 Z) (x8 0 (pv 0))))) (y2 (M6 PassesOwn.never rfl (zy0 rfl (F8 Z) rfl (g9 Z) (z5 (v4 rfl (k6 Z) (x8 0 (pv 0))) z9)) (t9 (i := 7) (x9 sc_Z20.nd rfl (Or.inl rfl))) (y2 (S3 (Z6 (v5 (fun t ha => qcl H_Z3 hr ha) rfl (z5 (j4 (A0 (B5 (by decide)) (d9 (N := ["later", "downs"]) (src := [none, some 6]) (y4 yr1) xm2 rfl rfl (by decide +kernel)) rfl (X1 (i6 (x8 3 (pv 3)) (z6 7 (pv 7)))) (fun C fp s0 H0 => (t9 (i := 0) (x9 C8 rfl (Or.inl rfl)))) (fun C fp s0 H0 => a7) (fun C fp s0 H0 => (i6 (x8 1 (pv 1)) (z6 0 (pv 0)))))) z9) qal1) (c9 (is := [8, 9]) (X4 rfl (w9 (x9 (i := 8) sc_Z20.nd rfl (Or.inl rfl)) (w9 (x9 (i := 9) sc_Z20.nd rfl (Or.inl rfl)) f6)))))) (y2 (a8 (i := 5) (Z6 (W5 (z5 (l9 (i6 (x8 2 (pv 2)) (z6 7 (pv 7))) (z6 8 (pv 8))) (z5 (j4 (Q7 (S6 (m8 (z5 (z6 7 (pv 7)) z9))) (x8 9 (pv 9)))) z9))) (J0 (pv 5) (z6 7 (pv 7)) X6))) (y2 (S3 (Z6 (v5 (fun t ha => qcl H_Z3 hr ha) rfl (z5 (j4 (A0 (B5 (by decide)) (d9 (N := ["later", "ups"]) (src := [none, some 5]) (y4 yr1) xm2 rfl rfl (by decide +kernel)) rfl (X1 (i6 (x8 4 (pv 4)) (z6 7 (pv 7)))) (fun C fp s0 H0 => (t9 (i := 0) (x9 C7 rfl (Or.inl rfl)))) (fun C fp s0 H0 => a7) (fun C fp s0 H0 => (i6 (x8 1 (pv 1)) (z6 0 (pv 0)))))) z9) qal1) (c9 (is := [8, 9]) (X4 rfl (w9 (x9 (i := 8) sc_Z20.nd rfl (Or.inl rfl)) (w9 (x9 (i := 9) sc_Z20.nd rfl (Or.inl rfl)) f6)))))) (y9 (a8 (i := 6) (Z6 (W5 (z5 (l9 (i6 (x8 2 (pv 2)) (z6 7 (pv 7))) (z6 8 (pv 8))) (z5 (j4 (Q7 (S6 (m8 (z5 (z6 7 (pv 7)) z9))) (x8 9 (pv 9)))) z9))) (J0 (pv 6) (z6 7 (pv 7)) X6)))))))) (k7 5 (k7 6 (y9 (m6 (W5 (z5 (z6 5 (pv 5)) (z5 (z6 6 (pv 6)) z9)))))))))))
abbrev xw3 : Stmt := top 17
abbrev ww6 : List Str := ["row", "step", "weights", "ups", "downs"]
theorem sc_Z25 : FnScope ww6 ["row", "step", "weights"] (y4 xw3) := qsc
theorem xg3 (D : QDf K mg "heaviest" xw3 ["row", "step", "weights"]) (H_Z3 : T_Z3 P w K mg base) (H_Z20 : xb5 P w K mg base) (H_Z17 : yt6 P w K mg base) (H_Z5 : T_Z5 P w K mg base) : xn5 P w K mg base :=
 D.mk fun f fd Fn => Fn.okD (k := 4) (m := xp9) sc_Z25 fun cdv A outer s H E hr => (y2 (U2 (v5 (fun t ha => qcl H_Z17 hr ha) rfl (z5 (z6 1 (pv 1)) z9) qal1)) (y2 (U2 (v5 (fun t ha => qcl H_Z5 hr ha) rfl (z5 (z6 0 (pv 0)) (z5 (z6 2 (pv 2)) z9)) qal2)) (y2 (S3 (Z6 (v5 (fun t ha => qcl H_Z20 hr ha) rfl (z5 (z6 0 (pv 0)) (z5 (z6 1 (pv 1)) (z5 (z6 2 (pv 2)) z9))) qal3) (c9 (is := [3, 4]) (X4 rfl (w9 (x9 (i := 3) sc_Z25.nd rfl (Or.inl rfl)) (w9 (x9 (i := 4) sc_Z25.nd rfl (Or.inl rfl)) f6)))))) (y9 (m6 (v5 (fun t ha => qcl H_Z3 hr ha) rfl (z5 (l9 (z6 3 (pv 3)) (z6 4 (pv 4))) z9) qal1))))))
abbrev yr0 : Stmt := top 20
abbrev xm1 : List Str := ["row", "step", "ups", "downs", "place", "later", "rise"]
theorem sc_Z27 : FnScope xm1 ["row", "step"] (y4 yr0) := qsc
theorem yv2 : List.Nodup (["place"] : List Str) := by decide +kernel
theorem yv1 : List.Nodup (["place"] : List Str) := by decide +kernel
theorem xg1 (D : QDf K mg "tails" yr0 ["row", "step"]) (Z : Zs mg) : xb2 P w K mg base :=
 D.mk fun f fd Fn => Fn.okD (k := 0) (m := yi4) sc_Z27 fun cdv A outer s H E hr => (y2 (za0 (M7 (i := 2) sc_Z27.nd rfl (Or.inl rfl) (d9 (N := ["place"]) (src := [none]) (y4 yr0) xm1 rfl rfl (by decide +kernel)) rfl (T4 rfl (g9 Z) (z5 (v4 rfl (k6 Z) (x8 0 (pv 0))) z9)) (fun C fp s0 H0 => (t9 (i := 0) (x9 yv2 rfl (Or.inl rfl)))) (fun C fp s0 H0 => a7) (fun C fp s0 H0 => (j4 (m8 (z5 (z6 0 (pv 0)) z9)))))) (y2 (za0 (M7 (i := 3) sc_Z27.nd rfl (Or.inl rfl) (d9 (N := ["place"]) (src := [none]) (y4 yr0) xm1 rfl rfl (by decide +kernel)) rfl (T4 rfl (g9 Z) (z5 (v4 rfl (k6 Z) (x8 0 (pv 0))) z9)) (fun C fp s0 H0 => (t9 (i := 0) (x9 yv1 rfl (Or.inl rfl)))) (fun C fp s0 H0 => a7) (fun C fp s0 H0 => (j4 (m8 (z5 (z6 0 (pv 0)) z9)))))) (y2 (M6 PassesOwn.never rfl (zy0 rfl (F8 Z) rfl (g9 Z) (z5 (v4 rfl (k6 Z) (x8 0 (pv 0))) z9)) (t9 (i := 4) (x9 sc_Z27.nd rfl (Or.inl rfl))) (y9 (M6 PassesOwn.never rfl (W4 rfl (g9 Z) (z5 (l9 (z6 4 (pv 4)) y7) (z5 (v4 rfl (k6 Z) (x8 0 (pv 0))) z9))) (t9 (i := 5) (x9 sc_Z27.nd rfl (Or.inl rfl))) (y2 (n9 (i := 6) sc_Z27.nd rfl (Or.inl rfl) (J2 (i6 (x8 0 (pv 0)) (z6 5 (pv 5))) (i6 (x8 0 (pv 0)) (z6 4 (pv 4))))) (y2 (Z5 (pc_w (yp5 (t6 zq0 J4 (z6 6 (pv 6)) (z6 1 (pv 1)) (u8 _)) (yr9 (t6 zq0 J4 (v4 rfl (k6 Z) (T5 (i6 (x8 3 (pv 3)) (z6 5 (pv 5))))) (v4 rfl (k6 Z) (T5 (i6 (x8 2 (pv 2)) (z6 4 (pv 4))))) (u8 _))))) (y9 (a8 (i := 2) (Z6 (j4 (Q7 (S6 (m8 (z5 (z6 4 (pv 4)) z9))) (T5 (i6 (x8 3 (pv 3)) (z6 5 (pv 5)))))) (J0 (pv 2) (z6 4 (pv 4)) X6)))) t8) (y9 (Z5 (pc_w (yp5 (t6 zq0 J4 (J3 (z6 6 (pv 6))) (z6 1 (pv 1)) (u8 _)) (yr9 (t6 zq0 J4 (v4 rfl (k6 Z) (T5 (i6 (x8 2 (pv 2)) (z6 5 (pv 5))))) (v4 rfl (k6 Z) (T5 (i6 (x8 3 (pv 3)) (z6 4 (pv 4))))) (u8 _))))) (y9 (a8 (i := 3) (Z6 (j4 (Q7 (S6 (m8 (z5 (z6 4 (pv 4)) z9))) (T5 (i6 (x8 2 (pv 2)) (z6 5 (pv 5)))))) (J0 (pv 3) (z6 4 (pv 4)) X6)))) t8))))))) (k7 2 (k7 3 (y9 (m6 (W5 (z5 (z6 2 (pv 2)) (z5 (z6 3 (pv 3)) z9))))))))))
abbrev xv0 : Stmt := top 21
abbrev wv3 : List Str := ["places"]
theorem xj3 : FnScope wv3 ["places"] (y4 xv0) := qsc
theorem xf2 (D : QDf K mg "longer_first" xv0 ["places"]) (Z : Zs mg) : xb7 P w K mg base :=
 D.mk fun f fd Fn => Fn.okD (k := 0) (m := yi5) xj3 fun cdv A outer s H E hr => (y9 (m6 (W5 (z5 (J3 (v4 rfl (k6 Z) (x8 0 (pv 0)))) (z5 (z6 0 (pv 0)) z9)))))
abbrev xw2 : Stmt := top 22
abbrev ww5 : List Str := ["row", "step", "ups", "downs"]
theorem sc_Z26 : FnScope ww5 ["row", "step"] (y4 xw2) := qsc
theorem xg2 (D : QDf K mg "longest" xw2 ["row", "step"]) (H_Z16 : xb7 P w K mg base) (H_Z17 : yt6 P w K mg base) (H_Z27 : xb2 P w K mg base) (Z : Zs mg) : xb3 P w K mg base := by
 obtain ⟨x_Z16, d_Z16, G_Z16, yi5, k_Z16, a_Z16⟩ := H_Z16
 exact D.mk fun f fd Fn => Fn.okD (k := 2) (m := xp8) sc_Z26 fun cdv A outer s H E hr => (y2 (U2 (v5 (fun t ha => qcl H_Z17 hr ha) rfl (z5 (z6 1 (pv 1)) z9) qal1)) (y2 (S3 (Z6 (v5 (fun t ha => qcl H_Z27 hr ha) rfl (z5 (z6 0 (pv 0)) (z5 (z6 1 (pv 1)) z9)) qal2) (c9 (is := [2, 3]) (X4 rfl (w9 (x9 (i := 2) sc_Z26.nd rfl (Or.inl rfl)) (w9 (x9 (i := 3) sc_Z26.nd rfl (Or.inl rfl)) f6)))))) (y9 (m6 (xt6 (yy3 (G_Z16.mono (by decide)) hr.in1 yi5) rfl hr.units rfl (ys1 Z) rfl a_Z16 (T5 (l9 (z6 2 (pv 2)) (z6 3 (pv 3)))) (j4 (m8 z9)))))))
abbrev xw5 : Stmt := top 23
abbrev ww8 : List Str := ["row", "step"]
theorem xj0 : FnScope ww8 ["row", "step"] (y4 xw5) := qsc
theorem xg5 (D : QDf K mg "how_long" xw5 ["row", "step"]) (H_Z26 : xb3 P w K mg base) (Z : Zs mg) : yb7 P w K mg base :=
 D.mk fun f fd Fn => Fn.okD (k := 3) (m := xo0) xj0 fun cdv A outer s H E hr => (y9 (m6 (v4 rfl (k6 Z) (T5 (v5 (fun t ha => qcl H_Z26 hr ha) rfl (z5 (z6 0 (pv 0)) (z5 (z6 1 (pv 1)) z9)) qal2)))))
abbrev xw8 : Stmt := top 24
abbrev wv1 : List Str := ["row", "step", "kind", "start", "edge", "place", "gain"]
theorem sc_Z18 : FnScope wv1 ["row", "step", "kind", "start"] (y4 xw8) := qsc
theorem xf0 (D : QDf K mg "first_break" xw8 ["row", "step", "kind", "start"]) (Z : Zs mg) : xb6 P w K mg base :=
 D.mk fun f fd Fn => Fn.okD (k := 0) (m := xo4) sc_Z18 fun cdv A outer s H E hr => (y2 (n9 (i := 4) sc_Z18.nd rfl (Or.inl rfl) (z6 3 (pv 3))) (y2 (M6 PassesOwn.never rfl (W4 rfl (g9 Z) (z5 (z6 3 (pv 3)) (z5 (v4 rfl (k6 Z) (x8 0 (pv 0))) z9))) (t9 (i := 5) (x9 sc_Z18.nd rfl (Or.inl rfl))) (y2 (n9 (i := 6) sc_Z18.nd rfl (Or.inl rfl) (J2 (i6 (x8 0 (pv 0)) (z6 5 (pv 5))) (i6 (x8 0 (pv 0)) (z6 4 (pv 4))))) (y2 (Z5 (t6 E5 Z8 (z6 2 (pv 2)) zm6 (u8 _)) (y9 (n9 (i := 6) sc_Z18.nd rfl (Or.inl rfl) (J3 (z6 6 (pv 6))))) t8) (y2 (Z5 (t6 wy2 xh5 (z6 6 (pv 6)) (J3 (z6 1 (pv 1))) (u8 _)) (y9 (za1 5 (pv 5))) t8) (y9 (Z5 (t6 xh9 xz8 (z6 6 (pv 6)) y7 (u8 _)) (y9 (n9 (i := 4) sc_Z18.nd rfl (Or.inl rfl) (z6 5 (pv 5)))) t8)))))) (y9 (m6 (v4 rfl (k6 Z) (x8 0 (pv 0)))))))
abbrev xw6 : Stmt := top 25
abbrev ww9 : List Str := ["row", "step", "fall", "rise", "word", "kind", "cuts", "cut"]
theorem sc_Z22 : FnScope ww9 ["row", "step"] (y4 xw6) := qsc
theorem xg6 {y_OTHER_KIND : Addr} (D : QDf K mg "pieces_of" xw6 ["row", "step"]) (H_Z18 : xb6 P w K mg base) (H_Z17 : yt6 P w K mg base) (T_OTHER_KIND : KTab w K y_OTHER_KIND tab_OTHER_KIND) (a_OTHER_KIND : mg "OTHER_KIND" = some (.ref y_OTHER_KIND)) (Z : Zs mg) : xn6 P w K mg base :=
 D.mk fun f fd Fn => Fn.okD (k := 1) (m := xo1) sc_Z22 fun cdv A outer s H E hr => (y2 (U2 (v5 (fun t ha => qcl H_Z17 hr ha) rfl (z5 (z6 1 (pv 1)) z9) qal1)) (y2 (n9 (i := 2) sc_Z22.nd rfl (Or.inl rfl) (v5 (fun t ha => qcl H_Z18 hr ha) rfl (z5 (z6 0 (pv 0)) (z5 (z6 1 (pv 1)) (z5 zm6 (z5 y7 z9)))) qal4)) (y2 (n9 (i := 3) sc_Z22.nd rfl (Or.inl rfl) (v5 (fun t ha => qcl H_Z18 hr ha) rfl (z5 (z6 0 (pv 0)) (z5 (z6 1 (pv 1)) (z5 zm6 (z5 y7 z9)))) qal4)) (y2 (n9 (i := 4) sc_Z22.nd rfl (Or.inl rfl) (xz7 (t6 zf3 zy4 (z6 2 (pv 2)) (z6 3 (pv 3)) (u8 _)) zm6 zm6)) (y2 (n9 (i := 5) sc_Z22.nd rfl (Or.inl rfl) (z6 4 (pv 4))) (y2 (X7 (i := 6) sc_Z22.nd rfl (Or.inl rfl) (m8 z9)) (y2 (n9 (i := 7) sc_Z22.nd rfl (Or.inl rfl) (zg9 rfl rfl (ys1 Z) (z5 (z6 2 (pv 2)) (z5 (z6 3 (pv 3)) z9)))) (y2 (yq2 1000 PassesOwn.never (t6 zf3 zy4 (z6 7 (pv 7)) (v4 rfl (k6 Z) (x8 0 (pv 0))) (u8 _)) (y2 (T3 (i := 6) (pv 6) (z6 7 (pv 7)) (fun t ha => qap (pv 6) ha) (z5 (z6 7 (pv 7)) z9)) (y2 (n9 (i := 7) sc_Z22.nd rfl (Or.inl rfl) (v5 (fun t ha => qcl H_Z18 hr ha) rfl (z5 (z6 0 (pv 0)) (z5 (z6 1 (pv 1)) (z5 (z6 5 (pv 5)) (z5 (z6 7 (pv 7)) z9)))) qal4)) (y9 (n9 (i := 5) sc_Z22.nd rfl (Or.inl rfl) (xi9 T_OTHER_KIND rfl a_OTHER_KIND (z6 5 (pv 5)))))))) (k7 6 (y9 (m6 (W5 (z5 (z6 4 (pv 4)) (z5 (z6 6 (pv 6)) z9))))))))))))))
abbrev X0 : Stmt := zp0 27 0
abbrev B3 : List Str := ["self", "step"]
theorem E1 : FnScope B3 ["self", "step"] (y4 X0) := qsc
theorem E6 {y_Grown : Addr} (D : QMf K y_Grown "__init__" "Grown.__init__" X0 ["self", "step"]) (hC_Grown : W.nsIn K mainGlobals "Grown" = some (some (.ref y_Grown))) (cl_Grown : Cls K y_Grown) (H_Z17 : yt6 P w K mg base) (h_Grown_least_step : QHF K "Grown" "least_step") (h_Grown_lengths : QHF K "Grown" "lengths") (h_Grown_numbers : QHF K "Grown" "numbers") (h_Grown_weights : QHF K "Grown" "weights") : C9 P w K mg base y_Grown :=
 D.mk fun f fd Fn => Fn.okW (k := 1) (m := X3) E1 fun cdv A outer s H E hr => (w5 (psw (U2 (v5 (fun t ha => qcl H_Z17 hr ha) rfl (z5 (z6 1 (pv 1)) z9) qal1))) (w5 (xu3 h_Grown_least_step (z6 0 (pv 0)) (pdw (z6 1 (pv 1)))) (w5 (K6 h_Grown_numbers (z6 0 (pv 0)) (pfw (m8 z9))) (w5 (K6 h_Grown_weights (z6 0 (pv 0)) (pfw (m8 z9))) (c6 (K6 h_Grown_lengths (z6 0 (pv 0)) (pfw (m8 z9))))))))
abbrev xv1 : Stmt := zp0 27 4
abbrev wv4 : List Str := ["self"]
theorem xj4 : FnScope wv4 ["self"] (y4 xv1) := qsc
theorem xf3 {y_Grown : Addr} (D : QMf K y_Grown "pieces" "Grown.pieces" xv1 ["self"]) (hC_Grown : W.nsIn K mainGlobals "Grown" = some (some (.ref y_Grown))) (cl_Grown : Cls K y_Grown) (H_Z22 : xn6 P w K mg base) (h_Grown_least_step : QHF K "Grown" "least_step") (h_Grown_numbers : QHF K "Grown" "numbers") : xn8 P w K mg base y_Grown :=
 D.mk fun f fd Fn => Fn.okD (k := 2) (m := xo6) xj4 fun cdv A outer s H E hr => (y9 (m6 (v5 (fun t ha => qcl H_Z22 hr ha) rfl (z5 (U3 (z6 0 (pv 0)) h_Grown_numbers) (z5 (U3 (z6 0 (pv 0)) h_Grown_least_step) z9)) qal2)))
abbrev xv4 : Stmt := zp0 27 3
abbrev wv7 : List Str := ["self", "word", "cuts"]
theorem sc_Z12 : FnScope wv7 ["self"] (y4 xv4) := qsc
theorem xf6 {y_Grown : Addr} (D : QMf K y_Grown "length" "Grown.length" xv4 ["self"]) (hC_Grown : W.nsIn K mainGlobals "Grown" = some (some (.ref y_Grown))) (cl_Grown : Cls K y_Grown) (H_Z15 : xn8 P w K mg base y_Grown) (h_Grown_numbers : QHF K "Grown" "numbers") (Z : Zs mg) : yb8 P w K mg base y_Grown :=
 D.mk fun f fd Fn => Fn.okD (k := 3) (m := xo9) sc_Z12 fun cdv A outer s H E hr => (y2 (S3 (Z6 (l6 hC_Grown (z6 0 (pv 0)) (fun ta ho => qmt0 H_Z15 cl_Grown hr ho)) (c9 (is := [1, 2]) (X4 rfl (w9 (x9 (i := 1) sc_Z12.nd rfl (Or.inl rfl)) (w9 (x9 (i := 2) sc_Z12.nd rfl (Or.inl rfl)) f6)))))) (y9 (m6 (xz7 (za6 (U3 (z6 0 (pv 0)) h_Grown_numbers)) (l9 (v4 rfl (k6 Z) (x8 2 (pv 2))) y7) y7))))
abbrev M5 : Stmt := zp0 27 1
abbrev zc9 : List Str := ["self", "number", "weight"]
theorem zn0 : FnScope zc9 ["self", "number", "weight"] (y4 M5) := qsc
theorem zm8 {y_Grown : Addr} (D : QMf K y_Grown "put" "Grown.put" M5 ["self", "number", "weight"]) (hC_Grown : W.nsIn K mainGlobals "Grown" = some (some (.ref y_Grown))) (cl_Grown : Cls K y_Grown) (H_Z12 : yb8 P w K mg base y_Grown) (H_Z9 : T_Z9 P w K mg base) (h_Grown_lengths : QHF K "Grown" "lengths") (h_Grown_numbers : QHF K "Grown" "numbers") (h_Grown_weights : QHF K "Grown" "weights") : K0 P w K mg base y_Grown :=
 D.mk fun f fd Fn => Fn.okW (k := 4) (m := L8) zn0 fun cdv A outer s H E hr => (w5 (psw (U2 (v5 (fun t ha => qcl H_Z9 hr ha) rfl (z5 (z6 2 (pv 2)) z9) qal1))) (w5 (B8 h_Grown_numbers (z6 0 (pv 0)) (pdw (z6 1 (pv 1))) rfl (fun to t ho ha => qap ho ha)) (w5 (B8 h_Grown_weights (z6 0 (pv 0)) (pdw (z6 2 (pv 2))) rfl (fun to t ho ha => qap ho ha)) (c6 (B8 h_Grown_lengths (z6 0 (pv 0)) (J1 (l6 hC_Grown (z6 0 (pv 0)) (fun ta ho => qmt0 H_Z12 cl_Grown hr ho))) rfl (fun to t ho ha => qap ho ha))))))
abbrev Q3 : Stmt := zp0 27 2
abbrev zh6 : List Str := ["self", "many", "left"]
theorem sc_Grown_take : FnScope zh6 ["self", "many"] (y4 Q3) := qsc
theorem zq1 {y_Grown : Addr} (D : QMf K y_Grown "take" "Grown.take" Q3 ["self", "many"]) (hC_Grown : W.nsIn K mainGlobals "Grown" = some (some (.ref y_Grown))) (cl_Grown : Cls K y_Grown) (H_Z12 : yb8 P w K mg base y_Grown) (h_Grown_lengths : QHF K "Grown" "lengths") (h_Grown_numbers : QHF K "Grown" "numbers") (h_Grown_weights : QHF K "Grown" "weights") (Z : Zs mg) : C1 P w K mg base y_Grown :=
 D.mk fun f fd Fn => Fn.okW (k := 4) (m := P8) sc_Grown_take fun cdv A outer s H E hr => (w5 (zn7 (A2 (pc_w (zy2 (t6 zf3 zy4 (z6 1 (pv 1)) y7 (u8 _)) (zt1 (t6 xh9 xz8 (z6 1 (pv 1)) (v4 rfl (k6 Z) (T5 (U3 (z6 0 (pv 0)) h_Grown_numbers))) (u8 _)))))) (c6 (psw K9)) K8) (w5 (xu2 (i := 2) sc_Grown_take.nd rfl (Or.inl rfl) (J1 (J2 (v4 rfl (k6 Z) (T5 (U3 (z6 0 (pv 0)) h_Grown_numbers))) (z6 1 (pv 1))))) (w5 (K6 h_Grown_numbers (z6 0 (pv 0)) (za4 (S5 (T5 (U3 (z6 0 (pv 0)) h_Grown_numbers)) p7 (p6 (z6 2 (pv 2)))))) (w5 (K6 h_Grown_weights (z6 0 (pv 0)) (za4 (S5 (T5 (U3 (z6 0 (pv 0)) h_Grown_weights)) p7 (p6 (z6 2 (pv 2)))))) (c6 (B8 h_Grown_lengths (z6 0 (pv 0)) (J1 (l6 hC_Grown (z6 0 (pv 0)) (fun ta ho => qmt0 H_Z12 cl_Grown hr ho))) rfl (fun to t ho ha => qap ho ha)))))))
abbrev xv2 : Stmt := zp0 27 5
abbrev wv5 : List Str := ["self", "weight", "places"]
theorem sc_Z14 : FnScope wv5 ["self"] (y4 xv2) := qsc
theorem xf4 {y_Grown : Addr} (D : QMf K y_Grown "weight" "Grown.weight" xv2 ["self"]) (hC_Grown : W.nsIn K mainGlobals "Grown" = some (some (.ref y_Grown))) (cl_Grown : Cls K y_Grown) (H_Z25 : xn5 P w K mg base) (h_Grown_least_step : QHF K "Grown" "least_step") (h_Grown_numbers : QHF K "Grown" "numbers") (h_Grown_weights : QHF K "Grown" "weights") : xb8 P w K mg base y_Grown :=
 D.mk fun f fd Fn => Fn.okD (k := 5) (m := xo7) sc_Z14 fun cdv A outer s H E hr => (y2 (S3 (Z6 (v5 (fun t ha => qcl H_Z25 hr ha) rfl (z5 (U3 (z6 0 (pv 0)) h_Grown_numbers) (z5 (U3 (z6 0 (pv 0)) h_Grown_least_step) (z5 (U3 (z6 0 (pv 0)) h_Grown_weights) z9))) qal3) (c9 (is := [1, 2]) (X4 rfl (w9 (x9 (i := 1) sc_Z14.nd rfl (Or.inl rfl)) (w9 (x9 (i := 2) sc_Z14.nd rfl (Or.inl rfl)) f6)))))) (y9 (za1 1 (pv 1))))
abbrev s_Z4 : Stmt := zp0 27 6
abbrev N_Z4 : List Str := ["self"]
theorem wz0 : FnScope N_Z4 ["self"] (y4 s_Z4) := qsc
theorem wy8 {y_Grown : Addr} (D : QMf K y_Grown "how_many" "Grown.how_many" s_Z4 ["self"]) (hC_Grown : W.nsIn K mainGlobals "Grown" = some (some (.ref y_Grown))) (cl_Grown : Cls K y_Grown) (H_Z0 : T_Z0 P w K mg base) (h_Grown_least_step : QHF K "Grown" "least_step") (h_Grown_numbers : QHF K "Grown" "numbers") : T_Z4 P w K mg base y_Grown :=
 D.mk fun f fd Fn => Fn.okD (k := 2) (m := b_Z4) wz0 fun cdv A outer s H E hr => (y9 (m6 (v5 (fun t ha => qcl H_Z0 hr ha) rfl (z5 (U3 (z6 0 (pv 0)) h_Grown_numbers) (z5 (U3 (z6 0 (pv 0)) h_Grown_least_step) z9)) qal2)))
abbrev xw7 : Stmt := zp0 27 7
abbrev wv0 : List Str := ["self"]
theorem xj1 : FnScope wv0 ["self"] (y4 xw7) := qsc
theorem xg7 {y_Grown : Addr} (D : QMf K y_Grown "row" "Grown.row" xw7 ["self"]) (hC_Grown : W.nsIn K mainGlobals "Grown" = some (some (.ref y_Grown))) (cl_Grown : Cls K y_Grown) (h_Grown_numbers : QHF K "Grown" "numbers") (Z : Zs mg) : xb4 P w K mg base y_Grown :=
 D.mk fun f fd Fn => Fn.okD (k := 0) (m := xo2) xj1 fun cdv A outer s H E hr => (y9 (za2 (yp2 rfl (ya0 Z) (T5 (U3 (z6 0 (pv 0)) h_Grown_numbers)) PyProof.Rows.boot_list)))
abbrev s_Z8 : Stmt := zp0 27 8
abbrev N_Z8 : List Str := ["self"]
theorem xa8 : FnScope N_Z8 ["self"] (y4 s_Z8) := qsc
theorem wy4 {y_Grown : Addr} (D : QMf K y_Grown "moments" "Grown.moments" s_Z8 ["self"]) (hC_Grown : W.nsIn K mainGlobals "Grown" = some (some (.ref y_Grown))) (cl_Grown : Cls K y_Grown) (h_Grown_lengths : QHF K "Grown" "lengths") (Z : Zs mg) : T_Z8 P w K mg base y_Grown :=
 D.mk fun f fd Fn => Fn.okD (k := 0) (m := b_Z8) xa8 fun cdv A outer s H E hr => (y9 (za2 (yp2 rfl (ya0 Z) (T5 (U3 (z6 0 (pv 0)) h_Grown_lengths)) PyProof.Rows.boot_list)))
abbrev xw4 : Stmt := top 29
abbrev ww7 : List Str := ["pot", "many", "cell", "stir"]
theorem sc_Z24 : FnScope ww7 ["pot", "many"] (y4 xw4) := qsc
theorem xg4 (D : QDf K mg "_law_next" xw4 ["pot", "many"]) : zc8 P w K mg base :=
 D.mk fun f fd Fn => Fn.okGl (k := 0) (m := yb5) sc_Z24 (by decide) fun cdv A outer s H E hr => (y2 (a8 (i := 0) (Z6 (l9 (i6 (x8 0 (pv 0)) y7) y7) (J0 (pv 0) y7 X6))) (y2 (n9 (i := 2) sc_Z24.nd rfl (Or.inl rfl) (i6 (x8 0 (pv 0)) y7)) (y2 (Z5 (t6 zq0 J4 (z6 2 (pv 2)) (za5 y7 y7) (u8 _)) (y2 (a8 (i := 0) (Z6 (zf0 (z6 2 (pv 2)) (z6 1 (pv 1))) (J0 (pv 0) y7 X6))) (y9 (X8 0 (p8 (zy1 (z6 2 (pv 2)) (z6 1 (pv 1))))))) t8) (y2 (n9 (i := 3) sc_Z24.nd rfl (Or.inl rfl) (zy1 (l9 (l9 (zm7 (z6 2 (pv 2)) y7) (zm7 (i6 (x8 0 (pv 0)) y7) y7)) y7) y7)) (y2 (n9 (i := 3) sc_Z24.nd rfl (Or.inl rfl) (zy1 (zm7 (z6 3 (pv 3)) (z6 3 (pv 3))) y7)) (y9 (X8 0 (p8 (zy1 (zf0 (zy1 (l9 (zm7 (z6 3 (pv 3)) y7) (zm7 (i6 (x8 0 (pv 0)) y7) y7)) y7) y7) (z6 1 (pv 1)))))))))))
abbrev O3 : Stmt := top 30
abbrev zs9 : List Str := ["script"]
theorem zh9 : FnScope zs9 ["script"] (y4 O3) := qsc
theorem zq2 : List.Nodup (["cell"] : List Str) := by decide +kernel
theorem zf4 (D : QDf K mg "_law_pots" O3 ["script"]) (Z : Zs mg) : zs8 P w K mg base :=
 D.mk fun f fd Fn => Fn.okP (k := 0) zh9 rfl (fun cdv A outer s H E hr => (t6 E5 Z8 (v4 rfl (k6 Z) (x8 0 (pv 0))) y7 (u8 _))) (fun cdv A outer s H E hr => (xu5 (m8 (z5 y7 (z5 y7 z9))))) (fun cdv A outer s H E hr => (xu6 (d9 (N := ["cell"]) (src := [none]) (y4 O3) zs9 rfl rfl (by decide +kernel)) rfl (X1 (j4 (S5 (x8 0 (pv 0)) p7 (p6 y7)))) (fun C fp s0 H0 => (t9 (i := 0) (x9 zq2 rfl (Or.inl rfl)))) (fun C fp s0 H0 => (m8 (z5 (z6 0 (pv 0)) (z5 y7 z9))))))
abbrev s_Z1 : Stmt := top 31
abbrev N_Z1 : List Str := ["pot", "kind"]
theorem wz3 : FnScope N_Z1 ["pot", "kind"] (y4 s_Z1) := qsc
theorem wx1 (D : QDf K mg "_law_some_number" s_Z1 ["pot", "kind"]) (H_Z24 : zc8 P w K mg base) : T_Z1 P w K mg base :=
 D.mk fun f fd Fn => Fn.okGl (k := 1) (m := b_Z1) wz3 (by decide) fun cdv A outer s H E hr => (y2 (Z5 (t6 E5 Z8 (z6 1 (pv 1)) y7 (u8 _)) (y9 (X8 0 (w6 (i := 0) (fun t ha => qcl H_Z24 hr ha) rfl (pv 0) (w8 (z5 y7 z9)) (t4 qal1)))) t8) (y2 (Z5 (t6 E5 Z8 (z6 1 (pv 1)) y7 (u8 _)) (y9 (X8 0 (N8 za9 zr8 (w6 (i := 0) (fun t ha => qcl H_Z24 hr ha) rfl (pv 0) (w8 (z5 y7 z9)) (t4 qal1)) (p8 y7)))) t8) (y2 (Z5 (t6 E5 Z8 (z6 1 (pv 1)) y7 (u8 _)) (y9 (X8 0 (N8 za9 zr8 (w6 (i := 0) (fun t ha => qcl H_Z24 hr ha) rfl (pv 0) (w8 (z5 y7 z9)) (t4 qal1)) (p8 y7)))) t8) (y9 (X8 0 (N8 xz9 yp8 (zm5 (p8 (j4 (m8 (z5 (J3 y7) (z5 y7 z9))))) (w6 (i := 0) (fun t ha => qcl H_Z24 hr ha) rfl (pv 0) (w8 (z5 y7 z9)) (t4 qal1))) (N8 (OpR.or zy6 Q8) M8 (p8 (za5 y7 y7)) (w6 (i := 0) (fun t ha => qcl H_Z24 hr ha) rfl (pv 0) (w8 (z5 y7 z9)) (t4 qal1)))))))))
abbrev yr2 : Stmt := top 32
abbrev xm3 : List Str := ["pot", "most", "kind", "many", "found", "shape"]
theorem sc_Z11 : FnScope xm3 ["pot", "most"] (y4 yr2) := qsc
theorem E7 : List.Nodup (["k", "pot", "kind"] : List Str) := by decide +kernel
theorem T7 : List.Nodup (["k", "number"] : List Str) := by decide +kernel
theorem xf7 (D : QDf K mg "_law_some_row" yr2 ["pot", "most"]) (H_Z24 : zc8 P w K mg base) (H_Z1 : T_Z1 P w K mg base) (Z : Zs mg) : xn9 P w K mg base :=
 D.mk fun f fd Fn => Fn.okGl (k := 2) (m := xn0) sc_Z11 (by decide) fun cdv A outer s H E hr => (y2 (U1 (i := 2) sc_Z11.nd rfl (Or.inr rfl) (w6 (i := 0) (fun t ha => qcl H_Z24 hr ha) rfl (pv 0) (w8 (z5 y7 z9)) (t4 qal1))) (y2 (U1 (i := 3) sc_Z11.nd rfl (Or.inl rfl) (w6 (i := 0) (fun t ha => qcl H_Z24 hr ha) rfl (pv 0) (g7 (zm5 (p8 (j4 (m8 (z5 (zg9 rfl rfl (ys1 Z) (z5 y7 (z5 (l9 (z6 1 (pv 1)) y7) z9))) (z5 (zg9 rfl rfl (ys1 Z) (z5 y7 (z5 (l9 (z6 1 (pv 1)) y7) z9))) (z5 (l9 (z6 1 (pv 1)) y7) z9)))))) (w6 (i := 0) (fun t ha => qcl H_Z24 hr ha) rfl (pv 0) (w8 (z5 y7 z9)) (t4 qal1))) (w8 z9)) (yt5 (t4 G9)))) (y2 (E4 (i := 0) (j := 1) rfl (by decide) (M7 (i := 4) sc_Z11.nd rfl (Or.inl rfl) (d9 (N := ["k", "pot", "kind"]) (src := [none, some 0, some 2]) (y4 yr2) xm3 rfl rfl (by decide +kernel)) rfl (T4 rfl (g9 Z) (z5 (z6 3 (pv 3)) z9)) (fun C fp s0 H0 => (x9 (i := 0) E7 rfl (Or.inl rfl))) (fun C fp s0 H0 => zz9) (fun C fp s0 H0 => (w6 (i := 1) (fun t ha => qcl H_Z1 hr ha) rfl (pv 1) (w8 (z5 (z6 2 (pv 2)) z9)) (t4 qal1))))) (y2 (U1 (i := 5) sc_Z11.nd rfl (Or.inl rfl) (w6 (i := 0) (fun t ha => qcl H_Z24 hr ha) rfl (pv 0) (w8 (z5 y7 z9)) (t4 qal1))) (y2 (Z5 (t6 E5 Z8 (z6 5 (pv 5)) y7 (u8 _)) (y9 (n9 (i := 4) sc_Z11.nd rfl (Or.inl rfl) (j4 (yp1 rfl (yh3 Z) (x8 4 (pv 4)) PyProof.Rows.boot_sorted)))) t8) (y2 (Z5 (t6 E5 Z8 (z6 5 (pv 5)) y7 (u8 _)) (y9 (yq3 (M7 (i := 4) sc_Z11.nd rfl (Or.inl rfl) (d9 (N := ["k", "number"]) (src := [none, none]) (y4 yr2) xm3 rfl rfl (by decide +kernel)) rfl (za3 rfl (M4 Z) (z5 (z6 4 (pv 4)) z9)) (fun C fp s0 H0 => (c9 (is := [0, 1]) (X4 rfl (w9 (x9 (i := 0) T7 rfl (Or.inl rfl)) (w9 (x9 (i := 1) T7 rfl (Or.inl rfl)) f6))))) (fun C fp s0 H0 => a7) (fun C fp s0 H0 => (l9 (z6 1 (pv 1)) (i6 (S6 (m8 (z5 y7 (z5 (J3 y7) z9)))) (zy1 (z6 0 (pv 0)) y7))))))) t8) (y2 (Z5 (t6 E5 Z8 (z6 5 (pv 5)) y7 (u8 _)) (y9 (n9 (i := 4) sc_Z11.nd rfl (Or.inl rfl) (j4 (zm3 (S5 (x8 4 (pv 4)) p7 (p6 y7)) (z6 3 (pv 3)))))) t8) (y9 (X8 0 (p8 (z6 4 (pv 4))))))))))))
abbrev s_Z7 : Stmt := top 33
abbrev N_Z7 : List Str := ["pot"]
theorem xa9 : FnScope N_Z7 ["pot"] (y4 s_Z7) := qsc
theorem wy5 (D : QDf K mg "_law_some_step" s_Z7 ["pot"]) (H_Z24 : zc8 P w K mg base) : T_Z7 P w K mg base :=
 D.mk fun f fd Fn => Fn.okGl (k := 1) (m := b_Z7) xa9 (by decide) fun cdv A outer s H E hr => (y9 (X8 0 (zm5 (zg8 (g7 (p8 y7) (g7 (p8 y7) (g7 (N8 (OpR.or zy6 Q8) M8 (p8 y7) (w6 (i := 0) (fun t ha => qcl H_Z24 hr ha) rfl (pv 0) (w8 (z5 y7 z9)) (t4 qal1))) (g7 (N8 (OpR.or zy6 Q8) M8 (p8 y7) (w6 (i := 0) (fun t ha => qcl H_Z24 hr ha) rfl (pv 0) (w8 (z5 y7 z9)) (t4 qal1))) (w8 (z5 (za5 y7 y7) z9))))))) (w6 (i := 0) (fun t ha => qcl H_Z24 hr ha) rfl (pv 0) (w8 (z5 y7 z9)) (t4 qal1)))))
abbrev s_Z2 : Stmt := top 34
abbrev N_Z2 : List Str := ["pot"]
theorem wz2 : FnScope N_Z2 ["pot"] (y4 s_Z2) := qsc
theorem wx0 (D : QDf K mg "_law_some_weight" s_Z2 ["pot"]) (H_Z24 : zc8 P w K mg base) : T_Z2 P w K mg base :=
 D.mk fun f fd Fn => Fn.okGl (k := 1) (m := b_Z2) wz2 (by decide) fun cdv A outer s H E hr => (y9 (X8 0 (zm5 (zg8 (g7 (p8 y7) (g7 (p8 y7) (g7 (w6 (i := 0) (fun t ha => qcl H_Z24 hr ha) rfl (pv 0) (w8 (z5 y7 z9)) (t4 qal1)) (g7 (w6 (i := 0) (fun t ha => qcl H_Z24 hr ha) rfl (pv 0) (w8 (z5 y7 z9)) (t4 qal1)) (g7 (N8 (OpR.or zy6 Q8) M8 (p8 (za5 y7 y7)) (w6 (i := 0) (fun t ha => qcl H_Z24 hr ha) rfl (pv 0) (w8 (z5 y7 z9)) (t4 qal1))) (w8 z9))))))) (w6 (i := 0) (fun t ha => qcl H_Z24 hr ha) rfl (pv 0) (w8 (z5 y7 z9)) (t4 qal1)))))
abbrev xv3 : Stmt := top 35
abbrev wv6 : List Str := ["grown", "row", "weights", "step"]
theorem xj5 : FnScope wv6 ["grown", "row", "weights", "step"] (y4 xv3) := qsc
theorem xf5 {y_Grown : Addr} (D : QDf K mg "_law_as_plain" xv3 ["grown", "row", "weights", "step"]) (hC_Grown : W.nsIn K mainGlobals "Grown" = some (some (.ref y_Grown))) (cl_Grown : Cls K y_Grown) (H_Z4 : T_Z4 P w K mg base y_Grown) (H_Z12 : yb8 P w K mg base y_Grown) (H_Z15 : xn8 P w K mg base y_Grown) (H_Z21 : xb4 P w K mg base y_Grown) (H_Z14 : xb8 P w K mg base y_Grown) (H_Z25 : xn5 P w K mg base) (H_Z23 : yb7 P w K mg base) (H_Z0 : T_Z0 P w K mg base) (H_Z22 : xn6 P w K mg base) : xb9 P w K mg base :=
 D.mk fun f fd Fn => Fn.okD (k := 6) (m := xo8) xj5 fun cdv A outer s H E hr => (y2 (Z5 (pc_w (zy2 (za7 (zy5 hr.units) (T5 (l6 hC_Grown (z6 0 (pv 0)) (fun ta ho => qmt0 H_Z21 cl_Grown hr ho))) (x8 1 (pv 1)) (u8 _)) (zy2 (t6 (zy5 hr.units) zr9 (l6 hC_Grown (z6 0 (pv 0)) (fun ta ho => qmt0 H_Z12 cl_Grown hr ho)) (v5 (fun t ha => qcl H_Z23 hr ha) rfl (z5 (z6 1 (pv 1)) (z5 (z6 3 (pv 3)) z9)) qal2) (u8 _)) (zt1 (t6 (zy5 hr.units) zr9 (l6 hC_Grown (z6 0 (pv 0)) (fun ta ho => qmt0 H_Z15 cl_Grown hr ho)) (v5 (fun t ha => qcl H_Z22 hr ha) rfl (z5 (z6 1 (pv 1)) (z5 (z6 3 (pv 3)) z9)) qal2) (u8 _)))))) (y9 (m6 zf1)) t8) (y2 (Z5 (t6 (zy5 hr.units) zr9 (l6 hC_Grown (z6 0 (pv 0)) (fun ta ho => qmt0 H_Z4 cl_Grown hr ho)) (v5 (fun t ha => qcl H_Z0 hr ha) rfl (z5 (z6 1 (pv 1)) (z5 (z6 3 (pv 3)) z9)) qal2) (u8 _)) (y9 (m6 zf1)) t8) (y9 (m6 (xh3 (xy0 hr.units) zr9 (l6 hC_Grown (z6 0 (pv 0)) (fun ta ho => qmt0 H_Z14 cl_Grown hr ho)) (xh1 (v5 (fun t ha => qcl H_Z25 hr ha) rfl (z5 (z6 1 (pv 1)) (z5 (z6 3 (pv 3)) (z5 (z6 2 (pv 2)) z9))) qal3) y7) (u8 _))))))
abbrev S1 : Stmt := top 36
abbrev zo0 : List Str := ["grown", "row", "weights", "step", "found", "k"]
theorem sc_law_put_all : FnScope zo0 ["grown", "row", "weights", "step"] (y4 S1) := qsc
theorem zv8 {y_Grown : Addr} (D : QDf K mg "_law_put_all" S1 ["grown", "row", "weights", "step"]) (hC_Grown : W.nsIn K mainGlobals "Grown" = some (some (.ref y_Grown))) (cl_Grown : Cls K y_Grown) (H_Z8 : T_Z8 P w K mg base y_Grown) (H_Grown_put : K0 P w K mg base y_Grown) (H_Z23 : yb7 P w K mg base) (Z : Zs mg) : F7 P w K mg base :=
 D.mk fun f fd Fn => Fn.okW (k := 5) (m := W2) sc_law_put_all fun cdv A outer s H E hr => (w5 (psw (X7 (i := 4) sc_law_put_all.nd rfl (Or.inl rfl) (m8 z9))) (w5 (yq1 PassesOwn.never rfl (T4 rfl (g9 Z) (z5 (v4 rfl (k6 Z) (x8 1 (pv 1))) z9)) (t9 (i := 5) (x9 sc_law_put_all.nd rfl (Or.inl rfl))) (w5 (K7 (Q5 (A1 hC_Grown (z6 0 (pv 0)) (fun ta t ho ha => qmt H_Grown_put cl_Grown hr ho ha) rfl (z5 (i6 (x8 1 (pv 1)) (z6 5 (pv 5))) (z5 (i6 (x8 2 (pv 2)) (z6 5 (pv 5))) z9)) qal2))) (w5 (yw6 (i := 4) (J1 (i6 (T5 (l6 hC_Grown (z6 0 (pv 0)) (fun ta ho => qmt0 H_Z8 cl_Grown hr ho))) (J3 y7))) (fun t ha => qap (pv 4) ha)) (c6 (zn7 (pcw (pc_w (zy2 (t6 zf3 zy4 (v4 rfl (k6 Z) (x8 1 (pv 1))) y7 (u8 _)) (zt1 (t6 E5 Z8 (z6 5 (pv 5)) (J2 (v4 rfl (k6 Z) (x8 1 (pv 1))) y7) (u8 _)))))) (c6 (psw (a8 (i := 4) (Z6 (v5 (fun t ha => qcl H_Z23 hr ha) rfl (z5 (j4 (S5 (x8 1 (pv 1)) p7 (p6 (l9 (z6 5 (pv 5)) y7)))) (z5 (z6 3 (pv 3)) z9)) qal2) (J0 (pv 4) (J3 y7) X6))))) K8))))) (c6 (yg9 4 (pv 4)))))
abbrev i4 : Stmt := top 37
abbrev V7 : List Str := ["pot", "row", "step", "weights", "grown", "moments", "many", "left", "other", "loads", "k", "whole"]
theorem sc_law_run_right : FnScope V7 ["pot", "row", "step"] (y4 i4) := qsc
theorem J6 : List.Nodup (["number", "pot"] : List Str) := by decide +kernel
theorem J5 : List.Nodup (["number", "pot"] : List Str) := by decide +kernel
theorem C6 {y_Grown : Addr} (D : QDf K mg "_law_run_right" i4 ["pot", "row", "step"]) (hC_Grown : W.nsIn K mainGlobals "Grown" = some (some (.ref y_Grown))) (cl_Grown : Cls K y_Grown) (H_Grown___init__ : QHi P w K mg base 2 y_Grown "Grown" ["self", "step"] (spW K 2 k9)) (H_Z8 : T_Z8 P w K mg base y_Grown) (H_Grown_put : K0 P w K mg base y_Grown) (H_Grown_take : C1 P w K mg base y_Grown) (H_Z13 : xb9 P w K mg base) (H_Z24 : zc8 P w K mg base) (H_law_put_all : F7 P w K mg base) (H_Z11 : xn9 P w K mg base) (H_Z2 : T_Z2 P w K mg base) (H_Z23 : yb7 P w K mg base) (Z : Zs mg) : O0 P w K mg base :=
 D.mk fun f fd Fn => Fn.okGW (k := 7) (m := Z4) sc_law_run_right (by decide) fun cdv A outer s H E hr => (w5 (psw (E4 (i := 0) (j := 1) rfl (by decide) (M7 (i := 3) sc_law_run_right.nd rfl (Or.inl rfl) (d9 (N := ["number", "pot"]) (src := [none, some 0]) (y4 i4) V7 rfl rfl (by decide +kernel)) rfl (X1 (z6 1 (pv 1))) (fun C fp s0 H0 => (x9 (i := 0) J6 rfl (Or.inl rfl))) (fun C fp s0 H0 => zz9) (fun C fp s0 H0 => (w6 (i := 1) (fun t ha => qcl H_Z2 hr ha) rfl (pv 1) (w8 z9) (t4 G9)))))) (yf0 hC_Grown (fun t ha => by exact qmkO H_Grown___init__ hr ha) (fun te he => zt2 (i := 4) sc_law_run_right.nd rfl (Or.inl rfl) he) rfl (z5 (z6 2 (pv 2)) z9) qal1 (w5 (yg8 (i := 5) sc_law_run_right.nd rfl (Or.inl rfl) (yf8 (fun t ha => qcl H_law_put_all hr ha) rfl (z5 (z6 4 (pv 4)) (z5 (z6 1 (pv 1)) (z5 (z6 3 (pv 3)) (z5 (z6 2 (pv 2)) z9)))) qal4)) (w5 (zn7 (A2 (pc_w (zy2 (yp6 (za6 (v5 (fun t ha => qcl H_Z13 hr ha) rfl (z5 (z6 4 (pv 4)) (z5 (z6 1 (pv 1)) (z5 (z6 3 (pv 3)) (z5 (z6 2 (pv 2)) z9)))) qal4))) (zt1 (za7 (zy5 hr.units) (T5 (l6 hC_Grown (z6 4 (pv 4)) (fun ta ho => qmt0 H_Z8 cl_Grown hr ho))) (x8 5 (pv 5)) (u8 _)))))) (c6 (B7 (i := 0) (Q4 (pdw zf1)))) K8) (w5 (psw (U1 (i := 6) sc_law_run_right.nd rfl (Or.inl rfl) (w6 (i := 0) (fun t ha => qcl H_Z24 hr ha) rfl (pv 0) (w8 (z5 (l9 (v4 rfl (k6 Z) (x8 1 (pv 1))) y7) z9)) (t4 qal1)))) (w5 (psw (n9 (i := 7) sc_law_run_right.nd rfl (Or.inl rfl) (J2 (v4 rfl (k6 Z) (x8 1 (pv 1))) (z6 6 (pv 6))))) (w5 (K7 (Q5 (A1 hC_Grown (z6 4 (pv 4)) (fun ta t ho ha => qmt H_Grown_take cl_Grown hr ho ha) rfl (z5 (z6 6 (pv 6)) z9) qal1))) (w5 (psw (X7 (i := 5) sc_law_run_right.nd rfl (Or.inl rfl) (Q7 (x8 5 (pv 5)) (S6 (m8 (z5 (v5 (fun t ha => qcl H_Z23 hr ha) rfl (z5 (j4 (S5 (x8 1 (pv 1)) p7 (p6 (z6 7 (pv 7))))) (z5 (z6 2 (pv 2)) z9)) qal2) z9)))))) (w5 (zn7 (A2 (pc_w (zy2 (yp6 (za6 (v5 (fun t ha => qcl H_Z13 hr ha) rfl (z5 (z6 4 (pv 4)) (z5 (j4 (S5 (x8 1 (pv 1)) p7 (p6 (z6 7 (pv 7))))) (z5 (j4 (S5 (x8 3 (pv 3)) p7 (p6 (z6 7 (pv 7))))) (z5 (z6 2 (pv 2)) z9)))) qal4))) (zt1 (za7 (zy5 hr.units) (T5 (l6 hC_Grown (z6 4 (pv 4)) (fun ta ho => qmt0 H_Z8 cl_Grown hr ho))) (x8 5 (pv 5)) (u8 _)))))) (c6 (B7 (i := 0) (Q4 (pdw zf1)))) K8) (w5 (psw (U1 (i := 8) sc_law_run_right.nd rfl (Or.inl rfl) (w6 (i := 0) (fun t ha => qcl H_Z11 hr ha) rfl (pv 0) (w8 (z5 y7 z9)) (t4 qal1)))) (w5 (psw (E4 (i := 0) (j := 1) rfl (by decide) (M7 (i := 9) sc_law_run_right.nd rfl (Or.inl rfl) (d9 (N := ["number", "pot"]) (src := [none, some 0]) (y4 i4) V7 rfl rfl (by decide +kernel)) rfl (X1 (z6 8 (pv 8))) (fun C fp s0 H0 => (x9 (i := 0) J5 rfl (Or.inl rfl))) (fun C fp s0 H0 => zz9) (fun C fp s0 H0 => (w6 (i := 1) (fun t ha => qcl H_Z2 hr ha) rfl (pv 1) (w8 z9) (t4 G9)))))) (w5 (yq1 PassesOwn.never rfl (T4 rfl (g9 Z) (z5 (v4 rfl (k6 Z) (x8 8 (pv 8))) z9)) (t9 (i := 10) (x9 sc_law_run_right.nd rfl (Or.inl rfl))) (w5 (K7 (Q5 (A1 hC_Grown (z6 4 (pv 4)) (fun ta t ho ha => qmt H_Grown_put cl_Grown hr ho ha) rfl (z5 (i6 (x8 8 (pv 8)) (z6 10 (pv 10))) (z5 (i6 (x8 9 (pv 9)) (z6 10 (pv 10))) z9)) qal2))) (c6 (psw (T3 (i := 5) (pv 5) (v5 (fun t ha => qcl H_Z23 hr ha) rfl (z5 (j4 (Q7 (S6 (S5 (x8 1 (pv 1)) p7 (p6 (z6 7 (pv 7))))) (S6 (S5 (x8 8 (pv 8)) p7 (p6 (l9 (z6 10 (pv 10)) y7)))))) (z5 (z6 2 (pv 2)) z9)) qal2) (fun t ha => qap (pv 5) ha) (z5 (v5 (fun t ha => qcl H_Z23 hr ha) rfl (z5 (j4 (Q7 (S6 (S5 (x8 1 (pv 1)) p7 (p6 (z6 7 (pv 7))))) (S6 (S5 (x8 8 (pv 8)) p7 (p6 (l9 (z6 10 (pv 10)) y7)))))) (z5 (z6 2 (pv 2)) z9)) qal2) z9)))))) (w5 (psw (n9 (i := 11) sc_law_run_right.nd rfl (Or.inl rfl) (j4 (Q7 (S6 (S5 (x8 1 (pv 1)) p7 (p6 (z6 7 (pv 7))))) (x8 8 (pv 8)))))) (w5 (zn7 (A2 (pc_w (zy2 (yp6 (za6 (v5 (fun t ha => qcl H_Z13 hr ha) rfl (z5 (z6 4 (pv 4)) (z5 (z6 11 (pv 11)) (z5 (j4 (Q7 (S6 (S5 (x8 3 (pv 3)) p7 (p6 (z6 7 (pv 7))))) (x8 9 (pv 9)))) (z5 (z6 2 (pv 2)) z9)))) qal4))) (zt1 (za7 (zy5 hr.units) (T5 (l6 hC_Grown (z6 4 (pv 4)) (fun ta ho => qmt0 H_Z8 cl_Grown hr ho))) (x8 5 (pv 5)) (u8 _)))))) (c6 (B7 (i := 0) (Q4 (pdw zf1)))) K8) (w5 (K7 (Q5 (A1 hC_Grown (z6 4 (pv 4)) (fun ta t ho ha => qmt H_Grown_take cl_Grown hr ho ha) rfl (z5 (v4 rfl (k6 Z) (x8 8 (pv 8))) z9) qal1))) (w5 (psw (T3 (i := 5) (pv 5) (v5 (fun t ha => qcl H_Z23 hr ha) rfl (z5 (j4 (S5 (x8 1 (pv 1)) p7 (p6 (z6 7 (pv 7))))) (z5 (z6 2 (pv 2)) z9)) qal2) (fun t ha => qap (pv 5) ha) (z5 (v5 (fun t ha => qcl H_Z23 hr ha) rfl (z5 (j4 (S5 (x8 1 (pv 1)) p7 (p6 (z6 7 (pv 7))))) (z5 (z6 2 (pv 2)) z9)) qal2) z9))) (zg5 5 (c6 (B7 (i := 0) (Q4 (J1 (xh4 (v5 (fun t ha => qcl H_Z13 hr ha) rfl (z5 (z6 4 (pv 4)) (z5 (j4 (S5 (x8 1 (pv 1)) p7 (p6 (z6 7 (pv 7))))) (z5 (j4 (S5 (x8 3 (pv 3)) p7 (p6 (z6 7 (pv 7))))) (z5 (z6 2 (pv 2)) z9)))) qal4) (xh0 (xh2 (xy0 hr.units) (T5 (l6 hC_Grown (z6 4 (pv 4)) (fun ta ho => qmt0 H_Z8 cl_Grown hr ho))) (x8 5 (pv 5)) (u8 _)))))))))))))))))))))))))
abbrev zn1 : Stmt := top 38
abbrev xm0 : List Str := ["script", "k", "pot", "row", "step", "base"]
theorem sc_Z28 : FnScope xm0 ["script"] (y4 zn1) := qsc
theorem ye6 : List.Nodup (["one", "pot"] : List Str) := by decide +kernel
theorem ye5 : List.Nodup (["one", "base"] : List Str) := by decide +kernel
theorem xg0 {f : Addr} {fd : FuncData} (Fn : Fun K "law" "law" zn1 f fd) (H_Z24 : zc8 P w K mg base) (H_law_pots : zs8 P w K mg base) (H_law_run_right : O0 P w K mg base) (H_Z11 : xn9 P w K mg base) (H_Z7 : T_Z7 P w K mg base) (Z : Zs mg) : FnOk P w K mg base CX0 9 f fd ["script"] (spR K 1 ze0) :=
 Fn.okD (k := 8) (m := xp7) sc_Z28 fun cdv A outer s H E hr => (y2 (yq5 PassesOwn.never rfl rfl (M4 Z) (xu7 (fun t ha => qcl H_law_pots hr ha) rfl (z5 (j4 (S5 (x8 0 (pv 0)) p7 (p6 y7))) z9) qal1) (X4 rfl (w9 (x9 (i := 1) sc_Z28.nd rfl (Or.inl rfl)) (w9 (x9 (i := 2) sc_Z28.nd rfl (Or.inr rfl)) f6))) (y2 (U1 (i := 3) sc_Z28.nd rfl (Or.inl rfl) (w6 (i := 2) (fun t ha => qcl H_Z11 hr ha) rfl (pv 2) (w8 (z5 y7 z9)) (t4 qal1))) (y2 (U1 (i := 4) sc_Z28.nd rfl (Or.inl rfl) (w6 (i := 2) (fun t ha => qcl H_Z7 hr ha) rfl (pv 2) (w8 z9) (t4 G9))) (y2 (yq4 (wy0 (xu0 (yf9 (t6 E5 Z8 (z6 1 (pv 1)) y7 (u8 _))) (yg6 (xs3 E5 Z8 (w6 (i := 2) (fun t ha => qcl H_Z24 hr ha) rfl (pv 2) (w8 (z5 y7 z9)) (t4 qal1)) (p8 y7) (u8 _))))) (y2 (U1 (i := 5) sc_Z28.nd rfl (Or.inr rfl) (yw9 (i := 2) (j := 1) rfl (by decide) (d9 (N := ["one", "pot"]) (src := [none, some 2]) (y4 zn1) xm0 rfl rfl (by decide +kernel)) rfl (zt4 rfl (g9 Z) (g7 (N8 (OpR.or zy6 Q8) M8 (p8 y7) (w6 (i := 2) (fun t ha => qcl H_Z24 hr ha) rfl (pv 2) (w8 (z5 y7 z9)) (t4 qal1))) (w8 z9))) (fun C fp s0 H0 => (x9 (i := 0) ye6 rfl (Or.inl rfl))) (fun C fp s0 H0 => (N8 za9 zr8 (w6 (i := 1) (fun t ha => qcl H_Z24 hr ha) rfl (pv 1) (w8 (z5 y7 z9)) (t4 qal1)) (p8 y7))))) (y9 (yw7 (M7 (i := 3) sc_Z28.nd rfl (Or.inl rfl) (d9 (N := ["one", "base"]) (src := [none, some 5]) (y4 zn1) xm0 rfl rfl (by decide +kernel)) rfl (zt4 rfl (g9 Z) (g7 (zm5 (zg8 (g7 (N8 (OpR.or zy6 Q8) M8 (p8 y7) (w6 (i := 2) (fun t ha => qcl H_Z24 hr ha) rfl (pv 2) (w8 (z5 y7 z9)) (t4 qal1))) (w8 (z5 y7 z9)))) (w6 (i := 2) (fun t ha => qcl H_Z24 hr ha) rfl (pv 2) (w8 (z5 y7 z9)) (t4 qal1))) (w8 z9))) (fun C fp s0 H0 => (t9 (i := 0) (x9 ye5 rfl (Or.inl rfl)))) (fun C fp s0 H0 => a7) (fun C fp s0 H0 => (l9 (i6 (x8 1 (pv 1)) (zy1 (z6 0 (pv 0)) (v4 rfl (k6 Z) (x8 1 (pv 1))))) (zf0 (z6 0 (pv 0)) y7))))))) t8) (y9 (yq4 (xs0 (ye0 (w6 (i := 2) (fun t ha => qcl H_law_run_right hr ha) rfl (pv 2) (w8 (z5 (z6 3 (pv 3)) (z5 (z6 4 (pv 4)) z9))) (t4 qal2)))) (y9 (m6 zf1)) t8)))))) (y9 (m6 zf1)))
theorem all_mk {l : W.OpenLaw} {h : Heap} {fa : Addr} (X : K.In h) (G : h.Ns mainGlobals mg) (hfa : mg "law" = some (.ref fa)) {y_Grown : Addr} (eC_Grown : W.nsIn K mainGlobals "Grown" = some (some (.ref y_Grown))) (c1_Grown : W.plainGet K y_Grown Str.empty = true) (c2_Grown : W.hasDictIn K y_Grown = true) (c3_Grown : W.plainOver K y_Grown = true) (c4_Grown : W.findIn K (.ref y_Grown) "__setattr__" = some (some (.builtin "object.__setattr__"))) (n_Grown_least_step : W.findIn K (.ref y_Grown) "least_step" = some none) (n_Grown_lengths : W.findIn K (.ref y_Grown) "lengths" = some none) (n_Grown_numbers : W.findIn K (.ref y_Grown) "numbers" = some none) (n_Grown_weights : W.findIn K (.ref y_Grown) "weights" = some none) (m1_Grown : W.makesIn K y_Grown = true) (m2_Grown : W.keepIn K (.ref y_Grown) = true) (d_Z17 : QDn K "refuse_step" xw9) (d_Z19 : QDn K "later_steps" zg0) (d_Z6 : QDn K "longest_joined" s_Z6) (d_Z0 : QDn K "how_many_longest" s_Z0) (d_Z9 : QDn K "refuse_weight" s_Z9) (d_Z5 : QDn K "refuse_weights" s_Z5) (d_Z10 : QDn K "heavier_first" xv5) (d_Z3 : QDn K "first_heaviest" s_Z3) (d_Z20 : QDn K "heavy_tails" yr1) (d_Z25 : QDn K "heaviest" xw3) (d_Z27 : QDn K "tails" yr0) (d_Z16 : QDn K "longer_first" xv0) (d_Z26 : QDn K "longest" xw2) (d_Z23 : QDn K "how_long" xw5) (d_Z18 : QDn K "first_break" xw8) (d_Z22 : QDn K "pieces_of" xw6) (d_Grown___init__ : QMn K y_Grown "__init__" "Grown.__init__" X0) (d_Z15 : QMn K y_Grown "pieces" "Grown.pieces" xv1) (d_Z12 : QMn K y_Grown "length" "Grown.length" xv4) (d_Grown_put : QMn K y_Grown "put" "Grown.put" M5) (d_Grown_take : QMn K y_Grown "take" "Grown.take" Q3) (d_Z14 : QMn K y_Grown "weight" "Grown.weight" xv2) (d_Z4 : QMn K y_Grown "how_many" "Grown.how_many" s_Z4) (d_Z21 : QMn K y_Grown "row" "Grown.row" xw7) (d_Z8 : QMn K y_Grown "moments" "Grown.moments" s_Z8) (d_Z24 : QDn K "_law_next" xw4) (d_law_pots : QDn K "_law_pots" O3) (d_Z1 : QDn K "_law_some_number" s_Z1) (d_Z11 : QDn K "_law_some_row" yr2) (d_Z7 : QDn K "_law_some_step" s_Z7) (d_Z2 : QDn K "_law_some_weight" s_Z2) (d_Z13 : QDn K "_law_as_plain" xv3) (d_law_put_all : QDn K "_law_put_all" S1) (d_law_run_right : QDn K "_law_run_right" i4) (d_Z28 : QDn K "law" zn1) {y_OTHER_KIND : Addr} {es_OTHER_KIND : Array DictEntry} {ep_OTHER_KIND} (e_OTHER_KIND : W.nsIn K mainGlobals "OTHER_KIND" = some (some (.ref y_OTHER_KIND))) (l_OTHER_KIND : K.lookup y_OTHER_KIND = some ⟨.type "dict", none, .dict es_OTHER_KIND ep_OTHER_KIND, #[]⟩) (n_OTHER_KIND : (y_OTHER_KIND == sysModules) = false) (v_OTHER_KIND : ys5 tab_OTHER_KIND es_OTHER_KIND.toList) (h_OTHER_KIND : ∀ e ∈ es_OTHER_KIND.toList, ∀ k t, e.key = .str k t -> e.hash = hashStr w k) (y_enumerate : W.nsIn K mainGlobals "enumerate" = some none) (y_len : W.nsIn K mainGlobals "len" = some none) (y_list : W.nsIn K mainGlobals "list" = some none) (y_max : W.nsIn K mainGlobals "max" = some none) (y_min : W.nsIn K mainGlobals "min" = some none) (y_range : W.nsIn K mainGlobals "range" = some none) (y_reversed : W.nsIn K mainGlobals "reversed" = some none) (y_sorted : W.nsIn K mainGlobals "sorted" = some none) (y_sum : W.nsIn K mainGlobals "sum" = some none) :
  ∃ fd : FuncData, (∀ (s : Shared) (v : Value), BindsTo s fd ⟨[v], []⟩ [("script", v)]) /\ ∀ base : Heap, K.In base -> base.Ns mainGlobals mg -> FnOk l.prog w K mg base CX0 9 fa fd ["script"] (spR K 1 ze0) := by
 obtain ⟨x, e, oc, o1, kV, dc, pm, o2, cd, ct, sl, l', c, k⟩ := d_Z28
 have e := hfa.symm.trans (W.mg_of X G e)
 cases e
 have cl_Grown : Cls K y_Grown := ⟨c1_Grown, c2_Grown, c3_Grown, c4_Grown⟩
 have hC_Grown := eC_Grown
 have a_Grown := W.mg_of X G eC_Grown
 have h_Grown_least_step : QHF K "Grown" "least_step" := fun C z => by
  rw [eC_Grown] at z; cases z; exact ⟨cl_Grown, n_Grown_least_step⟩
 have h_Grown_lengths : QHF K "Grown" "lengths" := fun C z => by
  rw [eC_Grown] at z; cases z; exact ⟨cl_Grown, n_Grown_lengths⟩
 have h_Grown_numbers : QHF K "Grown" "numbers" := fun C z => by
  rw [eC_Grown] at z; cases z; exact ⟨cl_Grown, n_Grown_numbers⟩
 have h_Grown_weights : QHF K "Grown" "weights" := fun C z => by
  rw [eC_Grown] at z; cases z; exact ⟨cl_Grown, n_Grown_weights⟩
 have T_OTHER_KIND : KTab w K y_OTHER_KIND tab_OTHER_KIND := ⟨n_OTHER_KIND, by decide, es_OTHER_KIND, ep_OTHER_KIND, l_OTHER_KIND, v_OTHER_KIND, h_OTHER_KIND⟩
 have a_OTHER_KIND := W.mg_of X G e_OTHER_KIND
 have Z : Zs mg := ⟨W.mg_none_of X G y_enumerate, W.mg_none_of X G y_len, W.mg_none_of X G y_list, W.mg_none_of X G y_max, W.mg_none_of X G y_min, W.mg_none_of X G y_range, W.mg_none_of X G y_reversed, W.mg_none_of X G y_sorted, W.mg_none_of X G y_sum, True.intro⟩
 refine ⟨W.fnOf "law" "law" (R0 zn1) (b9 zn1) (y4 zn1) .none kV dc pm o2 cd ct, fun s v => .of_eq rfl, fun base _ _ => ?_⟩
 have H_Z17 := xf1 (P := l.prog) (w := w) (mg := mg) (base := base) (d_Z17.df X G (qbd1 fun _ _ _ _ _ _ _ => rfl))
 have H_Z19 := xg9 (P := l.prog) (w := w) (mg := mg) (base := base) (d_Z19.df X G (qbd2 fun _ _ _ _ _ _ _ _ => rfl)) Z
 have H_Z6 := wy6 (P := l.prog) (w := w) (mg := mg) (base := base) (d_Z6.df X G (qbd1 fun _ _ _ _ _ _ _ => rfl)) Z
 have H_Z0 := wx2 (P := l.prog) (w := w) (mg := mg) (base := base) (d_Z0.df X G (qbd2 fun _ _ _ _ _ _ _ _ => rfl)) H_Z19 H_Z6 H_Z17 Z
 have H_Z9 := wy3 (P := l.prog) (w := w) (mg := mg) (base := base) (d_Z9.df X G (qbd1 fun _ _ _ _ _ _ _ => rfl))
 have H_Z5 := wy7 (P := l.prog) (w := w) (mg := mg) (base := base) (d_Z5.df X G (qbd2 fun _ _ _ _ _ _ _ _ => rfl)) H_Z9 Z
 have H_Z10 := xf8 (P := l.prog) (w := w) (mg := mg) (base := base) (d_Z10.df X G (qbd1 fun _ _ _ _ _ _ _ => rfl)) Z
 have H_Z3 := wy9 (P := l.prog) (w := w) (mg := mg) (base := base) (d_Z3.df X G (qbd1 fun _ _ _ _ _ _ _ => rfl)) H_Z10 Z
 have H_Z20 := xg8 (P := l.prog) (w := w) (mg := mg) (base := base) (d_Z20.df X G (qbd3 fun _ _ _ _ _ _ _ _ _ => rfl)) H_Z3 H_Z19 Z
 have H_Z25 := xg3 (P := l.prog) (w := w) (mg := mg) (base := base) (d_Z25.df X G (qbd3 fun _ _ _ _ _ _ _ _ _ => rfl)) H_Z3 H_Z20 H_Z17 H_Z5
 have H_Z27 := xg1 (P := l.prog) (w := w) (mg := mg) (base := base) (d_Z27.df X G (qbd2 fun _ _ _ _ _ _ _ _ => rfl)) Z
 have H_Z16 := xf2 (P := l.prog) (w := w) (mg := mg) (base := base) (d_Z16.df X G (qbd1 fun _ _ _ _ _ _ _ => rfl)) Z
 have H_Z26 := xg2 (P := l.prog) (w := w) (mg := mg) (base := base) (d_Z26.df X G (qbd2 fun _ _ _ _ _ _ _ _ => rfl)) H_Z16 H_Z17 H_Z27 Z
 have H_Z23 := xg5 (P := l.prog) (w := w) (mg := mg) (base := base) (d_Z23.df X G (qbd2 fun _ _ _ _ _ _ _ _ => rfl)) H_Z26 Z
 have H_Z18 := xf0 (P := l.prog) (w := w) (mg := mg) (base := base) (d_Z18.df X G (qbd4 fun _ _ _ _ _ _ _ _ _ _ => rfl)) Z
 have H_Z22 := xg6 (P := l.prog) (w := w) (mg := mg) (base := base) (d_Z22.df X G (qbd2 fun _ _ _ _ _ _ _ _ => rfl)) H_Z18 H_Z17 T_OTHER_KIND a_OTHER_KIND Z
 have H_Grown___init__ := (E6 (P := l.prog) (w := w) (mg := mg) (base := base) (d_Grown___init__.mf (qbd2 fun _ _ _ _ _ _ _ _ => rfl)) hC_Grown cl_Grown H_Z17 h_Grown_least_step h_Grown_lengths h_Grown_numbers h_Grown_weights).hi m1_Grown m2_Grown a_Grown
 have H_Z15 := xf3 (P := l.prog) (w := w) (mg := mg) (base := base) (d_Z15.mf (qbd1 fun _ _ _ _ _ _ _ => rfl)) hC_Grown cl_Grown H_Z22 h_Grown_least_step h_Grown_numbers
 have H_Z12 := xf6 (P := l.prog) (w := w) (mg := mg) (base := base) (d_Z12.mf (qbd1 fun _ _ _ _ _ _ _ => rfl)) hC_Grown cl_Grown H_Z15 h_Grown_numbers Z
 have H_Grown_put := zm8 (P := l.prog) (w := w) (mg := mg) (base := base) (d_Grown_put.mf (qbd3 fun _ _ _ _ _ _ _ _ _ => rfl)) hC_Grown cl_Grown H_Z12 H_Z9 h_Grown_lengths h_Grown_numbers h_Grown_weights
 have H_Grown_take := zq1 (P := l.prog) (w := w) (mg := mg) (base := base) (d_Grown_take.mf (qbd2 fun _ _ _ _ _ _ _ _ => rfl)) hC_Grown cl_Grown H_Z12 h_Grown_lengths h_Grown_numbers h_Grown_weights Z
 have H_Z14 := xf4 (P := l.prog) (w := w) (mg := mg) (base := base) (d_Z14.mf (qbd1 fun _ _ _ _ _ _ _ => rfl)) hC_Grown cl_Grown H_Z25 h_Grown_least_step h_Grown_numbers h_Grown_weights
 have H_Z4 := wy8 (P := l.prog) (w := w) (mg := mg) (base := base) (d_Z4.mf (qbd1 fun _ _ _ _ _ _ _ => rfl)) hC_Grown cl_Grown H_Z0 h_Grown_least_step h_Grown_numbers
 have H_Z21 := xg7 (P := l.prog) (w := w) (mg := mg) (base := base) (d_Z21.mf (qbd1 fun _ _ _ _ _ _ _ => rfl)) hC_Grown cl_Grown h_Grown_numbers Z
 have H_Z8 := wy4 (P := l.prog) (w := w) (mg := mg) (base := base) (d_Z8.mf (qbd1 fun _ _ _ _ _ _ _ => rfl)) hC_Grown cl_Grown h_Grown_lengths Z
 have H_Z24 := xg4 (P := l.prog) (w := w) (mg := mg) (base := base) (d_Z24.df X G (qbd2 fun _ _ _ _ _ _ _ _ => rfl))
 have H_law_pots := zf4 (P := l.prog) (w := w) (mg := mg) (base := base) (d_law_pots.df X G (qbd1 fun _ _ _ _ _ _ _ => rfl)) Z
 have H_Z1 := wx1 (P := l.prog) (w := w) (mg := mg) (base := base) (d_Z1.df X G (qbd2 fun _ _ _ _ _ _ _ _ => rfl)) H_Z24
 have H_Z11 := xf7 (P := l.prog) (w := w) (mg := mg) (base := base) (d_Z11.df X G (qbd2 fun _ _ _ _ _ _ _ _ => rfl)) H_Z24 H_Z1 Z
 have H_Z7 := wy5 (P := l.prog) (w := w) (mg := mg) (base := base) (d_Z7.df X G (qbd1 fun _ _ _ _ _ _ _ => rfl)) H_Z24
 have H_Z2 := wx0 (P := l.prog) (w := w) (mg := mg) (base := base) (d_Z2.df X G (qbd1 fun _ _ _ _ _ _ _ => rfl)) H_Z24
 have H_Z13 := xf5 (P := l.prog) (w := w) (mg := mg) (base := base) (d_Z13.df X G (qbd4 fun _ _ _ _ _ _ _ _ _ _ => rfl)) hC_Grown cl_Grown H_Z4 H_Z12 H_Z15 H_Z21 H_Z14 H_Z25 H_Z23 H_Z0 H_Z22
 have H_law_put_all := zv8 (P := l.prog) (w := w) (mg := mg) (base := base) (d_law_put_all.df X G (qbd4 fun _ _ _ _ _ _ _ _ _ _ => rfl)) hC_Grown cl_Grown H_Z8 H_Grown_put H_Z23 Z
 have H_law_run_right := C6 (P := l.prog) (w := w) (mg := mg) (base := base) (d_law_run_right.df X G (qbd3 fun _ _ _ _ _ _ _ _ _ => rfl)) hC_Grown cl_Grown H_Grown___init__ H_Z8 H_Grown_put H_Grown_take H_Z13 H_Z24 H_law_put_all H_Z11 H_Z2 H_Z23 Z
 exact xg0 (yk4 l' c k) H_Z24 H_law_pots H_law_run_right H_Z11 H_Z7 Z
theorem walk {l : W.OpenLaw} {q : Program} {loose : List Str} {XP : (Str -> Option Value) -> Heap -> Prop} {YP : World -> Heap -> Prop} {d : DefRec} {K : Params -> W.Frag} (hn : l.most = some 63) (hdf : d.params.defaults = [])
  (law : ∀ ns : List Int, ns.length <= 63 -> ze0 [.lst (ns.map .int)] = some (.sh (.bl true)))
  (hY : ∀ (w : World) (h : Heap), YP w h -> (K w.params).In h)
  (F : ∀ (w : World) (mg : Str -> Option Value) (fa : Addr) (h : Heap), (K w.params).In h -> h.Ns mainGlobals mg -> mg d.name = some (.ref fa) ->
   ∃ fd : FuncData, (∀ (s : Shared) (u : Value), BindsTo s fd ⟨[u], []⟩ [("script", u)]) /\ ∀ base : Heap, (K w.params).In base -> base.Ns mainGlobals mg -> FnOk l.prog w (K w.params) mg base CX0 9 fa fd ["script"] (spR (K w.params) 1 ze0)) :
  W.WalkO q loose XP YP l.row.toRowW d [] (fun f vs => PySem.call f vs) :=
 L2.walk_of (n := 63) (k := 9) (x := "script") (CX := fun _ => CX0) (sp := fun w => spR (K w.params) 1 ze0) hn (by decide) hdf ⟨rfl, by decide, by decide⟩ hY F (fun w H a ns hl _ hS => xk9 law H a ns hl hS _) fun _ _ _ _ _ z => z
end
end Lw
open PySem PySem.W PyProof.Rows L2
set_option maxRecDepth 100000 in
set_option maxHeartbeats 0 in
theorem PySem.Challenge.cw_wavyrow_k32_whole_grown_as_plain_holds : PySem.Challenge.rw_wavyrow_k32_whole_grown_as_plain.Holds := by
 w_on; o_law; k_head; (case hw => w_witness2)
 k_fill
 refine Lw.walk (l := PySem.Challenge.rw_wavyrow_k32_whole_grown_as_plain) rfl rfl Lw.law_true (fun w h Y => PySem.W.kIn_of Y) ?F
 case F =>
  intro w mg fa h KX G hmg
  refine' Lw.all_mk KX G hmg ?eC_Grown ?c1_Grown ?c2_Grown ?c3_Grown ?c4_Grown ?n_Grown_least_step ?n_Grown_lengths ?n_Grown_numbers ?n_Grown_weights ?m1_Grown ?m2_Grown ?d_Z17 ?d_Z19 ?d_Z6 ?d_Z0 ?d_Z9 ?d_Z5 ?d_Z10 ?d_Z3 ?d_Z20 ?d_Z25 ?d_Z27 ?d_Z16 ?d_Z26 ?d_Z23 ?d_Z18 ?d_Z22 ?d_Grown___init__ ?d_Z15 ?d_Z12 ?d_Grown_put ?d_Grown_take ?d_Z14 ?d_Z4 ?d_Z21 ?d_Z8 ?d_Z24 ?d_law_pots ?d_Z1 ?d_Z11 ?d_Z7 ?d_Z2 ?d_Z13 ?d_law_put_all ?d_law_run_right ?d_Z28 ?e_OTHER_KIND ?l_OTHER_KIND ?n_OTHER_KIND ?v_OTHER_KIND ?h_OTHER_KIND  ?y_enumerate ?y_len ?y_list ?y_max ?y_min ?y_range ?y_reversed ?y_sorted ?y_sum
  (case e_OTHER_KIND => k_is); (case l_OTHER_KIND => k_is); (case n_OTHER_KIND => first | rfl | decide | k_is)
  (case v_OTHER_KIND => exact ⟨⟨_, rfl⟩, ⟨_, rfl⟩, ⟨_, rfl⟩, ⟨_, rfl⟩, True.intro⟩)
  (case h_OTHER_KIND => intro e he k t hk; simp only [List.mem_cons, List.not_mem_nil, or_false] at he; rcases he with rfl | rfl <;> cases hk <;> rfl)
  all_goals first | (refine' QDn.of ?e ?l ?c ?k; (case e => k_is); (case l => k_is); (case c => k_is); (case k => k_is)) | (refine' QMn.of ?e ?i ?l ?c ?k; (case e => k_is); (case i => k_is); (case l => k_is); (case c => k_is); (case k => k_is)) | k_is | skip
