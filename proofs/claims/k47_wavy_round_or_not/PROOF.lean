import PyProof.Rows.All
import Wide.All
import OpenK.AllK
import Wide.FinOn
import Lean
import PyProof.EqAt
import PyProof.EqKinds
import PyProof.TupleCall
import PyProof.NeKinds
import KE.IntBitsLaws
import PyProof.FitsBits
import PySem.Challenge.RW_wavyrow_k47_wavy_round_or_not
namespace PySem.W.Fast
theorem te15810325766962582263 : True := True.intro
noncomputable def tw5155730944152388937 := PySem.Challenge.pw_wavyrow_k47_wavy_round_or_not
theorem te5155730944152388937 : PySem.Challenge.pw_wavyrow_k47_wavy_round_or_not = tw5155730944152388937 := rfl
def tw12982774563522719105 := 0
def tw12543310588360804133 := 0
def tw12274199006264351404 := 0
def tw8990215722276787117 := 0
def tw16237912617269671057 := 0
def tw12902395005733373745 := 0
def tw14895628840860798898 := 0
def tw17530912687649159539 := 0
def tw5286791219977565302 := 0
def tw2511238064261266296 := 0
def tw11878616868668927992 := 0
def tw8926889592574641244 := 0
def tw11298342824181054847 := 0
def tw2227007155231154623 := 0
end PySem.W.Fast
set_option Elab.async false
set_option linter.all false
set_option maxRecDepth 100000
namespace L2
open List
open PySem PySem.Spec PyProof.Rows
section
abbrev Key := Sum Int Str
def yc7 : Key -> Value -> Bool
 | .inl k, v => Value.isInt k v
 | .inr x, v => Value.isStrOf x v
def keyH (w : World) : Key -> Int
 | .inl k => hashInt k
 | .inr x => hashStr w x
theorem i9 : ∀ {k : Key} {v : Value}, yc7 k v = true -> (∃ i t, k = Sum.inl i /\ v = Value.int i t) \/ (∃ x t, k = Sum.inr x /\ v = Value.str x t)
 | .inl i, v, h => by
  obtain ⟨t, e⟩ := Value.isInt_shape (k := i) (v := v) h
  exact .inl ⟨i, t, rfl, e⟩
 | .inr x, v, h => by
  obtain ⟨t, e⟩ := Value.isStrOf_shape (x := x) (v := v) h
  exact .inr ⟨x, t, rfl, e⟩
theorem yc6 (a b : Int) : decide ((Sum.inl a : Key) = Sum.inl b) = (a == b) := by
 by_cases e : a = b
 ·subst e; simp
 ·have h : ¬ (Sum.inl a : Key) = Sum.inl b := fun q => e (Sum.inl.inj q)
  rw [decide_eq_false h]
  exact (beq_eq_false_iff_ne.mpr e).symm
theorem yc3 (a b : Str) : decide ((Sum.inr a : Key) = Sum.inr b) = decide (a = b) := by
 by_cases e : a = b
 ·subst e; simp
 ·have h : ¬ (Sum.inr a : Key) = Sum.inr b := fun q => e (Sum.inr.inj q)
  rw [decide_eq_false h, decide_eq_false e]
theorem yc5 (a : Int) (b : Str) : decide ((Sum.inl a : Key) = Sum.inr b) = false := decide_eq_false (fun q => nomatch q)
theorem yc4 (a : Str) (b : Int) : decide ((Sum.inr a : Key) = Sum.inl b) = false := decide_eq_false (fun q => nomatch q)
def zr1 (prog : Program) (w : World) : PySem.KeyKind prog w Key where
 is := yc7
 hash := keyH w
 inj := fun v a b ha hb => by
  rcases i9 ha with ⟨i, t, rfl, rfl⟩ | ⟨x, t, rfl, rfl⟩
  ·rcases i9 hb with ⟨j, u, rfl, e⟩ | ⟨y, u, rfl, e⟩
   ·injection e with e1 _; rw [e1]
   ·exact nomatch e
  ·rcases i9 hb with ⟨j, u, rfl, e⟩ | ⟨y, u, rfl, e⟩
   ·exact nomatch e
   ·injection e with e1 _; rw [e1]
 byValue := fun k v h => by
  rcases i9 h with ⟨i, t, rfl, rfl⟩ | ⟨x, t, rfl, rfl⟩ <;> rfl
 pyHash := fun hv h => by
  rcases i9 hv with ⟨i, t, rfl, rfl⟩ | ⟨x, t, rfl, rfl⟩
  ·exact wpAny_pyHash_int h
  ·exact wpAny_pyHash_str h
 eqBool := fun hu hv h => by
  rcases i9 hu with ⟨i, t, rfl, rfl⟩ | ⟨x, t, rfl, rfl⟩
  ·rcases i9 hv with ⟨j, u, rfl, rfl⟩ | ⟨y, u, rfl, rfl⟩
   ·rw [yc6] at h; exact wpAny_eqBool_int h
   ·rw [yc5] at h; exact SeqAt.EqAt.int_str i t y u _ _ _ _ h
  ·rcases i9 hv with ⟨j, u, rfl, rfl⟩ | ⟨y, u, rfl, rfl⟩
   ·rw [yc4] at h; exact SeqAt.EqAt.str_int x t j u _ _ _ _ h
   ·rw [yc3] at h; exact wpAny_eqBool_str h
 «strs» := fun k x t v h => by
  rcases i9 h with ⟨i, u, rfl, e⟩ | ⟨y, u, rfl, e⟩
  ·exact nomatch e
  ·injection e with e1 _
   subst e1
   cases v <;> rfl
end
section
inductive V where
 | non | bl (b : Bool) | int (i : Int) | str (x : Str) | byt (b : Array UInt8) | flt (b : UInt64) | ref (a : Addr) | ty (n : String)
 deriving DecidableEq
def RelV : V -> Value -> Prop
 | .non, u => u = Value.none
 | .bl b, u => u = Value.bool b
 | .int i, u => ∃ t, u = Value.int i t
 | .str x, u => ∃ t, u = Value.str x t
 | .byt b, u => ∃ t, u = Value.bytes b t
 | .flt b, u => ∃ t, u = Value.float b t
 | .ref a, u => u = Value.ref a
 | .ty n, u => u = Value.type n
abbrev Vals : List V -> List Value -> Prop := Paired RelV
theorem Vals.length {xs : List V} {us : List Value} (r : Vals xs us) : xs.length = us.length := Paired.length r
theorem Vals.get : ∀ {xs : List V} {us : List Value} {i : Nat} {x : V}, Vals xs us -> xs[i]? = some x -> ∃ u, us[i]? = some u /\ RelV x u
 | _, _, _, _, .nil, e => by simp at e
 | _, _, 0, _, .cons r _, e => by simp at e; subst e; exact ⟨_, rfl, r⟩
 | _, _, i + 1, x, .cons _ t, e => by
  obtain ⟨u, h1, h2⟩ := Vals.get (i := i) (x := x) t (by simpa using e)
  exact ⟨u, by simpa using h1, h2⟩
theorem Vals.set {x : V} {u : Value} (r : RelV x u) : ∀ {xs : List V} {us : List Value} (i : Nat), Vals xs us -> Vals (xs.set i x) (us.set i u)
 | _, _, _, .nil => .nil
 | _, _, 0, .cons _ t => .cons r t
 | _, _, i + 1, .cons q t => .cons q (Vals.set r i t)
theorem Vals.append : ∀ {xs ys : List V} {us ws : List Value}, Vals xs us -> Vals ys ws -> Vals (xs ++ ys) (us ++ ws)
 | _, _, _, _, .nil, s => s
 | _, _, _, _, .cons r t, s => .cons r (Vals.append t s)
theorem Vals.take : ∀ {xs : List V} {us : List Value} (n : Nat), Vals xs us -> Vals (xs.take n) (us.take n)
 | _, _, 0, _ => .nil
 | _, _, _ + 1, .nil => .nil
 | _, _, n + 1, .cons r t => .cons r (Vals.take n t)
theorem Vals.drop : ∀ {xs : List V} {us : List Value} (n : Nat), Vals xs us -> Vals (xs.drop n) (us.drop n)
 | _, _, 0, r => r
 | _, _, _ + 1, .nil => .nil
 | _, _, n + 1, .cons _ t => Vals.drop n t
def RelO : Option V -> Option Value -> Prop
 | some v, some u => RelV v u
 | none, none => True
 | _, _ => False
def KV {κ : Type} : List (κ × V) -> List (κ × Value) -> Prop := Paired fun (p : κ × V) (q : κ × Value) => p.1 = q.1 /\ RelV p.2 q.2
def kV : Key -> V
 | .inl i => .int i
 | .inr x => .str x
inductive HO where
 | lst (xs : List V)
 | tup (xs : List V)
 | dK (kvs : List (Key × V)) | dT (kvs : List (List Key × V))
 | set (S : Int -> Bool) (n : Nat)
 | ins (C dx : Addr) (fs : List (Str × V))
 | own (x : Addr)
 | xd (fs : List (Str × V))
 | met (f x : Addr)
 | rng (lo hi : Int)
 | frz (o : Obj) (u : HO)
 | tbl (ps : Array Value)
 | ext (φ : Heap -> Prop)
abbrev Hp := Addr -> Option HO
def upd (H : Hp) (a : Addr) (o : HO) : Hp := fun b => if b = a then some o else H b
theorem w9 {H : Hp} {a : Addr} {o : HO} : upd H a o a = some o := by unfold upd; rw [if_pos rfl]
theorem w8 {H : Hp} {a b : Addr} {o : HO} (h : b ≠ a) : upd H a o b = H b := by unfold upd; rw [if_neg h]
theorem t8 {H : Hp} {a b : Addr} {o : HO} (h : H a = some o) (h' : H b = none) : a ≠ b := by
 intro e; subst e; rw [h] at h'; cases h'
section
variable (P : Program) (w : World)
def ObjOk (H : Hp) (h : Heap) (a : Addr) : HO -> Prop
 | .lst xs => xs.length <= sizeLine /\ ∃ (its : List Value) (n : Nat), Vals xs its /\ h.get? a = some { cls := .type "list", data := .seq its.toArray n }
 | .tup xs => xs.length <= sizeLine /\ ∃ its : List Value, Vals xs its /\ IsTup h a its.toArray
 | .dK kvs => kvs.length <= sizeLine /\ (a == sysModules) = false /\ ∃ vs, KV kvs vs /\ h.DictOf (zr1 P w) a vs
 | .dT kvs => kvs.length <= sizeLine /\ (a == sysModules) = false /\ ∃ xs : List (List Key × Addr × Value),
   Paired (fun (p : List Key × V) (q : List Key × Addr × Value) => p.1 = q.1 /\ H q.2.1 = some (.tup (p.1.map kV)) /\ RelV p.2 q.2.2) kvs xs /\
   ∃ o es ep, h.get? a = some o /\ o.ExactDict /\ o.data = .dict es ep /\ es.toList = xs.map (entryOfKey (tupleKind (zr1 P w))) /\ (xs.map (·.1)).Nodup
 | .set S n => h.SetOf (intKind P w) a S n
 | .ins C dx fs => H dx = some (.own a) /\ fs.length <= 1000 /\ dx ≠ a /\ h.get? a = some (W.instObj C dx) /\
   ∃ mA, h.Ns1 dx mA /\ (∀ f, RelO (fs.lookup f) (mA f)) /\ PySem.Within mA (fs.map (·.1))
 | .own _ => ∃ o, h.get? a = some o
 | .xd fs => ∃ mA, h.Ns1 a mA /\ ∀ f, RelO (fs.lookup f) (mA f)
 | .rng lo hi => ∃ t u v, h.get? a = some { cls := .type "range", data := .fields #[.int lo t, .int hi u, .int 1 v] }
 | .frz o u => h.get? a = some o /\ ObjOk H h a u
 | .tbl ps => h.get? a = some { cls := .none, data := .fields ps }
 | .met f x => h.get? a = some (W.methodObj (.ref f) (.ref x))
 | .ext φ => φ h /\ (∃ o, h.get? a = some o) /\ ∀ h1 h2 : Heap, φ h1 -> (∀ o, h1.get? a = some o -> h2.get? a = some o) -> φ h2
def HOk (H : Hp) (h : Heap) : Prop := ∀ a o, H a = some o -> ObjOk P w H h a o
end
section
variable {P : Program} {w : World} {H H' : Hp} {h h' : Heap} {a : Addr} {o : HO}
theorem ObjOk.lt (x : ObjOk P w H h a o) : a < h.objs.size := by
 cases o with
 | lst xs => obtain ⟨_, _, _, _, e⟩ := x; exact Heap.lt_size e
 | tup xs => obtain ⟨_, _, _, p⟩ := x; exact p.lt
 | dK kvs => obtain ⟨_, _, _, _, o, _, _, e, _⟩ := x; exact Heap.lt_size e
 | dT kvs => obtain ⟨_, _, _, _, o, _, _, e, _⟩ := x; exact Heap.lt_size e
 | set S n => obtain ⟨o, _, _, _, e, _⟩ := x; exact Heap.lt_size e
 | ins C dx fs => obtain ⟨_, _, _, e, _⟩ := x; exact Heap.lt_size e
 | own y => obtain ⟨_, e⟩ := x; exact Heap.lt_size e
 | xd fs => obtain ⟨_, ⟨_, _, _, e, _⟩, _⟩ := x; exact Heap.lt_size e
 | rng lo hi => obtain ⟨_, _, _, e⟩ := x; exact Heap.lt_size e
 | frz ob u => obtain ⟨e, _⟩ := x; exact Heap.lt_size e
 | tbl ps => exact Heap.lt_size (show h.get? a = some _ from x)
 | met f y => exact Heap.lt_size (show h.get? a = some _ from x)
 | ext φ => obtain ⟨_, ⟨_, e⟩, _⟩ := x; exact Heap.lt_size e
theorem Paired.mapP {α β : Type} {F G : α -> β -> Prop} : ∀ {l₁ : List α} {l₂ : List β}, Paired F l₁ l₂ -> (∀ a b, F a b -> G a b) -> Paired G l₁ l₂
 | _, _, .nil, _ => .nil
 | _, _, .cons r t, f => .cons (f _ _ r) (Paired.mapP t f)
theorem ObjOk.stay (x : ObjOk P w H h a o) (k : ∀ b u, (b = a \/ H b = some (.own a)) -> h.get? b = some u -> h'.get? b = some u)
  (ho : ∀ b, H b = some (.own a) -> H' b = some (.own a)) (ht : ∀ b xs, H b = some (.tup xs) -> H' b = some (.tup xs)) : ObjOk P w H' h' a o := by
 induction o with
 | lst xs => obtain ⟨z, its, n, r, e⟩ := x; exact ⟨z, its, n, r, k _ _ (.inl rfl) e⟩
 | tup xs => obtain ⟨z, its, r, ob, e, c⟩ := x; exact ⟨z, its, r, ob, k _ _ (.inl rfl) e, c⟩
 | dK kvs => obtain ⟨z, y, vs, r, ob, es, ep, e, c⟩ := x; exact ⟨z, y, vs, r, ob, es, ep, k _ _ (.inl rfl) e, c⟩
 | dT kvs =>
  obtain ⟨z, y, xs, r, ob, es, ep, e, c⟩ := x
  exact ⟨z, y, xs, Paired.mapP r fun p q z => ⟨z.1, ht _ _ z.2.1, z.2.2⟩, ob, es, ep, k _ _ (.inl rfl) e, c⟩
 | set S n => obtain ⟨ob, es, ep, t, e, c⟩ := x; exact ⟨ob, es, ep, t, k _ _ (.inl rfl) e, c⟩
 | ins C dx fs =>
  obtain ⟨d, z, ne, e, mA, ⟨od, es, ep, e2, c⟩, r⟩ := x
  exact ⟨ho _ d, z, ne, k _ _ (.inl rfl) e, mA, ⟨od, es, ep, k _ _ (.inr d) e2, c⟩, r⟩
 | own y => obtain ⟨ob, e⟩ := x; exact ⟨ob, k _ _ (.inl rfl) e⟩
 | xd fs => obtain ⟨mA, ⟨od, es, ep, e, c⟩, r⟩ := x; exact ⟨mA, ⟨od, es, ep, k _ _ (.inl rfl) e, c⟩, r⟩
 | rng lo hi => obtain ⟨t, u, v, e⟩ := x; exact ⟨t, u, v, k _ _ (.inl rfl) e⟩
 | frz ob u ih => obtain ⟨e, q⟩ := x; exact ⟨k _ _ (.inl rfl) e, ih q⟩
 | tbl ps =>
  have e : h.get? a = some { cls := .none, data := .fields ps } := x
  show h'.get? a = some { cls := .none, data := .fields ps }
  exact k a _ (.inl rfl) e
 | met f y =>
  have e : h.get? a = some (W.methodObj (.ref f) (.ref y)) := x
  show h'.get? a = some (W.methodObj (.ref f) (.ref y))
  exact k a _ (.inl rfl) e
 | ext φ => obtain ⟨p, ⟨o, e⟩, st⟩ := x; exact ⟨st _ _ p fun o q => k _ _ (.inl rfl) q, ⟨o, k _ _ (.inl rfl) e⟩, st⟩
theorem HOk.lt (x : HOk P w H h) (e : H a = some o) : a < h.objs.size := (x a o e).lt
theorem HOk.fresh (x : HOk P w H h) (e : h.objs.size <= a) : H a = none := by
 cases q : H a with
 | none => rfl
 | some u => exact absurd (Nat.lt_of_lt_of_le (x.lt q) e) (Nat.lt_irrefl _)
theorem HOk.kept (x : HOk P w H h) (k : ∀ b u, h.get? b = some u -> h'.get? b = some u) : HOk P w H h' := fun a o e =>
 (x a o e).stay (fun b u _ q => k b u q) (fun _ q => q) fun _ _ q => q
theorem HOk.laid (x : HOk P w H h) (k : ∀ b u, h.get? b = some u -> h'.get? b = some u) (hp : h.objs.size <= a) (new : ObjOk P w (upd H a o) h' a o) : HOk P w (upd H a o) h' := fun b u e => by
 have hn := x.fresh hp
 by_cases hb : b = a
 ·subst hb; rw [w9] at e; cases e; exact new
 ·rw [w8 hb] at e
  exact (x b u e).stay (fun c v _ q => k c v q) (fun c q => by rw [w8 (t8 q hn)]; exact q) fun c xs q => by rw [w8 (t8 q hn)]; exact q
end
def Rd (H : Hp) (a : Addr) (u : HO) : Prop := H a = some u \/ ∃ o, H a = some (.frz o u)
theorem Rd.ok {P : Program} {w : World} {H : Hp} {h : Heap} {a : Addr} {u : HO} (r : Rd H a u) (x : HOk P w H h) : ObjOk P w H h a u := by
 rcases r with r | ⟨o, r⟩
 ·exact x a u r
 ·obtain ⟨_, q⟩ := x a _ r
  exact q
def Mut : Option HO -> Prop
 | some (.lst _) => True
 | some (.dK _) => True
 | some (.dT _) => True
 | some (.set _ _) => True
 | some (.ins _ _ _) => True
 | some (.ext _) => True
 | _ => False
section
variable {P : Program} {w : World} {H : Hp} {h h' : Heap} {x e : Addr} {o' : HO}
theorem HOk.write (ok : HOk P w H h) (mu : Mut (H x)) (he : e = x \/ H e = some (.own x)) (k : ∀ b u, b ≠ e -> h.get? b = some u -> h'.get? b = some u) (heo : ∃ u, h'.get? e = some u)
  (new : ObjOk P w (upd H x o') h' x o') : HOk P w (upd H x o') h' := fun b u q => by
 have nown : ∀ c y, H c = some (.own y) -> c ≠ x := fun c y r z => by subst z; rw [r] at mu; exact mu
 have ntup : ∀ c xs, H c = some (.tup xs) -> c ≠ x := fun c xs r z => by subst z; rw [r] at mu; exact mu
 by_cases hb : b = x
 ·subst hb; rw [w9] at q; cases q; exact new
 ·rw [w8 hb] at q
  by_cases hbe : b = e
  ·have q' : H b = some (.own x) := by
    rcases he with z | z
    ·exact absurd (hbe.trans z) hb
    ·rw [hbe]; exact z
   rw [q] at q'; cases q'
   obtain ⟨v, hv⟩ := heo
   exact ⟨v, by rw [hbe]; exact hv⟩
  ·refine (ok b u q).stay (fun c v hc r => k c v ?_ r) (fun c r => by rw [w8 (nown c b r)]; exact r) fun c xs r => by rw [w8 (ntup c xs r)]; exact r
   rcases hc with rfl | hc
   ·exact hbe
   ·rintro rfl
    rcases he with z | z
    ·exact nown c b hc z
    ·rw [hc] at z; cases z; exact hb rfl
end
structure Un (fs ex : List Addr) (H H' : Hp) (h h' : Heap) : Prop where
 keep : ∀ b o, h.get? b = some o -> H b = none -> b ∉ fs -> b ∉ ex -> h'.get? b = some o
 slot : ∀ b o, h.get? b = some o -> H b = none -> b ∈ fs -> b ∉ ex -> ∃ sl, h'.get? b = some { o with slots := sl }
 free : ∀ b o, h.get? b = some o -> H b = none -> b ∉ ex -> H' b = none
 there : ∀ b o, h.get? b = some o -> b ∉ ex -> ∃ o', h'.get? b = some o'
 tups : ∀ b xs, H b = some (.tup xs) -> H' b = some (.tup xs)
 frzs : ∀ b o u, H b = some (.frz o u) -> H' b = some (.frz o u)
 tbls : ∀ b ps, H b = some (.tbl ps) -> ∃ more, H' b = some (.tbl (ps ++ more))
section
variable {fs fs' ex ex' : List Addr} {H H1 H2 : Hp} {h h1 h2 h' : Heap} {a x e : Addr} {o : HO}
theorem Un.any (u : Un fs ex H H1 h h1) {b : Addr} {ob : Obj} (q : h.get? b = some ob) (n : H b = none) (hx : b ∉ ex) : ∃ sl, h1.get? b = some { ob with slots := sl } := by
 by_cases hb : b ∈ fs
 ·exact u.slot b ob q n hb hx
 ·exact ⟨ob.slots, u.keep b ob q n hb hx⟩
theorem Un.kept (k : ∀ b u, h.get? b = some u -> h'.get? b = some u) : Un fs ex H H h h' :=
 ⟨fun b ob q _ _ _ => k b ob q, fun b ob q _ _ _ => ⟨ob.slots, k b ob q⟩, fun _ _ _ n _ => n, fun b ob q _ => ⟨ob, k b ob q⟩, fun _ _ q => q, fun _ _ _ q => q, fun _ ps q => ⟨#[], by rw [q]; simp⟩⟩
theorem Un.refl : Un fs ex H H h h := Un.kept fun _ _ q => q
theorem Un.laid (k : ∀ b u, h.get? b = some u -> h'.get? b = some u) (hp : h.objs.size <= a) (hn : H a = none) : Un fs ex H (upd H a o) h h' where
 keep := fun b u q _ _ _ => k b u q
 slot := fun b u q _ _ _ => ⟨u.slots, k b u q⟩
 free := fun b u q n _ => by rw [w8 (Nat.ne_of_lt (Nat.lt_of_lt_of_le (Heap.lt_size q) hp))]; exact n
 there := fun b u q _ => ⟨u, k b u q⟩
 tups := fun b xs q => by rw [w8 (t8 q hn)]; exact q
 frzs := fun b u xs q => by rw [w8 (t8 q hn)]; exact q
 tbls := fun b ps q => ⟨#[], by rw [w8 (t8 q hn), q]; simp⟩
theorem Un.write (mu : Mut (H x)) (he : e = x \/ H e = some (.own x)) (k : ∀ b u, b ≠ e -> h.get? b = some u -> h'.get? b = some u) (heo : ∃ u, h'.get? e = some u) : Un fs ex H (upd H x o) h h' := by
 have hx : ∀ b, H b = none -> b ≠ x := fun b n z => by subst z; rw [n] at mu; exact mu
 have hb : ∀ b, H b = none -> b ≠ e := fun b n z => by
  subst z
  rcases he with r | r
  ·exact hx b n r
  ·rw [n] at r; cases r
 have hm : ∀ b u, H b = some u -> ¬ Mut (some u) -> b ≠ x := fun b u q nm z => by subst z; rw [q] at mu; exact nm mu
 refine ⟨fun b u q n _ _ => k b u (hb b n) q, fun b u q n _ _ => ⟨u.slots, k b u (hb b n) q⟩, fun b u q n _ => by rw [w8 (hx b n)]; exact n, fun b u q _ => ?_,
  fun b xs q => by rw [w8 (hm b _ q fun z => z)]; exact q, fun b u xs q => by rw [w8 (hm b _ q fun z => z)]; exact q, fun b ps q => ⟨#[], by rw [w8 (hm b _ q fun z => z), q]; simp⟩⟩
 by_cases hbe : b = e
 ·subst hbe; exact heo
 ·exact ⟨u, k b u hbe q⟩
end
def trk (h : Heap) (H : Hp) : List Addr := (List.range h.objs.size).filter fun a => (H a).isSome
def hidT (h : Heap) (H : Hp) : Heap := W.hideAll h (trk h H)
theorem zc5 (h : Heap) (H : Hp) : (hidT h H).objs.size = h.objs.size := W.hideAll_size _ _
theorem yv6 {h : Heap} {H : Hp} {b : Addr} {o : Obj} (e : h.get? b = some o) (n : H b = none) : (hidT h H).get? b = some o :=
 W.hideAll_get _ e fun hm => by
  have q : (H b).isSome = true := (List.mem_filter.mp hm).2
  rw [n] at q; simp at q
theorem yn5 {h : Heap} {H : Hp} {b : Addr} {o : Obj} (e : (hidT h H).get? b = some o) : h.get? b = some o /\ H b = none := by
 have e' : h.get? b = some o := W.of_hideAll (trk h H) e
 refine ⟨e', ?_⟩
 cases q : H b with
 | none => rfl
 | some x =>
  have hm : b ∈ trk h H := List.mem_filter.mpr ⟨List.mem_range.mpr (Heap.lt_size e'), by simp [q]⟩
  have z : (hidT h H).get? b = none := W.hideAll_none (trk h H) hm
  rw [z] at e; cases e
def yk8 (g h : Heap) (L : Addr) : List (Addr × Obj) := (List.range h.objs.size).filterMap fun a => if a = L \/ (g.get? a).isSome = true then none else (h.get? a).map fun o => (a, o)
def rest (g h : Heap) (L d : Addr) : List (Addr × Obj) := (yk8 g h L).filter fun p => decide (p.1 ≠ d)
end
section
structure Mod (K : W.Frag) (mg : Str -> Option Value) (base : Heap) : Prop where
 kin : K.In base
 glob : base.Ns mainGlobals mg
 blt : ∃ mb, base.Ns builtinsNs mb /\ ∀ x : Str, x ≠ "__name__" -> mb x = bootBuiltins x
 nolimit : base.NoLimit
structure Cx where
 prog : Program
 w : World
 K : W.Frag
 mg : Str -> Option Value
 base : Heap
 A : Around
 N : List Str
 s₀ : Shared
 H₀ : Hp
 env : Env
 outer : List Env
 stack : List Env
 ex : List Addr
 fn : Str -> Bool
 calm : Bool
 pn : List (Addr × Obj)
 xe : Value -> Shared -> Prop
def frs (l : List Env) : List Addr := l.filterMap (·.frame)
abbrev Cx.fs (X : Cx) : List Addr := frs X.outer
def Vis (sc : Scope) (x : Str) : Prop := sc.names.lookup x = some .local \/ sc.names.lookup x = some .cell \/ sc.names.lookup x = some .free
def Loc (sc : Scope) (x : Str) : Prop := sc.names.lookup x = some .local \/ sc.names.lookup x = some .cell
def Look (env : Env) (h : Heap) (m : Str -> Option Value) (x : Str) (u : Value) : Prop :=
 (env.kindOf x = some .local /\ m x = some u) \/ ((env.kindOf x = some .cell \/ env.kindOf x = some .free) /\ ∃ c, env.cells.lookup x = some c /\ h.IsCell c (some u))
structure Cx.Ok (X : Cx) : Prop where
 mod : Mod X.K X.mg X.base
 kind : X.env.scope.kind = .function
 glob : X.env.globals = mainGlobals
 blt : X.env.builtins = builtinsNs
 above : X.s₀.heap.objs.size <= X.env.locals
 inj : ∀ x y c, X.env.cells.lookup x = some c -> X.env.cells.lookup y = some c -> x = y
 has : ∀ x, (X.env.kindOf x = some .cell \/ X.env.kindOf x = some .free) -> ∃ c, X.env.cells.lookup x = some c
 cab : ∀ x c, X.fn x = true -> X.env.cells.lookup x = some c -> X.s₀.heap.objs.size <= c
 hd : X.calm = true -> X.A.handled = none
 frames : X.A.frames = some X.stack
 stk : X.stack = X.outer \/ (X.stack = X.env :: X.outer /\ X.env.frame = some X.env.locals)
 exf : ∀ b ∈ X.ex, b ≠ X.env.locals /\ ∀ x c, X.env.cells.lookup x = some c -> c ≠ b
 bs : ∀ b o, X.base.get? b = some o -> X.s₀.heap.get? b = some o /\ X.H₀ b = none
 bsz : X.base.objs.size <= X.s₀.heap.objs.size
 noex : ∀ b o, X.base.get? b = some o -> b ∉ X.ex
 exfs : ∀ b ∈ X.ex, b ∉ X.fs
 funs : X.s₀.heap.FunFrames X.base X.outer
 frf : ∀ b ∈ X.fs, X.H₀ b = none
structure Inv (X : Cx) (pins : List (Addr × Obj)) (σ : List (Option V)) (H : Hp) (s : Shared) : Prop where
 ok : X.Ok
 os : s.os = X.s₀.os
 bare : AllBare s.gens
 base : Un X.fs X.ex X.H₀ H X.s₀.heap s.heap
 loc : ∃ m, s.heap.Ns X.env.locals m /\ ∀ (i : Nat) (x : Str) (v : V), X.N[i]? = some x -> σ[i]? = some (some v) -> Vis X.env.scope x -> ∃ u, RelV v u /\ Look X.env s.heap m x u
 cell : ∀ x c, X.env.cells.lookup x = some c -> ∃ v, s.heap.IsCell c v
 free : H X.env.locals = none
 freeC : ∀ x c, X.env.cells.lookup x = some c -> H c = none
 pin : ∀ p ∈ X.pn ++ pins, s.heap.get? p.1 = some p.2 /\ H p.1 = none /\ p.1 ≠ X.env.locals /\ p.1 ∉ X.fs /\ ∀ v, p.2.data ≠ .cell v
 hok : HOk X.prog X.w H s.heap
 len : σ.length = X.N.length
section
variable {X : Cx} {pins : List (Addr × Obj)} {σ : List (Option V)} {H H' : Hp} {s : Shared} {h' : Heap}
theorem Cx.Ok.nofr (ok : X.Ok) {b : Addr} {o : Obj} (e : X.base.get? b = some o) : b ∉ X.fs := fun hb => by
 have := (ok.funs.mem hb).1
 rw [e] at this; cases this
theorem Inv.bs (I : Inv X pins σ H s) : ∀ b o, X.base.get? b = some o -> s.heap.get? b = some o /\ H b = none := fun b o e =>
 ⟨I.base.keep b o (I.ok.bs b o e).1 (I.ok.bs b o e).2 (I.ok.nofr e) (I.ok.noex b o e), I.base.free b o (I.ok.bs b o e).1 (I.ok.bs b o e).2 (I.ok.noex b o e)⟩
theorem Inv.bk (I : Inv X pins σ H s) : ∀ b o, X.base.get? b = some o -> s.heap.get? b = some o := fun b o e => (I.bs b o e).1
theorem Inv.mod (I : Inv X pins σ H s) : Mod X.K X.mg X.base := I.ok.mod
theorem Inv.kIn (I : Inv X pins σ H s) : X.K.In s.heap := I.ok.mod.kin.keeps I.bk
theorem Inv.lt (I : Inv X pins σ H s) : X.env.locals < s.heap.objs.size := let ⟨_, hn, _⟩ := I.loc; hn.lt
theorem Inv.sz (I : Inv X pins σ H s) : X.s₀.heap.objs.size <= s.heap.objs.size := Nat.le_trans I.ok.above (Nat.le_of_lt I.lt)
theorem Inv.nofs (I : Inv X pins σ H s) {a : Addr} (h : s.heap.objs.size <= a) : a ∉ X.fs := fun hb => by
 obtain ⟨_, o, ho, _⟩ := I.ok.funs.mem hb
 exact absurd (Nat.lt_of_lt_of_le (Heap.lt_size ho) (Nat.le_trans I.sz h)) (Nat.lt_irrefl _)
theorem Inv.cne (I : Inv X pins σ H s) : ∀ x c, X.env.cells.lookup x = some c -> c ≠ X.env.locals := fun x c e z => by
 obtain ⟨v, o, ho, hd⟩ := I.cell x c e
 obtain ⟨m, ⟨o', es, ep, ho', hd', _⟩, _⟩ := I.loc
 rw [z, ho'] at ho; cases ho; rw [hd'] at hd; cases hd
theorem Inv.funs (I : Inv X pins σ H s) : s.heap.FunFrames X.base X.outer := by
 have all : ∀ (l : List Env), (∀ b ∈ frs l, b ∈ X.fs) -> X.s₀.heap.FunFrames X.base l -> s.heap.FunFrames X.base l := by
  intro l
  induction l with
  | nil => intro _ _; trivial
  | cons env r ih =>
   intro hs hl
   obtain ⟨hk, ⟨L, o, hf, hn, ho, hd⟩, hr⟩ := hl
   have hL : L ∈ X.fs := hs L (by unfold frs; rw [filterMap_cons, hf]; exact mem_cons_self)
   obtain ⟨sl, e⟩ := I.base.slot L o ho (I.ok.frf L hL) hL fun z => I.ok.exfs L z hL
   exact ⟨hk, ⟨L, _, hf, hn, e, hd⟩, ih (fun b hb => hs b (by unfold frs; rw [filterMap_cons, hf]; exact mem_cons_of_mem _ hb)) hr⟩
 exact all X.outer (fun _ hb => hb) I.ok.funs
theorem Inv.stack (I : Inv X pins σ H s) : s.heap.FunFrames X.base X.stack := by
 rcases I.ok.stk with e | ⟨e, hf⟩
 ·rw [e]; exact I.funs
 ·rw [e]
  obtain ⟨m, hn, _⟩ := I.loc
  refine .cons (by rw [I.ok.kind]; decide) hf hn ?_ I.funs
  exact Heap.get?_none_of_le (Nat.le_trans I.ok.bsz I.ok.above)
theorem Inv.stkSub (I : Inv X pins σ H s) : ∀ b ∈ frs X.stack, b ∈ X.env.locals :: X.fs := fun b hb => by
 rcases I.ok.stk with e | ⟨e, hf⟩
 ·rw [e] at hb; exact mem_cons_of_mem _ hb
 ·rw [e] at hb
  unfold frs at hb
  rw [filterMap_cons, hf] at hb
  exact hb
theorem Inv.stkFree (I : Inv X pins σ H s) : ∀ b ∈ frs X.stack, H b = none := fun b hb => by
 rcases List.mem_cons.mp (I.stkSub b hb) with e | hb
 ·rw [e]; exact I.free
 ·obtain ⟨_, o, ho, _⟩ := I.ok.funs.mem hb
  exact I.base.free b o ho (I.ok.frf b hb) fun z => I.ok.exfs b z hb
theorem Inv.step {g' : Array GenState} {t' : Nat} {d' : Drawn} {ch : List Addr} (I : Inv X pins σ H s)
  (hch : ∀ b ∈ ch, (b ∈ X.ex \/ X.s₀.heap.objs.size <= b) /\ b ≠ X.env.locals /\ (∀ x c, X.env.cells.lookup x = some c -> c ≠ b) /\ ∀ p ∈ X.pn ++ pins, p.1 ≠ b)
  (keep : ∀ b o, b ≠ X.env.locals -> b ∉ X.fs -> b ∉ ch -> s.heap.get? b = some o -> H b = none -> h'.get? b = some o)
  (slot : ∀ b o, b ≠ X.env.locals -> b ∈ X.fs -> b ∉ ch -> s.heap.get? b = some o -> H b = none -> ∃ sl, h'.get? b = some { o with slots := sl }) (free : ∀ b o, b ∉ ch -> s.heap.get? b = some o -> H b = none -> H' b = none)
  (there : ∀ b o, b ∉ ch -> s.heap.get? b = some o -> ∃ o', h'.get? b = some o')
  (tups : ∀ b xs, H b = some (.tup xs) -> H' b = some (.tup xs)) (frzs : ∀ b o u, H b = some (.frz o u) -> H' b = some (.frz o u)) (tbls : ∀ b ps, H b = some (.tbl ps) -> ∃ more, H' b = some (.tbl (ps ++ more)))
  (ns : ∀ m, s.heap.Ns X.env.locals m -> h'.Ns X.env.locals m) (hok : HOk X.prog X.w H' h') (hg : AllBare g') :
  Inv X pins σ H' { s with heap := h', gens := g', drawn := d', toks := t' } := by
 have neL : ∀ b o, X.s₀.heap.get? b = some o -> b ≠ X.env.locals := fun b o e => Nat.ne_of_lt (Nat.lt_of_lt_of_le (Heap.lt_size e) I.ok.above)
 have neC : ∀ b o, X.s₀.heap.get? b = some o -> b ∉ X.ex -> b ∉ ch := fun b o e hx hb => by
  rcases (hch b hb).1 with z | z
  ·exact hx z
  ·exact absurd (Nat.lt_of_lt_of_le (Heap.lt_size e) z) (Nat.lt_irrefl _)
 have cellK : ∀ x c, X.env.cells.lookup x = some c -> ∀ v, s.heap.IsCell c v -> h'.IsCell c v := fun x c e v hpat => by
  obtain ⟨o, ho, hd⟩ := hpat
  have nch : c ∉ ch := fun z => (hch c z).2.2.1 x c e rfl
  by_cases hc : c ∈ X.fs
  ·obtain ⟨sl, q⟩ := slot c o (I.cne x c e) hc nch ho (I.freeC x c e)
   exact ⟨_, q, hd⟩
  ·exact ⟨o, keep c o (I.cne x c e) hc nch ho (I.freeC x c e), hd⟩
 refine ⟨I.ok, I.os, hg, ⟨fun b o e n hb hx => ?_, fun b o e n hb hx => ?_, fun b o e n hx => ?_, fun b o e hx => ?_, fun b xs e => tups b xs (I.base.tups b xs e), fun b o xs e => frzs b o xs (I.base.frzs b o xs e), fun b ps e => ?_⟩, ?_, fun x c e => ?_, ?_, fun x c e => ?_, fun p hp => ?_, hok, I.len⟩
 ·exact keep b o (neL b o e) hb (neC b o e hx) (I.base.keep b o e n hb hx) (I.base.free b o e n hx)
 ·obtain ⟨sl, e1⟩ := I.base.slot b o e n hb hx
  obtain ⟨sl', e2⟩ := slot b _ (neL b o e) hb (neC b o e hx) e1 (I.base.free b o e n hx)
  exact ⟨sl', e2⟩
 ·obtain ⟨o', e1⟩ := I.base.there b o e hx
  exact free b o' (neC b o e hx) e1 (I.base.free b o e n hx)
 ·obtain ⟨o', e1⟩ := I.base.there b o e hx
  exact there b o' (neC b o e hx) e1
 ·obtain ⟨m1, e1⟩ := I.base.tbls b ps e
  obtain ⟨m2, e2⟩ := tbls b _ e1
  exact ⟨m1 ++ m2, by rw [e2, Array.append_assoc]⟩
 ·obtain ⟨m, hn, hl⟩ := I.loc
  refine ⟨m, ns m hn, fun i x v e1 e2 e3 => ?_⟩
  obtain ⟨u, r, l⟩ := hl i x v e1 e2 e3
  refine ⟨u, r, ?_⟩
  rcases l with l | ⟨k, c, e, z⟩
  ·exact .inl l
  ·exact .inr ⟨k, c, e, cellK x c e _ z⟩
 ·obtain ⟨v, z⟩ := I.cell x c e
  exact ⟨v, cellK x c e v z⟩
 ·obtain ⟨m, ⟨o, _, _, ho, _⟩, _⟩ := I.loc
  exact free _ o (fun z => (hch _ z).2.1 rfl) ho I.free
 ·obtain ⟨v, o, ho, hd⟩ := I.cell x c e
  exact free c o (fun z => (hch c z).2.2.1 x c e rfl) ho (I.freeC x c e)
 ·obtain ⟨e, n, ne, nf, d⟩ := I.pin p hp
  have nch : p.1 ∉ ch := fun z => (hch p.1 z).2.2.2 p hp rfl
  exact ⟨keep p.1 p.2 ne nf nch e n, free p.1 p.2 nch e n, ne, nf, d⟩
theorem Inv.un {t' : Nat} (I : Inv X pins σ H s) (u : Un X.fs [] H H' s.heap h') (hok : HOk X.prog X.w H' h') : Inv X pins σ H' { s with heap := h', toks := t' } := by
 obtain ⟨m, ⟨o, es, ep, ho, r⟩, _⟩ := id I.loc
 obtain ⟨sl, hL⟩ := u.any ho I.free (by simp)
 exact I.step (g' := s.gens) (d' := s.drawn) (ch := []) (fun _ z => nomatch z) (fun b o _ hb _ e n => u.keep b o e n hb (by simp)) (fun b o _ hb _ e n => u.slot b o e n hb (by simp)) (fun b o _ e n => u.free b o e n (by simp)) (fun b o _ e => u.there b o e (by simp)) u.tups u.frzs u.tbls (fun m' hm => by
  obtain ⟨o', es', ep', ho', r'⟩ := hm
  rw [ho] at ho'; cases ho'
  exact ⟨_, es', ep', hL, r'⟩) hok I.bare
theorem Inv.call {g' : Array GenState} {t' : Nat} {d' : Drawn} {ch : List Addr} (I : Inv X pins σ H s) (u : Un (frs X.stack) ch H H' s.heap h') (hok : HOk X.prog X.w H' h') (hg : AllBare g')
  (hch : ∀ b ∈ ch, (b ∈ X.ex \/ X.s₀.heap.objs.size <= b) /\ b ≠ X.env.locals /\ (∀ x c, X.env.cells.lookup x = some c -> c ≠ b) /\ ∀ p ∈ X.pn ++ pins, p.1 ≠ b) :
  Inv X pins σ H' { s with heap := h', gens := g', drawn := d', toks := t' } := by
 obtain ⟨m, ⟨o, es, ep, ho, r⟩, _⟩ := id I.loc
 obtain ⟨sl, hL⟩ := u.any ho I.free fun z => (hch _ z).2.1 rfl
 exact I.step (ch := ch) hch (fun b o hL hb hc e n => u.keep b o e n (fun z => (List.mem_cons.mp (I.stkSub b z)).elim hL hb) hc) (fun b o _ _ hc e n => u.any e n hc) (fun b o hc e n => u.free b o e n hc) (fun b o hc e => u.there b o e hc) u.tups u.frzs u.tbls (fun m' hm => by
  obtain ⟨o', es', ep', ho', r'⟩ := hm
  rw [ho] at ho'; cases ho'
  exact ⟨_, es', ep', hL, r'⟩) hok hg
theorem Inv.turned {t' : Nat} {it : Addr} (I : Inv X pins σ H s) (k : ∀ b o, b ≠ it -> s.heap.get? b = some o -> h'.get? b = some o) (hn : H it = none) (hL : it ≠ X.env.locals)
  (h1 : it ∈ X.ex \/ X.s₀.heap.objs.size <= it) (h2 : ∀ x c, X.env.cells.lookup x = some c -> c ≠ it) (h3 : ∀ p ∈ X.pn ++ pins, p.1 ≠ it) : Inv X pins σ H { s with heap := h', toks := t' } := by
 have nit : ∀ b u, H b = some u -> b ≠ it := fun b u e z => by rw [z, hn] at e; cases e
 refine I.step (g' := s.gens) (d' := s.drawn) (ch := [it]) (fun b hb => ?_) (fun b o _ _ hc e _ => k b o (fun z => hc (by simp [z])) e) (fun b o _ _ hc e _ => ⟨o.slots, k b o (fun z => hc (by simp [z])) e⟩) (fun _ _ _ _ n => n)
  (fun b o hc e => ⟨o, k b o (fun z => hc (by simp [z])) e⟩) (fun _ _ e => e) (fun _ _ _ e => e) (fun b ps e => ⟨#[], by rw [e]; simp⟩) (fun m hm => ?_) (fun b u e => ?_) I.bare
 ·have e : b = it := by simpa using hb
  subst e
  exact ⟨h1, hL, h2, h3⟩
 ·obtain ⟨o, es, ep, ho, r⟩ := hm
  exact ⟨o, es, ep, k _ o (Ne.symm hL) ho, r⟩
 ·refine (I.hok b u e).stay (fun c v hc q => k c v ?_ q) (fun _ q => q) fun _ _ q => q
  rcases hc with z | z
  ·rw [z]; exact nit b u e
  ·exact nit c _ z
theorem Inv.tok (I : Inv X pins σ H s) (t : Nat) : Inv X pins σ H { s with toks := t } := I.un (h' := s.heap) (t' := t) Un.refl I.hok
theorem Inv.kept {t' : Nat} (I : Inv X pins σ H s) (k : ∀ b u, s.heap.get? b = some u -> h'.get? b = some u) : Inv X pins σ H { s with heap := h', toks := t' } := I.un (Un.kept k) (I.hok.kept k)
theorem Inv.laid {a : Addr} {o : HO} {t' : Nat} (I : Inv X pins σ H s) (k : ∀ b u, s.heap.get? b = some u -> h'.get? b = some u) (hp : s.heap.objs.size <= a) (new : ObjOk X.prog X.w (upd H a o) h' a o) :
  Inv X pins σ (upd H a o) { s with heap := h', toks := t' } := I.un (Un.laid k hp (I.hok.fresh hp)) (I.hok.laid k hp new)
theorem Inv.write {x e : Addr} {o : HO} {t' : Nat} (I : Inv X pins σ H s) (mu : Mut (H x)) (he : e = x \/ H e = some (.own x)) (k : ∀ b u, b ≠ e -> s.heap.get? b = some u -> h'.get? b = some u) (heo : ∃ u, h'.get? e = some u)
  (new : ObjOk X.prog X.w (upd H x o) h' x o) : Inv X pins σ (upd H x o) { s with heap := h', toks := t' } := I.un (Un.write mu he k heo) (I.hok.write mu he k heo new)
theorem Inv.pins_of {pins' : List (Addr × Obj)} (I : Inv X pins σ H s) (h : ∀ p ∈ pins', s.heap.get? p.1 = some p.2 /\ H p.1 = none /\ p.1 ≠ X.env.locals /\ p.1 ∉ X.fs /\ ∀ v, p.2.data ≠ .cell v) : Inv X pins' σ H s :=
 ⟨I.ok, I.os, I.bare, I.base, I.loc, I.cell, I.free, I.freeC, fun p hp => (List.mem_append.mp hp).elim (fun z => I.pin p (mem_append_left _ z)) (h p), I.hok, I.len⟩
theorem A0 {N : List Str} (hN : N.Nodup) {i j : Nat} {x : Str} (a : N[i]? = some x) (b : N[j]? = some x) : i = j := by
 obtain ⟨h1, e1⟩ := List.getElem?_eq_some_iff.mp a
 obtain ⟨h2, e2⟩ := List.getElem?_eq_some_iff.mp b
 exact (getElem_inj hN).mp (e1.trans e2.symm)
theorem zx1 {M : Model} {A : Around} {E : Value -> Shared -> Prop} {i : Nat} {x : Str} {v : V} {u : Value} {Q : Unit -> Shared -> Prop} (I : Inv X pins σ H s) (hN : X.N.Nodup) (hi : X.N[i]? = some x) (hx : Loc X.env.scope x) (r : RelV v u)
  (h : ∀ s', Inv X pins (σ.set i (some v)) H s' -> (∃ a, Heap.SameBut a s.heap s'.heap /\ (a = X.env.locals \/ X.env.cells.lookup x = some a)) -> Q () s') (hf : X.fn x = true \/ X.env.scope.names.lookup x = some .local := by first | exact .inl rfl | exact .inr rfl | assumption) : wpAny M A (storeName X.env x u) Q E s := by
 obtain ⟨m, hn, hl⟩ := id I.loc
 have hcls : (X.env.scope.kind == .class || (X.env.scope.kind == .module && X.env.locals != X.env.globals)) = false := by rw [I.ok.kind]; rfl
 have hiσ : i < σ.length := by rw [I.len]; exact (List.getElem?_eq_some_iff.mp hi).1
 have cne := I.cne
 have tracked : ∀ {a : Addr} {h' : Heap}, (∃ o, s.heap.get? a = some o /\ H a = none) -> Heap.SameBut a s.heap h' -> HOk X.prog X.w H h' := fun {a h'} ha hs b ob e => by
  obtain ⟨_, _, hfree⟩ := ha
  refine (I.hok b ob e).stay (fun c w' hc q => (hs.2 c ?_).trans q) (fun _ q => q) fun _ _ q => q
  rintro rfl
  rcases hc with rfl | hc
  ·rw [hfree] at e; cases e
  ·rw [hfree] at hc; cases hc
 rcases hx with hk | hk
 ·refine wpAny_storeName_local hk hn (fun h' hn' hs => ?_) hcls
  obtain ⟨oL, _, _, hoL, _⟩ := id hn
  refine h _ ⟨I.ok, I.os, I.bare, ⟨fun b o e n hb hx => ?_, fun b o e n hb hx => ?_, I.base.free, fun b o e hx => ?_, I.base.tups, I.base.frzs, I.base.tbls⟩, ⟨_, hn', fun j y v' e1 e2 e3 => ?_⟩, fun y c e => ?_, I.free, I.freeC, fun p hp => ?_, tracked ⟨oL, hoL, I.free⟩ hs, by simpa using I.len⟩ ⟨_, hs, .inl rfl⟩
  ·exact (hs.2 b (Nat.ne_of_lt (Nat.lt_of_lt_of_le (Heap.lt_size e) I.ok.above))).trans (I.base.keep b o e n hb hx)
  ·obtain ⟨sl, e1⟩ := I.base.slot b o e n hb hx
   exact ⟨sl, (hs.2 b (Nat.ne_of_lt (Nat.lt_of_lt_of_le (Heap.lt_size e) I.ok.above))).trans e1⟩
  ·obtain ⟨o', e1⟩ := I.base.there b o e hx
   exact ⟨o', (hs.2 b (Nat.ne_of_lt (Nat.lt_of_lt_of_le (Heap.lt_size e) I.ok.above))).trans e1⟩
  ·by_cases hj : j = i
   ·subst hj
    rw [hi] at e1; cases e1
    rw [getElem?_set_self hiσ] at e2
    cases e2
    exact ⟨u, r, .inl ⟨hk, by simp⟩⟩
   ·rw [getElem?_set_ne (Ne.symm hj)] at e2
    obtain ⟨u', r', q⟩ := hl j y v' e1 e2 e3
    refine ⟨u', r', ?_⟩
    rcases q with ⟨k, e⟩ | ⟨k, c, e, z⟩
    ·refine .inl ⟨k, ?_⟩
     have : y ≠ x := fun e => hj (A0 hN e1 (e ▸ hi))
     simp [this, e]
    ·exact .inr ⟨k, c, e, z.sameBut hs (cne y c e)⟩
  ·obtain ⟨w', z⟩ := I.cell y c e
   exact ⟨w', z.sameBut hs (cne y c e)⟩
  ·obtain ⟨e, n, ne, nf, d⟩ := I.pin p hp
   exact ⟨(hs.2 p.1 ne).trans e, n, ne, nf, d⟩
 ·have hfn : X.fn x = true := by
   rcases hf with z | z
   ·exact z
   ·rw [z] at hk; cases hk
  obtain ⟨c, hc⟩ := I.ok.has x (.inl hk)
  obtain ⟨w', z⟩ := I.cell x c hc
  refine wpAny_storeName_cell I.ok.kind hk hc z (fun h' hc' hs => ?_)
  obtain ⟨oc, hoc, hocd⟩ := id z
  refine h { s with heap := h' } ⟨I.ok, I.os, I.bare, ⟨fun b o e n hb hx => ?_, fun b o e n hb hx => ?_, I.base.free, fun b o e hx => ?_, I.base.tups, I.base.frzs, I.base.tbls⟩, ⟨m, hn.sameBut hs (Ne.symm (cne x c hc)), fun j y v' e1 e2 e3 => ?_⟩, fun y c' e => ?_, I.free, I.freeC, fun p hp => ?_, tracked ⟨oc, hoc, I.freeC x c hc⟩ hs, by simpa using I.len⟩ ⟨c, hs, .inr hc⟩
  ·exact (hs.2 b (Nat.ne_of_lt (Nat.lt_of_lt_of_le (Heap.lt_size e) (I.ok.cab x c hfn hc)))).trans (I.base.keep b o e n hb hx)
  ·obtain ⟨sl, e1⟩ := I.base.slot b o e n hb hx
   exact ⟨sl, (hs.2 b (Nat.ne_of_lt (Nat.lt_of_lt_of_le (Heap.lt_size e) (I.ok.cab x c hfn hc)))).trans e1⟩
  ·obtain ⟨o', e1⟩ := I.base.there b o e hx
   exact ⟨o', (hs.2 b (Nat.ne_of_lt (Nat.lt_of_lt_of_le (Heap.lt_size e) (I.ok.cab x c hfn hc)))).trans e1⟩
  ·by_cases hj : j = i
   ·subst hj
    rw [hi] at e1; cases e1
    rw [getElem?_set_self hiσ] at e2
    cases e2
    exact ⟨u, r, .inr ⟨.inl hk, c, hc, hc'⟩⟩
   ·rw [getElem?_set_ne (Ne.symm hj)] at e2
    obtain ⟨u', r', q⟩ := hl j y v' e1 e2 e3
    refine ⟨u', r', ?_⟩
    rcases q with q | ⟨k, c', e, z'⟩
    ·exact .inl q
    ·refine .inr ⟨k, c', e, z'.sameBut hs ?_⟩
     rintro rfl
     exact hj (A0 hN e1 (I.ok.inj _ _ _ e hc ▸ hi))
  ·by_cases hcc : c' = c
   ·subst hcc; exact ⟨_, hc'⟩
   ·obtain ⟨w2, z2⟩ := I.cell y c' e
    exact ⟨w2, z2.sameBut hs hcc⟩
  ·obtain ⟨e, n, ne, nf, d⟩ := I.pin p hp
   refine ⟨(hs.2 p.1 ?_).trans e, n, ne, nf, d⟩
   intro q
   rw [q, hoc] at e
   have q' : oc = p.2 := Option.some.inj e
   exact d w' (by rw [<- q']; exact hocd)
theorem N9 {M : Model} {A : Around} {E : Value -> Shared -> Prop} {i : Nat} {x : Str} {v : V} {u : Value} {Q : Unit -> Shared -> Prop} (I : Inv X pins σ H s) (hN : X.N.Nodup) (hi : X.N[i]? = some x) (hx : Loc X.env.scope x) (r : RelV v u)
  (h : ∀ s', Inv X pins (σ.set i (some v)) H s' -> Q () s') (hf : X.fn x = true \/ X.env.scope.names.lookup x = some .local := by first | exact .inl rfl | exact .inr rfl | assumption) : wpAny M A (storeName X.env x u) Q E s :=
 zx1 I hN hi hx r (fun s' I' _ => h s' I') hf
theorem Inv.call' {s' : Shared} {ch : List Addr} (I : Inv X pins σ H s) (ho : s'.os = s.os) (u : Un (frs X.stack) ch H H' s.heap s'.heap) (hok : HOk X.prog X.w H' s'.heap) (hg : AllBare s'.gens)
  (hch : ∀ b ∈ ch, (b ∈ X.ex \/ X.s₀.heap.objs.size <= b) /\ b ≠ X.env.locals /\ (∀ x c, X.env.cells.lookup x = some c -> c ≠ b) /\ ∀ p ∈ X.pn ++ pins, p.1 ≠ b) : Inv X pins σ H' s' := by
 obtain ⟨h', g', d', t', o'⟩ := s'
 have e : o' = s.os := ho
 subst e
 exact I.call (g' := g') (t' := t') (d' := d') u hok hg hch
end
abbrev XK := Value -> Option Addr -> Hp -> Prop
abbrev St := List (Option V)
abbrev VK := V -> Hp -> Prop
abbrev TE := St -> Hp -> VK -> Prop
abbrev TT := St -> Hp -> (Bool -> Hp -> Prop) -> Prop
abbrev TA := St -> Hp -> (List V -> Hp -> Prop) -> Prop
structure Ends where
 nx : St -> Hp -> Prop
 rt : VK
 bk : St -> Hp -> Prop := fun _ _ => False
 ct : St -> Hp -> Prop := fun _ _ => False
abbrev TS := Ends -> St -> Hp -> Prop
def EP (X : Cx) (pins : List (Addr × Obj)) (σ : St) (Q : VK) (u : Value) (s' : Shared) : Prop := ∃ v H', Inv X pins σ H' s' /\ RelV v u /\ Q v H'
def TP (X : Cx) (pins : List (Addr × Obj)) (σ : St) (Q : Bool -> Hp -> Prop) (b : Bool) (s' : Shared) : Prop := ∃ H', Inv X pins σ H' s' /\ Q b H'
def AP (X : Cx) (pins : List (Addr × Obj)) (σ : St) (Q : List V -> Hp -> Prop) (us : List Value) (s' : Shared) : Prop := ∃ vs H', Inv X pins σ H' s' /\ Vals vs us /\ Q vs H'
def SP (X : Cx) (pins : List (Addr × Obj)) (D : Ends) (f : Flow) (s' : Shared) : Prop :=
 match f with
 | .next => ∃ σ' H', Inv X pins σ' H' s' /\ D.nx σ' H'
 | .brk => ∃ σ' H', Inv X pins σ' H' s' /\ D.bk σ' H'
 | .cont => ∃ σ' H', Inv X pins σ' H' s' /\ D.ct σ' H'
 | .ret u => ∃ v σ' H', Inv X pins σ' H' s' /\ RelV v u /\ D.rt v H'
def PE (X : Cx) (e : Expr) (t : TE) : Prop :=
 ∀ (pins : List (Addr × Obj)) (s : Shared) (σ : St) (H : Hp) (Q : VK), Inv X pins σ H s -> t σ H Q -> wpAny (model X.prog X.w) X.A (eval e X.env) (EP X pins σ Q) X.xe s
def PT (X : Cx) (e : Expr) (t : TT) : Prop :=
 ∀ (pins : List (Addr × Obj)) (s : Shared) (σ : St) (H : Hp) (Q : Bool -> Hp -> Prop), Inv X pins σ H s -> t σ H Q -> wpAny (model X.prog X.w) X.A (isTrue e X.env (eval e X.env)) (TP X pins σ Q) X.xe s
def PW (X : Cx) (e : Expr) (t : TT) : Prop :=
 ∀ (whole : Sem Value) (pins : List (Addr × Obj)) (s : Shared) (σ : St) (H : Hp) (Q : Bool -> Hp -> Prop), Inv X pins σ H s -> t σ H Q -> wpAny (model X.prog X.w) X.A (isTrue e X.env whole) (TP X pins σ Q) X.xe s
theorem PW.pt {X : Cx} {e : Expr} {t : TT} (h : PW X e t) : PT X e t := h _
def PA (X : Cx) (es : List Expr) (t : TA) : Prop :=
 ∀ (pos : Pos) (pins : List (Addr × Obj)) (s : Shared) (σ : St) (H : Hp) (Q : List V -> Hp -> Prop), Inv X pins σ H s -> t σ H Q -> wpAny (model X.prog X.w) X.A (spliced (backTo pos (starEach es X.env))) (AP X pins σ Q) X.xe s
def PS (X : Cx) (st : Stmt) (t : TS) : Prop :=
 ∀ (pins : List (Addr × Obj)) (s : Shared) (σ : St) (H : Hp) (D : Ends), Inv X pins σ H s -> t D σ H -> wpAny (model X.prog X.w) X.A (exec st X.env) (SP X pins D) X.xe s
def PSs (X : Cx) (st : List Stmt) (t : TS) : Prop :=
 ∀ (pins : List (Addr × Obj)) (s : Shared) (σ : St) (H : Hp) (D : Ends), Inv X pins σ H s -> t D σ H -> wpAny (model X.prog X.w) X.A (execs st X.env) (SP X pins D) X.xe s
theorem thn {α : Type} {t : Sem α} {Q Q' : α -> Shared -> Prop} {M : Model} {A : Around} {E : Value -> Shared -> Prop} {s : Shared} (h : wpAny M A t Q E s) (hQ : ∀ a s, Q a s -> Q' a s) : wpAny M A t Q' E s := wpAny_mono h hQ fun _ _ x => x
end
section
section
variable {X : Cx}
def tVar (i : Nat) : TE := fun σ H Q => ∃ v, σ[i]? = some (some v) /\ Q v H
def tC (v : V) : TE := fun _ H Q => Q v H
theorem yh6 {i : Nat} {x : Str} {pos : Pos} (hN : X.N[i]? = some x) (hv : Vis X.env.scope x) (hd : (x == ("__debug__" : Str)) = false := by decide) (hcd : (x == ("__classdict__" : Str)) = false := by decide) : PE X (.Name x pos) (tVar i) := by
 intro pins s σ H Q I h
 obtain ⟨v, e, h⟩ := h
 obtain ⟨m, hn, hl⟩ := I.loc
 obtain ⟨u, r, l⟩ := hl i x v hN e hv
 have fin : EP X pins σ Q u s := ⟨v, H, I, r, h⟩
 rcases l with ⟨hk, hm⟩ | ⟨hk, c, hc, hcell⟩
 ·exact wpAny_Name (wpAny_loadName_local I.ok.kind hk hn hm fin) hd
 ·rcases hk with hk | hk
  ·exact wpAny_Name (wpAny_loadName_cell I.ok.kind hk hc hcell fin) hd
  ·exact wpAny_Name (wpAny_loadName_free I.ok.kind hk hc hcell fin hcd) hd
theorem pe_int {i j pos} : PE X (.Constant (.int i) j pos) (tC (.int i)) := fun _ _ _ H _ I h => wpAny_Constant_int ⟨.int i, H, I.tok _, ⟨_, rfl⟩, h⟩
theorem pe_bl {b j pos} : PE X (.Constant (.bool b) j pos) (tC (.bl b)) := fun _ _ _ H _ I h => Constant_bool ⟨.bl b, H, I, rfl, h⟩
theorem pe_non {j pos} : PE X (.Constant .none j pos) (tC .non) := fun _ _ _ H _ I h => Constant_none ⟨.non, H, I, rfl, h⟩
theorem pe_str {x j pos} : PE X (.Constant (.str x) j pos) (tC (.str x)) := fun _ _ _ H _ I h => Calls.Constant_str ⟨.str x, H, I.tok _, ⟨_, rfl⟩, h⟩
def Gl (X : Cx) (x : Str) : Prop := X.env.kindOf x = some .globalImplicit
theorem P9 {E : Value -> Shared -> Prop} {pins : List (Addr × Obj)} {s : Shared} {σ : St} {H : Hp} {x : Str} {u : Value} {pos : Pos} {Q : Value -> Shared -> Prop} (I : Inv X pins σ H s) (hg : Gl X x) (hm : X.mg x = some u) (h : Q u s)
  (hd : (x == ("__debug__" : Str)) = false := by decide) : wpAny (model X.prog X.w) X.A (eval (.Name x pos) X.env) Q E s :=
 Calls.Name_function_global I.ok.kind hg (Calls.loadGlobal_global (by rw [I.ok.glob]; exact I.mod.glob.keeps I.bk) hm h) hd
theorem N2 {E : Value -> Shared -> Prop} {pins : List (Addr × Obj)} {s : Shared} {σ : St} {H : Hp} {x : Str} {u : Value} {pos : Pos} {Q : Value -> Shared -> Prop} (I : Inv X pins σ H s) (hg : Gl X x) (hm : X.mg x = none) (hv : bootBuiltins x = some u) (h : Q u s)
  (hn : x ≠ "__name__" := by decide) (hd : (x == ("__debug__" : Str)) = false := by decide) : wpAny (model X.prog X.w) X.A (eval (.Name x pos) X.env) Q E s := by
 obtain ⟨mb, h1, h2⟩ := I.mod.blt
 exact Calls.Name_function_global I.ok.kind hg (Calls.loadGlobal_builtin (by rw [I.ok.glob]; exact I.mod.glob.keeps I.bk) hm (by rw [I.ok.blt]; exact h1.keeps I.bk) ((h2 x hn).trans hv) h) hd
theorem yo0 {x : Str} {v : V} {u : Value} {pos : Pos} (hg : Gl X x) (hm : X.mg x = some u) (r : RelV v u) (hd : (x == ("__debug__" : Str)) = false := by decide) : PE X (.Name x pos) (tC v) :=
 fun _ _ _ H _ I h => P9 I hg hm ⟨v, H, I, r, h⟩ hd
theorem zf6 {x : Str} {v : V} {u : Value} {pos : Pos} (hg : Gl X x) (hm : X.mg x = none) (hv : bootBuiltins x = some u) (r : RelV v u) (hn : x ≠ "__name__" := by decide) (hd : (x == ("__debug__" : Str)) = false := by decide) : PE X (.Name x pos) (tC v) :=
 fun _ _ _ H _ I h => N2 I hg hm hv ⟨v, H, I, r, h⟩ hn hd
variable {a b : Expr} {ta tb : TE} {pos : Pos}
def tB (t : TE) : TT := fun σ H Q => t σ H fun x H1 => ∃ c, x = .bl c /\ Q c H1
variable {tA tB' : TT} {rest : List Expr}
def tAnd (t u : TT) : TT := fun σ H Q => t σ H fun c H1 => if c = true then u σ H1 Q else Q false H1
def tOr (t u : TT) : TT := fun σ H Q => t σ H fun c H1 => if c = true then Q true H1 else u σ H1 Q
def tNot (t : TT) : TT := fun σ H Q => t σ H fun c H1 => Q (!c) H1
theorem yq6 (ha : PT X a tA) : PW X (.BoolOp .And [a] pos) tA := by
 intro wh pins s σ H Q I h
 refine isTrue_and (thn (ha pins s σ H Q I h) fun c s1 e => ?_)
 cases c with
 | true => exact isTrue_and_nil e
 | false => exact e
theorem yi7 (ha : PT X a tA) : PW X (.BoolOp .Or [a] pos) tA := by
 intro wh pins s σ H Q I h
 refine isTrue_or (thn (ha pins s σ H Q I h) fun c s1 e => ?_)
 cases c with
 | false => exact isTrue_or_nil e
 | true => exact e
theorem yi8 (ha : PT X a tA) (hb : PW X (.BoolOp .And (b :: rest) pos) tB') : PW X (.BoolOp .And (a :: b :: rest) pos) (tAnd tA tB') := by
 intro wh pins s σ H Q I h
 refine isTrue_and (thn (ha pins s σ H _ I h) fun c s1 hpat => ?_)
 obtain ⟨H1, I1, q1⟩ := hpat
 cases c with
 | true => exact hb wh pins s1 σ H1 Q I1 q1
 | false => exact ⟨H1, I1, q1⟩
theorem xy1 (ha : PT X a tA) (hb : PW X (.BoolOp .Or (b :: rest) pos) tB') : PW X (.BoolOp .Or (a :: b :: rest) pos) (tOr tA tB') := by
 intro wh pins s σ H Q I h
 refine isTrue_or (thn (ha pins s σ H _ I h) fun c s1 hpat => ?_)
 obtain ⟨H1, I1, q1⟩ := hpat
 cases c with
 | true => exact ⟨H1, I1, q1⟩
 | false => exact hb wh pins s1 σ H1 Q I1 q1
theorem yh0 (ha : PT X a tA) : PT X (.UnaryOp .Not a pos) (tNot tA) := by
 intro pins s σ H Q I h
 exact isTrue_not (ha pins s σ H (fun c H1 => Q (!c) H1) I h)
def xz9 (ta tb : TE) : TE := fun σ H Q => ta σ H fun x H1 => ∃ c, x = .bl c /\ if c = true then tb σ H1 Q else Q (.bl false) H1
def xz6 (ta : TE) : TE := fun σ H Q => ta σ H fun x H1 => ∃ c, x = .bl c /\ Q (.bl (!c)) H1
theorem yt1 {op} {t : TE} (h : PE X a t) : PE X (.BoolOp op [a] pos) t := fun pins s σ H Q I hw => BoolOp_one (h pins s σ H Q I hw)
theorem yg3 (ha : PE X a ta) (hb : PE X (.BoolOp .And (b :: rest) pos) tb) : PE X (.BoolOp .And (a :: b :: rest) pos) (xz9 ta tb) := by
 intro pins s σ H Q I h
 refine BoolOp_and (thn (ha pins s σ H _ I h) fun v s1 hpat => ?_)
 obtain ⟨x, H1, I1, r1, q1⟩ := hpat
 obtain ⟨c, rfl, q1⟩ := q1
 cases r1
 refine wpAny_truthy_bool ?_
 cases c with
 | true => exact hb pins s1 σ H1 Q I1 q1
 | false => exact ⟨.bl false, H1, I1, rfl, q1⟩
theorem yg0 (ha : PE X a ta) : PE X (.UnaryOp .Not a pos) (xz6 ta) := by
 intro pins s σ H Q I h
 refine UnaryOp_ (thn (ha pins s σ H _ I h) fun v s1 hpat => ?_)
 obtain ⟨x, H1, I1, r1, q1⟩ := hpat
 obtain ⟨c, rfl, q1⟩ := q1
 cases r1
 exact not_of (wpAny_truthy_bool ⟨.bl (!c), H1, I1, rfl, q1⟩)
end
end
section
def SqL (K : W.Frag) (H : Hp) (a : Addr) (xs : List V) : Prop :=
 Rd H a (.lst xs) \/
  ∃ (o : Obj) (its : Array Value) (n : Nat), K.lookup a = some o /\ o.cls = .type "list" /\ o.dict = none /\ o.data = .seq its n /\ its.size <= sizeLine /\ Vals xs its.toList
def SqT (K : W.Frag) (H : Hp) (a : Addr) (xs : List V) : Prop :=
 Rd H a (.tup xs) \/
  ∃ (o : Obj) (its : Array Value) (n : Nat), K.lookup a = some o /\ o.cls = .type "tuple" /\ o.data = .seq its n /\ its.size <= sizeLine /\ Vals xs its.toList
def absV : Value -> Option V
 | .none => some .non
 | .bool b => some (.bl b)
 | .int i _ => some (.int i)
 | .str x _ => some (.str x)
 | .bytes b _ => some (.byt b)
 | .float b _ => some (.flt b)
 | .ref a => some (.ref a)
 | .type n => some (.ty n)
 | _ => none
theorem RelV.abs {x : V} {u : Value} (r : RelV x u) : absV u = some x := by
 cases x with
 | non => cases r; rfl
 | bl _ => cases r; rfl
 | int _ => obtain ⟨t, rfl⟩ := r; rfl
 | str _ => obtain ⟨t, rfl⟩ := r; rfl
 | byt _ => obtain ⟨t, rfl⟩ := r; rfl
 | flt _ => obtain ⟨t, rfl⟩ := r; rfl
 | ref _ => cases r; rfl
 | ty _ => cases r; rfl
theorem RelV.inj {x y : V} {u : Value} (r : RelV x u) (q : RelV y u) : x = y := Option.some.inj (r.abs.symm.trans q.abs)
theorem Vals.inj : ∀ {xs ys : List V} {us : List Value}, Vals xs us -> Vals ys us -> xs = ys
 | _, _, _, .nil, .nil => rfl
 | _, _, _, .cons r t, .cons r' t' => by rw [r.inj r', Vals.inj t t']
section
variable {X : Cx} {pins : List (Addr × Obj)} {σ : St} {H : Hp} {s : Shared} {a : Addr} {xs ys : List V}
theorem SqL.of {K : W.Frag} (h : H a = some (.lst xs)) : SqL K H a xs := .inl (.inl h)
theorem SqT.of {K : W.Frag} (h : H a = some (.tup xs)) : SqT K H a xs := .inl (.inl h)
theorem Inv.list (I : Inv X pins σ H s) (h : SqL X.K H a xs) : ∃ its : List Value, Vals xs its /\ PlainL s.heap a its.toArray /\ xs.length <= sizeLine := by
 rcases h with h | ⟨o, its, n, hk, hc, hd, hs, hz, r⟩
 ·obtain ⟨z, its, n, r, e⟩ := h.ok I.hok
  exact ⟨its, r, ⟨_, n, e, rfl, rfl, rfl⟩, z⟩
 ·refine ⟨its.toList, r, ⟨o, n, I.kIn a o hk, hc, hd, by simpa using hs⟩, ?_⟩
  have e := r.length
  simp only [Array.length_toList] at e
  omega
theorem Inv.tuple (I : Inv X pins σ H s) (h : SqT X.K H a xs) : ∃ its : List Value, Vals xs its /\ IsTup s.heap a its.toArray /\ xs.length <= sizeLine := by
 rcases h with h | ⟨o, its, n, hk, hc, hs, hz, r⟩
 ·obtain ⟨z, its, r, p⟩ := h.ok I.hok
  exact ⟨its, r, p, z⟩
 ·refine ⟨its.toList, r, ⟨o, I.kIn a o hk, hc, n, by simpa using hs⟩, ?_⟩
  have e := r.length
  simp only [Array.length_toList] at e
  omega
theorem Inv.list_inj (I : Inv X pins σ H s) (h : SqL X.K H a xs) (h' : SqL X.K H a ys) : xs = ys := by
 obtain ⟨its, r, ⟨o, n, e, _, _, d⟩, _⟩ := I.list h
 obtain ⟨its', r', ⟨o', n', e', _, _, d'⟩, _⟩ := I.list h'
 rw [e] at e'; cases e'
 rw [d] at d'
 injection d' with d1 _
 have : its = its' := by simpa using congrArg Array.toList d1
 subst this
 exact r.inj r'
theorem Inv.tuple_inj (I : Inv X pins σ H s) (h : SqT X.K H a xs) (h' : SqT X.K H a ys) : xs = ys := by
 obtain ⟨its, r, ⟨o, e, _, n, d⟩, _⟩ := I.tuple h
 obtain ⟨its', r', ⟨o', e', _, n', d'⟩, _⟩ := I.tuple h'
 rw [e] at e'; cases e'
 rw [d] at d'
 injection d' with d1 _
 have : its = its' := by simpa using congrArg Array.toList d1
 subst this
 exact r.inj r'
end
abbrev Cx.wish (X : Cx) (E : Value -> Shared -> Prop) : Cx := { X with xe := E }
abbrev Cx.nox (X : Cx) : Cx := X.wish fun _ _ => False
theorem Cx.Ok.wish {X : Cx} (ok : X.Ok) (E : Value -> Shared -> Prop) : (X.wish E).Ok :=
 ⟨ok.mod, ok.kind, ok.glob, ok.blt, ok.above, ok.inj, ok.has, ok.cab, ok.hd, ok.frames, ok.stk, ok.exf, ok.bs, ok.bsz, ok.noex, ok.exfs, ok.funs, ok.frf⟩
theorem Cx.Ok.unwish {X : Cx} {E : Value -> Shared -> Prop} (ok : (X.wish E).Ok) : X.Ok :=
 ⟨ok.mod, ok.kind, ok.glob, ok.blt, ok.above, ok.inj, ok.has, ok.cab, ok.hd, ok.frames, ok.stk, ok.exf, ok.bs, ok.bsz, ok.noex, ok.exfs, ok.funs, ok.frf⟩
section
variable {X : Cx} {pins : List (Addr × Obj)} {σ : St} {H : Hp} {s : Shared} {E : Value -> Shared -> Prop}
theorem Inv.wish (I : Inv X pins σ H s) (E : Value -> Shared -> Prop) : Inv (X.wish E) pins σ H s := ⟨I.ok.wish E, I.os, I.bare, I.base, I.loc, I.cell, I.free, I.freeC, I.pin, I.hok, I.len⟩
theorem Inv.unwish (I : Inv (X.wish E) pins σ H s) : Inv X pins σ H s := ⟨I.ok.unwish, I.os, I.bare, I.base, I.loc, I.cell, I.free, I.freeC, I.pin, I.hok, I.len⟩
theorem SP.unwish {D : Ends} {f : Flow} {s' : Shared} (h : SP (X.wish E) pins D f s') : SP X pins D f s' := by
 cases f with
 | next => obtain ⟨σ', H', I, q⟩ := h; exact ⟨σ', H', I.unwish, q⟩
 | brk => obtain ⟨σ', H', I, q⟩ := h; exact ⟨σ', H', I.unwish, q⟩
 | cont => obtain ⟨σ', H', I, q⟩ := h; exact ⟨σ', H', I.unwish, q⟩
 | ret u => obtain ⟨v, σ', H', I, r, q⟩ := h; exact ⟨v, σ', H', I.unwish, r, q⟩
theorem PSs.nox {st : List Stmt} {t : TS} (h : PSs X.nox st t) : PSs X st t := fun pins s σ H D I hw =>
 wpAny_mono (h pins s σ H D (I.wish _) hw) (fun _ _ q => q.unwish) fun _ _ z => False.elim z
end
section
variable {X : Cx} {st : Stmt} {rest : List Stmt} {t u : TS} {e : Expr} {te : TE} {pos : Pos}
def xz7 : TS := fun D σ H => D.nx σ H
def tSeq (t u : TS) : TS := fun D σ H => t { D with nx := u D } σ H
theorem pss_nil : PSs X [] xz7 := fun _ _ σ H _ I h => wpAny_execs_nil ⟨σ, H, I, h⟩
theorem M3 (h1 : PS X st t) (h2 : PSs X rest u) : PSs X (st :: rest) (tSeq t u) := by
 intro pins s σ H D I h
 refine wpAny_execs_cons (thn (h1 pins s σ H { D with nx := u D } I h) fun f s1 q => ?_)
 cases f with
 | next =>
  obtain ⟨σ', H', I', q⟩ := q
  exact h2 pins s1 σ' H' D I' q
 | ret v => exact q
 | brk => exact q
 | cont => exact q
theorem zs1 (h1 : PS X st t) : PSs X [st] t := by
 intro pins s σ H D I h
 refine wpAny_execs_cons (thn (h1 pins s σ H D I h) fun f s1 q => ?_)
 cases f with
 | next => exact wpAny_execs_nil q
 | ret v => exact q
 | brk => exact q
 | cont => exact q
theorem Inv.quiet {pins : List (Addr × Obj)} {σ : St} {H : Hp} {s : Shared} (I : Inv X pins σ H s) : interactive X.env = false := by simp [interactive, I.ok.kind]
def xz8 (te : TE) : TS := fun D σ H => te σ H fun _ H1 => D.nx σ H1
theorem B5 (he : PE X e te) (hs : swapsWith e none pos.line X.env = pure false := by rfl) : PS X (.Expr e pos) (xz8 te) := by
 intro pins s σ H D I h
 exact wpAny_Expr_any (thn (he pins s σ H _ I h) fun v s1 ⟨x, H1, I1, r1, q1⟩ => ⟨σ, H1, I1, q1⟩) I.quiet hs
def tRet (te : TE) : TS := fun D σ H => te σ H D.rt
theorem zp0 (he : PE X e te) : PS X (.Return (some e) pos) (tRet te) := by
 intro pins s σ H D I h
 exact wpAny_Return_some (thn (he pins s σ H _ I h) fun v s1 ⟨x, H1, I1, r1, q1⟩ => ⟨x, σ, H1, I1, r1, q1⟩)
def tIfS (c : TT) (t u : TS) : TS := fun D σ H => c σ H fun b H1 => if b = true then t D σ H1 else u D σ H1
theorem yp2 {c : Expr} {a b : List Stmt} {tc : TT} (hc : PT X c tc) (ha : PSs X a t) (hb : PSs X b u) : PS X (.If c a b pos) (tIfS tc t u) := by
 intro pins s σ H D I h
 refine wpAny_If (thn (hc pins s σ H _ I h) fun d s1 hpat => ?_)
 obtain ⟨H1, I1, q1⟩ := hpat
 cases d with
 | true => exact ha pins s1 σ H1 D I1 q1
 | false => exact hb pins s1 σ H1 D I1 q1
def yj6 : TS := fun _ _ _ => False
theorem ps_never : PS X st yj6 := fun _ _ _ _ _ _ h => h.elim
end
abbrev TG := V -> St -> Hp -> (St -> Hp -> Prop) -> Prop
abbrev TGs := List V -> St -> Hp -> (St -> Hp -> Prop) -> Prop
def PG (X : Cx) (target : Expr) (t : TG) : Prop :=
 ∀ (pins : List (Addr × Obj)) (s : Shared) (σ : St) (H : Hp) (v : V) (u : Value) (Q : St -> Hp -> Prop), Inv X pins σ H s -> RelV v u -> t v σ H Q ->
  wpAny (model X.prog X.w) X.A (assign target X.env u) (fun _ s' => ∃ σ' H', Inv X pins σ' H' s' /\ Q σ' H') X.xe s
def PGs (X : Cx) (ts : List Expr) (t : TGs) : Prop :=
 ∀ (pins : List (Addr × Obj)) (s : Shared) (σ : St) (H : Hp) (vs : List V) (us : List Value) (Q : St -> Hp -> Prop), Inv X pins σ H s -> Vals vs us -> t vs σ H Q ->
  wpAny (model X.prog X.w) X.A (assignInOrder ((assignEach ts X.env).map (·.2)) us) (fun _ s' => ∃ σ' H', Inv X pins σ' H' s' /\ Q σ' H') X.xe s
abbrev TSet := V -> V -> V -> Hp -> (Hp -> Prop) -> Prop
def PSet (X : Cx) (t : TSet) : Prop :=
 ∀ (pins : List (Addr × Obj)) (s : Shared) (σ : St) (H : Hp) (o i v : V) (ov iv u : Value) (Q : Hp -> Prop), Inv X pins σ H s -> RelV o ov -> RelV i iv -> RelV v u -> t o i v H Q ->
  wpAny (model X.prog X.w) X.A (setItem ov iv u) (fun _ s' => ∃ H', Inv X pins σ H' s' /\ Q H') X.xe s
abbrev TIp := V -> V -> Hp -> VK -> Prop
def PIp (X : Cx) (op : Operator) (t : TIp) : Prop :=
 ∀ (pins : List (Addr × Obj)) (s : Shared) (σ : St) (H : Hp) (x y : V) (v u : Value) (Q : VK), Inv X pins σ H s -> RelV x v -> RelV y u -> t x y H Q ->
  wpAny (model X.prog X.w) X.A (inplaceOp op v u) (EP X pins σ Q) X.xe s
section
variable {X : Cx} {pos : Pos}
def F8 (i : Nat) : TG := fun v σ H Q => Q (σ.set i (some v)) H
theorem u7 {i : Nat} {x : Str} (hN : X.N.Nodup) (hi : X.N[i]? = some x) (hx : Loc X.env.scope x) (hf : X.fn x = true \/ X.env.scope.names.lookup x = some .local := by first | exact .inl rfl | exact .inr rfl | assumption) : PG X (.Name x pos) (F8 i) := by
 intro pins s σ H v u Q I r h
 exact wpAny_assign_Name (N9 I hN hi hx r (fun s' I' => ⟨_, H, I', h⟩) hf)
def gNil : TGs := fun vs σ H Q => vs = [] /\ Q σ H
def yv7 (t : TG) (u : TGs) : TGs := fun vs σ H Q => ∃ v r, vs = v :: r /\ t v σ H fun σ' H' => u r σ' H' Q
theorem V0 : PGs X [] gNil := by
 intro pins s σ H vs us Q I r h
 obtain ⟨e, h⟩ := h
 subst e
 cases r
 exact assignInOrder_nil ⟨σ, H, I, h⟩
theorem l8 {e : Expr} {es : List Expr} {t : TG} {u : TGs} (h1 : PG X e t) (h2 : PGs X es u)
  (hs : (assignEach (e :: es) X.env).map (·.2) = assign e X.env :: (assignEach es X.env).map (·.2) := by rfl) : PGs X (e :: es) (yv7 t u) := by
 intro pins s σ H vs us Q I r h
 obtain ⟨v, vr, e1, h⟩ := h
 subst e1
 cases r with
 | cons r rr =>
  rw [hs]
  refine assignInOrder_cons (thn (h1 pins s σ H _ _ _ I r h) fun _ s1 hpat => ?_)
  obtain ⟨σ1, H1, I1, q1⟩ := hpat
  exact h2 pins s1 σ1 H1 _ _ Q I1 rr q1
def gTup (K : W.Frag) (n : Nat) (t : TGs) : TG := fun v σ H Q => ∃ a xs, v = .ref a /\ SqT K H a xs /\ xs.length = n /\ t xs σ H Q
theorem R6 {es : List Expr} {k : Nat} {t : TGs} {n : Nat} (hc : X.calm = true) (h : PGs X es t)
  (hn : (assignEach es X.env).length = n := by rfl) (hst : (assignEach es X.env).findIdx? (·.1) = none := by rfl) : PG X (.Tuple es k pos) (gTup X.K n t) := by
 intro pins s σ H v u Q I r hw
 obtain ⟨a, xs, e1, hq, hl, hw⟩ := hw
 subst e1
 cases r
 obtain ⟨its, rv, ht, hz⟩ := I.tuple hq
 refine assign_Tuple_tuple (I.ok.hd hc) ht (by simp [hn, <- hl, rv.length]) hst fun h' hx => ?_
 have I1 : Inv X pins σ H { s with heap := h' } := I.kept (t' := s.toks) fun b o e => hx b o (Nat.ne_of_lt (Heap.lt_size e)) e
 exact h pins _ σ H xs _ Q I1 (by simpa using rv) hw
def gSub (to ti : TE) (t : TSet) : TG := fun v σ H Q => to σ H fun o H1 => ti σ H1 fun i H2 => t o i v H2 fun H3 => Q σ H3
theorem O4 {o i : Expr} {to ti : TE} {t : TSet} (ho : PE X o to) (hi : PE X i ti) (hs : PSet X t)
  (ha : ∀ v, assign (.Subscript o i pos) X.env v = (do
   let ov ← holding [v] (eval o X.env)
   let iv ← holding [v, ov] (eval i X.env)
   standAt pos
   holding [v, ov, iv] (setItem ov iv v)
   release [v, ov, iv] []) := by intro _; rfl) : PG X (.Subscript o i pos) (gSub to ti t) := by
 intro pins s σ H v u Q I r h
 rw [ha]
 refine wpAny_bind (wpAny_holding (thn (ho pins s σ H _ I h) fun ov s1 hpat => ?_))
 obtain ⟨x, H1, I1, r1, q1⟩ := hpat
 refine wpAny_bind (wpAny_holding (thn (hi pins s1 σ H1 _ I1 q1) fun iv s2 hpat => ?_))
 obtain ⟨y, H2, I2, r2, q2⟩ := hpat
 refine wpAny_bind (wpAny_standAt (wpAny_bind (wpAny_holding (thn (hs pins s2 σ H2 x y v ov iv u _ I2 r1 r2 r q2) fun _ s3 hpat => ?_))))
 obtain ⟨H3, I3, q3⟩ := hpat
 exact wpAny_release ⟨σ, H3, I3, q3⟩
def tAsg (te : TE) (g : TG) : TS := fun D σ H => te σ H fun x H1 => g x σ H1 D.nx
theorem R5 {tg e : Expr} {te : TE} {g : TG} (he : PE X e te) (hg : PG X tg g) (hs : swapsWithSole [tg] e pos.line X.env = pure false := by rfl) (hw : swappedStores [tg] e X.env = pure none := by rfl)
  (h1 : (assignEach [tg] X.env).map (·.2) = [assign tg X.env] := by rfl) : PS X (.Assign [tg] e pos) (tAsg te g) := by
 intro pins s σ H D I h
 refine wpAny_Assign_stores (thn (he pins s σ H _ I h) fun v s1 hpat => ?_) hs hw
 obtain ⟨x, H1, I1, r1, q1⟩ := hpat
 rw [h1]
 exact thn (hg pins s1 σ H1 x v _ I1 r1 q1) fun _ s2 q => q
theorem yu8 {i : Nat} {x : Str} {e : Expr} {te : TE} {pos' : Pos} (hN : X.N.Nodup) (hi : X.N[i]? = some x) (hx : Loc X.env.scope x) (he : PE X e te) (hs : swapsWith e (some (.Name x pos')) pos.line X.env = pure false := by rfl) (hf : X.fn x = true \/ X.env.scope.names.lookup x = some .local := by first | exact .inl rfl | exact .inr rfl | assumption) :
  PS X (.Assign [.Name x pos'] e pos) (tAsg te (F8 i)) := by
 intro pins s σ H D I h
 refine wpAny_Assign_Name (thn (he pins s σ H _ I h) fun v s1 hpat => ?_) hs
 obtain ⟨y, H1, I1, r1, q1⟩ := hpat
 exact N9 I1 hN hi hx r1 (fun s2 I2 => ⟨_, H1, I2, q1⟩) hf
def tAug (i : Nat) (te : TE) (ti : TIp) : TS := fun D σ H => ∃ x, σ[i]? = some (some x) /\ te σ H fun y H1 => ti x y H1 fun z H2 => D.nx (σ.set i (some z)) H2
theorem yh2 {i : Nat} {x : Str} {e : Expr} {te : TE} {op : Operator} {ti : TIp} {pos' : Pos} (hN : X.N.Nodup) (hi : X.N[i]? = some x) (hx : Loc X.env.scope x) (he : PE X e te) (ho : PIp X op ti) (hf : X.fn x = true \/ X.env.scope.names.lookup x = some .local := by first | exact .inl rfl | exact .inr rfl | assumption) :
  PS X (.AugAssign (.Name x pos') op e pos) (tAug i te ti) := by
 intro pins s σ H D I h
 obtain ⟨v, e1, h⟩ := h
 obtain ⟨m, hn, hl⟩ := I.loc
 have vis : Vis X.env.scope x := by rcases hx with k | k; exact .inl k; exact .inr (.inl k)
 obtain ⟨u, r, l⟩ := hl i x v hi e1 vis
 refine wpAny_AugAssign_Name ?_
 have go : wpAny (model X.prog X.w) X.A (eval e X.env) (fun w s₂ => wpAny (model X.prog X.w) X.A (inplaceOp op u w) (fun r s₃ => wpAny (model X.prog X.w) X.A (storeName X.env x r) (fun _ => SP X pins D .next) X.xe s₃) X.xe s₂) X.xe s := by
  refine thn (he pins s σ H _ I h) fun w s1 hpat => ?_
  obtain ⟨y, H1, I1, r1, q1⟩ := hpat
  refine thn (ho pins s1 σ H1 v y u w _ I1 r r1 q1) fun z s2 hpat => ?_
  obtain ⟨zv, H2, I2, r2, q2⟩ := hpat
  exact N9 I2 hN hi hx r2 (fun s3 I3 => ⟨_, H2, I3, q2⟩) hf
 rcases l with ⟨hk, hm⟩ | ⟨hk, c, hc, hcell⟩
 ·exact wpAny_loadName_local I.ok.kind hk hn hm go
 ·rcases hk with hk | hk
  ·exact wpAny_loadName_cell I.ok.kind hk hc hcell go
  ·rcases hx with k | k
   ·have : X.env.scope.names.lookup x = some .free := hk
    rw [k] at this; cases this
   ·have : X.env.scope.names.lookup x = some .free := hk
    rw [k] at this; cases this
def ipI (f : Int -> Int -> Int) : TIp := fun x y H Q => ∃ i j, x = .int i /\ y = .int j /\ Q (.int (f i j)) H
theorem yb0 : PIp X .Add (ipI fun i j => i + j) := by
 intro pins s σ H x y v u Q I r1 r2 h
 obtain ⟨i, j, e1, e2, q⟩ := h
 subst e1; subst e2
 obtain ⟨t, rfl⟩ := r1
 obtain ⟨t', rfl⟩ := r2
 exact iadd_int ⟨.int _, H, I.tok _, ⟨_, rfl⟩, q⟩
end
section
variable {X : Cx} {pos : Pos}
def yj5 (c : TT) (tb : TS) : TS := fun D σ H => ∃ W : Nat -> St -> Hp -> Prop, (∃ m, W m σ H) /\ ∀ m σ H, W m σ H ->
 c σ H fun b H1 => if b = true then ∃ N : St -> Hp -> Prop, (∀ σ' H', N σ' H' -> ∃ m', m' < m /\ W m' σ' H') /\ tb { D with nx := N, ct := N, bk := D.nx } σ H1 else D.nx σ H1
theorem yy9 {c : Expr} {body : List Stmt} {tc : TT} {tb : TS} (hp : PassesOwn (model X.prog X.w) X.A X.env X.xe) (hc : PT X c tc) (hb : PSs X body tb) : PS X (.While c body [] pos) (yj5 tc tb) := by
 intro pins s σ H D I h
 obtain ⟨W, ⟨m0, w0⟩, turn⟩ := h
 refine wpAny_While (codeAny_whileLoop (fun n s' => ∃ σ' H', Inv X pins σ' H' s' /\ W n σ' H') ?_ m0 ⟨σ, H, I, w0⟩)
 rintro n s1 ⟨σ1, H1, I1, w1⟩
 refine wpAny_passesOwn hp (thn (hc pins s1 σ1 H1 _ I1 (turn n σ1 H1 w1)) fun b s2 hpat => ?_)
 obtain ⟨H2, I2, q2⟩ := hpat
 cases b with
 | true =>
  obtain ⟨N, hN, q2⟩ := q2
  rw [if_pos rfl]
  refine wpAny_passesOwn hp (thn (hb pins s2 σ1 H2 _ I2 q2) fun f s3 q3 => ?_)
  cases f with
  | next =>
   obtain ⟨σ3, H3, I3, n3⟩ := q3
   obtain ⟨m', hm, w3⟩ := hN σ3 H3 n3
   exact ⟨m', hm, σ3, H3, I3, w3⟩
  | cont =>
   obtain ⟨σ3, H3, I3, n3⟩ := q3
   obtain ⟨m', hm, w3⟩ := hN σ3 H3 n3
   exact ⟨m', hm, σ3, H3, I3, w3⟩
  | brk => exact q3
  | ret v => exact q3
 | false =>
  rw [if_neg Bool.false_ne_true]
  exact wpAny_execs_nil ⟨σ1, H2, I2, q2⟩
end
structure It where
 go : Nat -> Hp -> Prop
 yld : Nat -> Hp -> V -> Hp -> Prop
 stop : Nat -> Hp -> Prop
def FpOk (X : Cx) (pins : List (Addr × Obj)) (H : Hp) (b : Addr) : Prop :=
 H b = none /\ b ≠ X.env.locals /\ b ∉ X.fs /\ (b ∈ X.ex \/ X.s₀.heap.objs.size <= b) /\ (∀ x c, X.env.cells.lookup x = some c -> c ≠ b) /\ ∀ p ∈ X.pn ++ pins, p.1 ≠ b
theorem Inv.fpOk {X : Cx} {pins : List (Addr × Obj)} {σ : St} {H H' : Hp} {s : Shared} {b : Addr} (I : Inv X pins σ H s) (hb : s.heap.objs.size <= b) (hn : H' b = none) : FpOk X pins H' b := by
 refine ⟨hn, Nat.ne_of_gt (Nat.lt_of_lt_of_le I.lt hb), I.nofs hb, .inr (Nat.le_trans I.sz hb), fun x c e z => ?_, fun p hp z => ?_⟩
 ·obtain ⟨v, q⟩ := I.cell x c e
  exact absurd (Nat.lt_of_lt_of_le q.lt (by rw [z]; exact hb)) (Nat.lt_irrefl _)
 ·exact absurd (Nat.lt_of_lt_of_le (Heap.lt_size (I.pin p hp).1) (by rw [z]; exact hb)) (Nat.lt_irrefl _)
structure Turn (P : Program) (w : World) (K : W.Frag) (tg : Expr) (J : It) (fp : List Addr) (it : Addr) (tn : Nat -> Heap -> Prop) : Prop where
 mem : it ∈ fp
 obj : ∀ i h, tn i h -> ∀ b ∈ fp, ∃ o, h.get? b = some o /\ ∀ v, o.data ≠ .cell v
 keep : ∀ i h h', tn i h -> (∀ b ∈ fp, ∀ o, h.get? b = some o -> h'.get? b = some o) -> tn i h'
 item : ∀ (X : Cx), X.prog = P -> X.w = w -> X.K = K -> X.calm = true -> ∀ (i : Nat) (pins : List (Addr × Obj)) (s : Shared) (σ : St) (H : Hp) (E : Value -> Shared -> Prop), Inv X pins σ H s -> (∀ b ∈ fp, FpOk X pins H b) -> tn i s.heap -> J.go i H ->
  wpAny (model P w) X.A (pyNext (.ref it)) (fun r s1 => ∃ u, r = some u /\
   wpAny (model P w) X.A (letOwnedTupleGo tg (.ref it) u) (fun _ s2 => ∃ x H', Inv X pins σ H' s2 /\ RelV x u /\ J.yld i H x H' /\ tn (i + 1) s2.heap /\ ∀ b ∈ fp, H' b = none) E s1) E s
 done : ∀ (X : Cx), X.prog = P -> X.w = w -> X.K = K -> X.calm = true -> ∀ (i : Nat) (pins : List (Addr × Obj)) (s : Shared) (σ : St) (H : Hp) (E : Value -> Shared -> Prop), Inv X pins σ H s -> (∀ b ∈ fp, FpOk X pins H b) -> tn i s.heap -> J.stop i H ->
  wpAny (model P w) X.A (pyNext (.ref it)) (fun r s1 => r = none /\ Inv X pins σ H s1) E s
 self : ∀ (A : Around) (i : Nat) (s : Shared) (Q : Value -> Shared -> Prop) (E : Value -> Shared -> Prop), tn i s.heap -> Q (.ref it) s -> wpAny (model P w) A (pyIter (.ref it)) Q E s
abbrev TI := St -> Hp -> (It -> Hp -> Prop) -> Prop
def PIE (X : Cx) (pins : List (Addr × Obj)) (σ : St) (tg : Expr) (R : It -> Hp -> Prop) (itv : Value) (s2 : Shared) : Prop :=
 ∃ (it : Addr) (fp : List Addr) (tn : Nat -> Heap -> Prop) (J : It) (H' : Hp), itv = .ref it /\ Inv X pins σ H' s2 /\ Turn X.prog X.w X.K tg J fp it tn /\ tn 0 s2.heap /\ (∀ b ∈ fp, FpOk X pins H' b) /\ R J H'
def PI (X : Cx) (tg iter : Expr) (wi : TI) : Prop :=
 ∀ (pins : List (Addr × Obj)) (s : Shared) (σ : St) (H : Hp) (R : It -> Hp -> Prop), Inv X pins σ H s -> wi σ H R ->
  wpAny (model X.prog X.w) X.A (eval iter X.env) (fun v s1 => wpAny (model X.prog X.w) X.A (pyIter v) (PIE X pins σ tg R) X.xe s1) X.xe s
theorem yb2 {M : Model} {A : Around} {E : Value -> Shared -> Prop} {s : Shared} {tg : Expr} {it : Addr} {u : Value} {o : Obj} {n : String} {vs : Array Value} {Q : Unit -> Shared -> Prop} (ho : s.heap.get? it = some o) (hc : o.cls = .type n) (hd : o.data = .fields vs)
  (hn : ["enumerate", "zip", "dict_itemiterator", "dict_reverseitemiterator", "odict_iterator", "itertools.zip_longest", "itertools.pairwise"].contains n = false) (hQ : Q () s) : wpAny M A (letOwnedTupleGo tg (.ref it) u) Q E s := by
 unfold letOwnedTupleGo
 cases tg <;> first
  | exact wpAny_pure hQ
  | (cases u <;> first
    | exact wpAny_pure hQ
    | (refine wpAny_bind (wpAny_load ho ?_)
       rw [hc, hd]
       show wpAny M A (if (["enumerate", "zip", "dict_itemiterator", "dict_reverseitemiterator", "odict_iterator", "itertools.zip_longest", "itertools.pairwise"].contains n && vs[0]? == some (rawInt _)) = true then _ else _) Q E s
       rw [if_neg (by intro h; rw [hn, Bool.false_and] at h; cases h)]
       exact wpAny_pure hQ))
def Itl (K : W.Frag) (a : Addr) : It :=
 ⟨fun i H => ∃ xs x, SqL K H a xs /\ xs[i]? = some x, fun i H x H' => H' = H /\ ∀ xs, SqL K H a xs -> xs[i]? = some x, fun i H => ∃ xs, SqL K H a xs /\ xs.length <= i⟩
def Itr (lo : Int) (n : Nat) : It := ⟨fun i _ => i < n, fun i H x H' => H' = H /\ x = .int (lo + i), fun i _ => n <= i⟩
theorem zh1 {P : Program} {w : World} {K : W.Frag} {tg : Expr} (a it : Addr) : Turn P w K tg (Itl K a) [it] it (fun i h => h.IsListIter it a i) where
 mem := by simp
 obj := fun i h st b hb => by
  have e : b = it := by simpa using hb
  subst e
  obtain ⟨o, e, c, d⟩ := st
  exact ⟨o, e, fun v z => by rw [d] at z; cases z⟩
 keep := fun i h h' st k => st.at fun o e => k it (by simp) o e
 item := by
  intro X hP hw hK hc i pins s σ H E I hf st hg
  subst hP hw hK
  obtain ⟨xs, x, hq, hx⟩ := hg
  obtain ⟨its, rv, p, hz⟩ := I.list hq
  obtain ⟨u, hu, ru⟩ := rv.get hx
  obtain ⟨f0, f1, f2, f3, f4, f5⟩ := hf it (by simp)
  refine wpAny_pyNext_list_item st p.isList (x := u) (by simpa using hu) fun h' st' sb => ?_
  have I1 : Inv X pins σ H { s with heap := h' } := I.turned (t' := s.toks) (fun b o hb e => (sb.2 b hb).trans e) f0 f1 f3 f4 f5
  obtain ⟨o, e, c, d⟩ := id st'
  exact ⟨u, rfl, yb2 (s := { s with heap := h' }) e c d (by decide) ⟨x, H, I1, ru, ⟨rfl, fun ys hy => by rw [I.list_inj hy hq]; exact hx⟩, st', fun b hb => (hf b hb).1⟩⟩
 done := by
  intro X hP hw hK hc i pins s σ H E I hf st hg
  subst hP hw hK
  obtain ⟨xs, hq, hx⟩ := hg
  obtain ⟨its, rv, p, hz⟩ := I.list hq
  obtain ⟨f0, f1, f2, f3, f4, f5⟩ := hf it (by simp)
  have hl := rv.length
  exact wpAny_pyNext_list_end (I.ok.hd hc) st p.isList (by simp; omega) fun h' eb => ⟨rfl, I.turned (t' := s.toks) (fun b o hb e => eb b o hb e) f0 f1 f3 f4 f5⟩
 self := fun _ _ _ _ _ st h => wpAny_pyIter_listiter st h
theorem zn7 {P : Program} {w : World} {K : PySem.W.Frag} {tg : Expr} (it : Addr) (lo : Int) (n : Nat) : Turn P w K tg (Itr lo n) [it] it (fun i h => IsRangeIter h it (lo + (i : Nat) * 1) ((n : Int) - (i : Nat)) 1) where
 mem := by simp
 obj := fun i h st b hb => by
  have e : b = it := by simpa using hb
  subst e
  exact ⟨_, st, fun v z => by
   have z' : Data.fields _ = Data.cell v := z
   cases z'⟩
 keep := fun i h h' st k => k it (by simp) _ st
 item := by
  intro X hP hw hK hc i pins s σ H E I hf st hg
  subst hP hw hK
  obtain ⟨f0, f1, f2, f3, f4, f5⟩ := hf it (by simp)
  have W := Walks.range (prog := X.prog) (w := X.w) (I.ok.hd hc) it lo 1 n
  refine W.item i s _ _ hg st fun v h' tk hv st' kk => ?_
  obtain ⟨t, rfl⟩ := hv
  have I1 : Inv X pins σ H { s with heap := h', toks := tk } := I.turned (fun b o hb e => kk b o (by simpa using hb) e) f0 f1 f3 f4 f5
  refine ⟨_, rfl, yb2 (s := { s with heap := h', toks := tk }) (n := "range_iterator") st' rfl rfl (by decide) ⟨.int (lo + i), H, I1, ⟨t, ?_⟩, ⟨rfl, rfl⟩, st', fun b hb => (hf b hb).1⟩⟩
  rw [Int.mul_one]
 done := by
  intro X hP hw hK hc i pins s σ H E I hf st hg
  subst hP hw hK
  obtain ⟨f0, f1, f2, f3, f4, f5⟩ := hf it (by simp)
  exact wpAny_pyNext_range_end (I.ok.hd hc) st (by have : n <= i := hg; omega) fun h' eb => ⟨rfl, I.turned (t' := s.toks) (fun b o hb e => eb b o hb e) f0 f1 f3 f4 f5⟩
 self := fun _ _ _ _ _ st h => wpAny_pyIter_rangeiter st h
end
section
section
variable {X : Cx} {tg : Expr}
def xw0 (K : W.Frag) (tl : TE) : TI := fun σ H R => tl σ H fun x H1 => ∃ a, x = .ref a /\ (∃ xs, SqL K H1 a xs) /\ R (Itl K a) H1
theorem yp7 {l : Expr} {tl : TE} (hl : PE X l tl) : PI X tg l (xw0 X.K tl) := by
 intro pins s σ H R I h
 refine thn (hl pins s σ H _ I h) fun v s1 hpat => ?_
 obtain ⟨x, H1, I1, r1, q1⟩ := hpat
 obtain ⟨a, e, ⟨xs, hq⟩, q⟩ := q1
 subst e
 cases r1
 obtain ⟨its, rv, p, hz⟩ := I1.list hq
 refine wpAny_pyIter_list p.isList ?_
 refine ⟨s1.heap.objs.size, [s1.heap.objs.size], _, _, H1, rfl, I1.kept (t' := s1.toks) fun b o e => Heap.get?_push_of_some _ e, zh1 a _, ⟨_, Heap.get?_push_size _ rfl, rfl, rfl⟩, fun b hb => ?_, q⟩
 have e : b = s1.heap.objs.size := by simpa using hb
 subst e
 exact I1.fpOk (Nat.le_refl _) (I1.hok.fresh (Nat.le_refl _))
theorem zq9 {pins : List (Addr × Obj)} {σ : St} {H : Hp} {s : Shared} {R : It -> Hp -> Prop} {E : Value -> Shared -> Prop} {lo hi : Int} {t u v : Tok} {tk : Nat} (I : Inv X pins σ H s) (h1 : -(2 ^ 62) <= lo) (h2 : lo < 2 ^ 62) (h3 : -(2 ^ 62) <= hi) (h4 : hi < 2 ^ 62)
  (q : R (Itr lo (hi - lo).toNat) H) : wpAny (model X.prog X.w) X.A (pyIter (.ref s.heap.objs.size)) (PIE X pins σ tg R) E { s with heap := s.heap.push { cls := .type "range", data := .fields #[.int lo t, .int hi u, .int 1 v] }, toks := tk } := by
 refine wpAny_pyIter_range (IsRange.new ..) (small_one h1 h2 h3 h4) ?_
 have I1 : Inv X pins σ H { s with heap := s.heap.push { cls := .type "range", data := .fields #[.int lo t, .int hi u, .int 1 v] }, toks := tk } := I.kept fun b o e => Heap.get?_push_of_some _ e
 refine ⟨(s.heap.push { cls := .type "range", data := .fields #[.int lo t, .int hi u, .int 1 v] }).objs.size, [(s.heap.push { cls := .type "range", data := .fields #[.int lo t, .int hi u, .int 1 v] }).objs.size], _, _, H, rfl,
  I1.kept (t' := tk) fun b o e => Heap.get?_push_of_some _ e, zn7 _ lo (hi - lo).toNat, ?_, fun b hb => ?_, q⟩
 ·have e1 : lo + ((0 : Nat) : Int) * 1 = lo := by simp
  have e2 : (((hi - lo).toNat : Nat) : Int) - ((0 : Nat) : Int) = Builtin.Range.rangeSize lo hi 1 := by rw [rangeSize_one]; split <;> omega
  show IsRangeIter _ _ (lo + ((0 : Nat) : Int) * 1) ((((hi - lo).toNat : Nat) : Int) - ((0 : Nat) : Int)) 1
  rw [e1, e2]
  exact Heap.get?_push_size _ rfl
 ·have e : b = (s.heap.push { cls := .type "range", data := .fields #[.int lo t, .int hi u, .int 1 v] }).objs.size := by simpa using hb
  subst e
  exact I1.fpOk (Nat.le_refl _) (I1.hok.fresh (Nat.le_refl _))
def xx9 (ta : TA) : TI := fun σ H R => ta σ H fun vs H1 => ∃ j : Int, vs = [.int j] /\ -(2 ^ 62) <= j /\ j < 2 ^ 62 /\ R (Itr 0 j.toNat) H1
def xx8 (ta : TA) : TI := fun σ H R => ta σ H fun vs H1 => ∃ i j : Int, vs = [.int i, .int j] /\ (-(2 ^ 62) <= i /\ i < 2 ^ 62 /\ -(2 ^ 62) <= j /\ j < 2 ^ 62) /\ R (Itr i (j - i).toNat) H1
theorem zf3 {a : Expr} {ta : TA} {p pos : Pos} (hg : Gl X "range") (hm : X.mg "range" = none) (ha : PA X [a] ta) (hs : starEach [a] X.env = [(false, eval a X.env)] := by rfl) : PI X tg (.Call (.Name "range" p) [a] [] pos) (xx9 ta) := by
 intro pins s σ H R I h
 refine Call_ (N2 I hg hm boot_range (PyProof.Rows.callWith_type1 (thn (ha pos pins s σ H _ I h) fun us s1 hpat => ?_) hs rfl))
 obtain ⟨vs, H1, I1, r1, q1⟩ := hpat
 obtain ⟨j, e, q1, q2, q⟩ := q1
 subst e
 cases r1 with
 | cons r rr =>
  cases rr
  obtain ⟨t, rfl⟩ := r
  exact call_range_1 (zq9 I1 (by omega) (by omega) q1 q2 (by simpa using q))
theorem zf2 {a b : Expr} {ta : TA} {p pos : Pos} (hg : Gl X "range") (hm : X.mg "range" = none) (ha : PA X [a, b] ta) (hs : starEach [a, b] X.env = [(false, eval a X.env), (false, eval b X.env)] := by rfl) (hs2 : starEach [b] X.env = [(false, eval b X.env)] := by rfl) :
  PI X tg (.Call (.Name "range" p) [a, b] [] pos) (xx8 ta) := by
 intro pins s σ H R I h
 refine Call_ (N2 I hg hm boot_range (PyProof.Rows.callWith_type1 (thn (ha pos pins s σ H _ I h) fun us s1 hpat => ?_) (by rw [hs, hs2]) (by rw [hs2]; rfl)))
 obtain ⟨vs, H1, I1, r1, q1⟩ := hpat
 obtain ⟨i, j, e, ⟨q1, q2, q3, q4⟩, q⟩ := q1
 subst e
 cases r1 with
 | cons r rr =>
  cases rr with
  | cons r' rr =>
   cases rr
   obtain ⟨t, rfl⟩ := r
   obtain ⟨t', rfl⟩ := r'
   exact call_range_2 (zq9 I1 q1 q2 q3 q4 q)
def tFor (wi : TI) (g : TG) (tb : TS) : TS := fun D σ H => wi σ H fun J H1 => ∃ W : Nat -> Nat -> St -> Hp -> Prop, (∃ m, W 0 m σ H1) /\ ∀ i m σ H, W i m σ H ->
 (J.stop i H /\ D.nx σ H) \/ (J.go i H /\ ∃ N : St -> Hp -> Prop, (∀ σ' H', N σ' H' -> ∃ m', m' < m /\ W (i + 1) m' σ' H') /\ ∀ x H', J.yld i H x H' -> g x σ H' fun σ2 H2 => tb { D with nx := N, ct := N, bk := D.nx } σ2 H2)
def zw2 (fp : List Addr) (h : Heap) : List (Addr × Obj) := fp.filterMap fun b => (h.get? b).map fun o => (b, o)
theorem T4 {fp : List Addr} {h : Heap} {b : Addr} {o : Obj} (hb : b ∈ fp) (e : h.get? b = some o) : (b, o) ∈ zw2 fp h := List.mem_filterMap.mpr ⟨b, hb, by rw [e]; rfl⟩
theorem ze2 {fp : List Addr} {h : Heap} {p : Addr × Obj} (hp : p ∈ zw2 fp h) : p.1 ∈ fp /\ h.get? p.1 = some p.2 := by
 obtain ⟨b, hb, e⟩ := List.mem_filterMap.mp hp
 cases q : h.get? b with
 | none => rw [q] at e; cases e
 | some o =>
  rw [q] at e
  have e' : (b, o) = p := Option.some.inj e
  subst e'
  exact ⟨hb, q⟩
theorem Inv.pinned {pins : List (Addr × Obj)} {σ : St} {H : Hp} {s : Shared} {fp : List Addr} (I : Inv X pins σ H s) (hf : ∀ b ∈ fp, FpOk X pins H b) (ho : ∀ b ∈ fp, ∃ o, s.heap.get? b = some o /\ ∀ v, o.data ≠ .cell v) : Inv X (pins ++ zw2 fp s.heap) σ H s :=
 I.pins_of fun p hp => (List.mem_append.mp hp).elim (fun z => I.pin p (mem_append_right _ z)) fun z => by
  obtain ⟨hb, e⟩ := ze2 z
  obtain ⟨f0, f1, f2, _⟩ := hf p.1 hb
  obtain ⟨o, e', d⟩ := ho p.1 hb
  rw [e] at e'; cases e'
  exact ⟨e, f0, f1, f2, d⟩
theorem Inv.unpinned {pins pl : List (Addr × Obj)} {σ : St} {H : Hp} {s : Shared} (I : Inv X (pins ++ pl) σ H s) : Inv X pins σ H s := I.pins_of fun p hp => I.pin p (mem_append_right _ (mem_append_left _ hp))
theorem yu9 {iter : Expr} {body : List Stmt} {wi : TI} {g : TG} {tb : TS} {pos : Pos} (hp : PassesOwn (model X.prog X.w) X.A X.env X.xe) (hc : X.calm = true) (hi : PI X tg iter wi) (hg : PG X tg g) (hb : PSs X body tb)
  (hs : ∀ x, foldedSetIterable iter X.env x = pure x := by intro _; rfl) : PS X (.For tg iter body [] pos) (tFor wi g tb) := by
 intro pins s σ H D I h
 refine wpAny_For (thn (hi pins s σ H _ I h) fun v s1 h1 => thn h1 fun itv s2 h2 => ?_) hs
 obtain ⟨it, fp, tn, J, H2, e, I2, T, st2, f2, W, ⟨m0, w0⟩, turn⟩ := h2
 subst e
 have stat : ∀ {H' : Hp}, (∀ b ∈ fp, H' b = none) -> ∀ b ∈ fp, FpOk X pins H' b := fun hn b hb => ⟨hn b hb, (f2 b hb).2⟩
 refine codeAny_forLoop_any (fun n s' => ∃ i σ' H', Inv X pins σ' H' s' /\ tn i s'.heap /\ (∀ b ∈ fp, H' b = none) /\ W i n σ' H') ?_ m0 ⟨0, σ, H2, I2, st2, fun b hb => (f2 b hb).1, w0⟩
 rintro n s3 ⟨i, σ3, H3, I3, st3, fr3, w3⟩
 rcases turn i n σ3 H3 w3 with ⟨stop, qn⟩ | ⟨go, N, hN, step⟩
 ·refine wpAny_passesOwn hp (thn (T.done X rfl rfl rfl hc i pins s3 σ3 H3 X.xe I3 (stat fr3) st3 stop) fun r s4 ⟨hr, I4⟩ => ?_)
  subst hr
  exact wpAny_execs_nil ⟨σ3, H3, I4, qn⟩
 ·refine wpAny_passesOwn hp (thn (T.item X rfl rfl rfl hc i pins s3 σ3 H3 X.xe I3 (stat fr3) st3 go) fun r s4 ⟨u, hr, h4⟩ => ?_)
  subst hr
  refine wpAny_passesOwn hp (thn h4 fun _ s5 hpat => ?_)
  obtain ⟨x, H5, I5, r5, y5, st5, fr5⟩ := hpat
  have I5' := I5.pinned (stat fr5) (T.obj _ _ st5)
  refine wpAny_passesOwn hp (thn (hg _ s5 σ3 H5 x u _ I5' r5 (step x H5 y5)) fun _ s6 hpat => ?_)
  obtain ⟨σ6, H6, I6, q6⟩ := hpat
  refine wpAny_passesOwn hp (thn (hb _ s6 σ6 H6 _ I6 q6) fun f s7 q7 => ?_)
  have again : ∀ {σ7 : St} {H7 : Hp}, Inv X (pins ++ zw2 fp s5.heap) σ7 H7 s7 -> N σ7 H7 -> ∃ m, m < n /\ ∃ i σ' H', Inv X pins σ' H' s7 /\ tn i s7.heap /\ (∀ b ∈ fp, H' b = none) /\ W i m σ' H' := fun {σ7 H7} I7 n7 => by
   obtain ⟨m', hm, w7⟩ := hN σ7 H7 n7
   refine ⟨m', hm, i + 1, σ7, H7, I7.unpinned, T.keep _ _ _ st5 fun b hb o e => (I7.pin (b, o) (mem_append_right _ (mem_append_right _ (T4 hb e)))).1, fun b hb => ?_, w7⟩
   obtain ⟨o, e, d⟩ := T.obj _ _ st5 b hb
   exact (I7.pin (b, o) (mem_append_right _ (mem_append_right _ (T4 hb e)))).2.1
  cases f with
  | next => obtain ⟨σ7, H7, I7, n7⟩ := q7; exact again I7 n7
  | cont => obtain ⟨σ7, H7, I7, n7⟩ := q7; exact again I7 n7
  | brk => obtain ⟨σ7, H7, I7, q7⟩ := q7; exact ⟨σ7, H7, I7.unpinned, q7⟩
  | ret v => obtain ⟨x7, σ7, H7, I7, r7, q7⟩ := q7; exact ⟨x7, σ7, H7, I7.unpinned, r7, q7⟩
end
end
section
abbrev R2 := V -> V -> Hp -> VK -> Prop
def OpR (X : Cx) (f : Value -> Value -> Sem Value) (r : R2) : Prop :=
 ∀ (pins : List (Addr × Obj)) (s : Shared) (σ : St) (H : Hp) (x y : V) (v u : Value) (Q : VK), Inv X pins σ H s -> RelV x v -> RelV y u -> r x y H Q ->
  wpAny (model X.prog X.w) X.A (f v u) (EP X pins σ Q) X.xe s
def UnR (X : Cx) (f : Value -> Sem Value) (r : V -> Hp -> VK -> Prop) : Prop :=
 ∀ (pins : List (Addr × Obj)) (s : Shared) (σ : St) (H : Hp) (x : V) (v : Value) (Q : VK), Inv X pins σ H s -> RelV x v -> r x H Q ->
  wpAny (model X.prog X.w) X.A (f v) (EP X pins σ Q) X.xe s
def J7 (X : Cx) (f : Value) (r : List V -> Hp -> VK -> Prop) : Prop :=
 ∀ (pins : List (Addr × Obj)) (s : Shared) (σ : St) (H : Hp) (xs : List V) (us : List Value) (Q : VK), Inv X pins σ H s -> Vals xs us -> r xs H Q ->
  wpAny (model X.prog X.w) X.A (call f us) (EP X pins σ Q) X.xe s
def TruR (X : Cx) (r : V -> Hp -> (Bool -> Hp -> Prop) -> Prop) : Prop :=
 ∀ (pins : List (Addr × Obj)) (s : Shared) (σ : St) (H : Hp) (x : V) (v : Value) (Q : Bool -> Hp -> Prop), Inv X pins σ H s -> RelV x v -> r x H Q ->
  wpAny (model X.prog X.w) X.A (truthy v) (TP X pins σ Q) X.xe s
def tOp (r : R2) (ta tb : TE) : TE := fun σ H Q => ta σ H fun x H1 => tb σ H1 fun y H2 => r x y H2 Q
def tUn (r : V -> Hp -> VK -> Prop) (ta : TE) : TE := fun σ H Q => ta σ H fun x H1 => r x H1 Q
def rI (C : Int -> Int -> Prop) (g : Int -> Int -> V) : R2 := fun x y H Q => ∃ i j, x = .int i /\ y = .int j /\ C i j /\ Q (g i j) H
def rI0 (g : Int -> Int -> V) : R2 := fun x y H Q => ∃ i j, x = .int i /\ y = .int j /\ Q (g i j) H
def rU (g : Int -> V) : V -> Hp -> VK -> Prop := fun x H Q => ∃ i, x = .int i /\ Q (g i) H
section
variable {X : Cx} {a b c : Expr} {ta tb tc : TE} {pos : Pos}
theorem binT (ha : PE X a ta) (hb : PE X b tb) {pins : List (Addr × Obj)} {s : Shared} {σ : St} {H : Hp} {R : V -> V -> Hp -> Prop} (I : Inv X pins σ H s)
  (h : ta σ H fun x H1 => tb σ H1 fun y H2 => R x y H2) {Q : Value -> Shared -> Prop} {f : Value -> Value -> Sem Value}
  (hf : ∀ v u s2 x y H2, Inv X pins σ H2 s2 -> RelV x v -> RelV y u -> R x y H2 -> wpAny (model X.prog X.w) X.A (f v u) Q X.xe s2) :
  wpAny (model X.prog X.w) X.A (eval a X.env) (fun v s₁ => wpAny (model X.prog X.w) X.A (eval b X.env) (fun u s₂ => wpAny (model X.prog X.w) X.A (f v u) Q X.xe s₂) X.xe s₁) X.xe s := by
 refine thn (ha pins s σ H _ I h) fun v s1 hpat => ?_
 obtain ⟨x, H1, I1, r1, q1⟩ := hpat
 refine thn (hb pins s1 σ H1 _ I1 q1) fun u s2 hpat => ?_
 obtain ⟨y, H2, I2, r2, q2⟩ := hpat
 exact hf v u s2 x y H2 I2 r1 r2 q2
theorem yp9 {op : Operator} {r : R2} (ho : OpR X (binaryOp op) r) (ha : PE X a ta) (hb : PE X b tb) : PE X (.BinOp a op b pos) (tOp r ta tb) := by
 intro pins s σ H Q I h
 exact wpAny_BinOp (binT ha hb I h fun v u s2 x y H2 I2 rx ry q => ho pins s2 σ H2 x y v u Q I2 rx ry q)
theorem xy2 {op : UnaryOp} {r : V -> Hp -> VK -> Prop} (ho : UnR X (unaryOp op) r) (ha : PE X a ta) : PE X (.UnaryOp op a pos) (tUn r ta) := by
 intro pins s σ H Q I h
 exact UnaryOp_ (thn (ha pins s σ H _ I h) fun v s1 ⟨x, H1, I1, r1, q1⟩ => ho pins s1 σ H1 x v Q I1 r1 q1)
theorem opI {f : Value -> Value -> Sem Value} {C : Int -> Int -> Prop} {g : Int -> Int -> Int}
  (rule : ∀ (i j : Int) (t u : Tok) (s : Shared) (Q : Value -> Shared -> Prop) (E : Value -> Shared -> Prop), C i j -> Q (.int (g i j) s.toks) { s with toks := s.toks + 1 } -> wpAny (model X.prog X.w) X.A (f (.int i t) (.int j u)) Q E s) :
  OpR X f (rI C fun i j => .int (g i j)) := by
 intro pins s σ H x y v u Q I rx ry h
 obtain ⟨i, j, rfl, rfl, hc, q⟩ := h
 obtain ⟨t, rfl⟩ := rx
 obtain ⟨t', rfl⟩ := ry
 exact rule i j t t' s _ _ hc ⟨.int (g i j), H, I.tok _, ⟨_, rfl⟩, q⟩
theorem opI0 {f : Value -> Value -> Sem Value} {g : Int -> Int -> Int}
  (rule : ∀ (i j : Int) (t u : Tok) (s : Shared) (Q : Value -> Shared -> Prop) (E : Value -> Shared -> Prop), Q (.int (g i j) s.toks) { s with toks := s.toks + 1 } -> wpAny (model X.prog X.w) X.A (f (.int i t) (.int j u)) Q E s) :
  OpR X f (rI0 fun i j => .int (g i j)) := by
 intro pins s σ H x y v u Q I rx ry h
 obtain ⟨i, j, rfl, rfl, q⟩ := h
 obtain ⟨t, rfl⟩ := rx
 obtain ⟨t', rfl⟩ := ry
 exact rule i j t t' s _ _ ⟨.int (g i j), H, I.tok _, ⟨_, rfl⟩, q⟩
theorem opB0 {f : Value -> Value -> Sem Value} {g : Int -> Int -> Bool}
  (rule : ∀ (i j : Int) (t u : Tok) (s : Shared) (Q : Value -> Shared -> Prop) (E : Value -> Shared -> Prop), Q (.bool (g i j)) s -> wpAny (model X.prog X.w) X.A (f (.int i t) (.int j u)) Q E s) :
  OpR X f (rI0 fun i j => .bl (g i j)) := by
 intro pins s σ H x y v u Q I rx ry h
 obtain ⟨i, j, rfl, rfl, q⟩ := h
 obtain ⟨t, rfl⟩ := rx
 obtain ⟨t', rfl⟩ := ry
 exact rule i j t t' s _ _ ⟨.bl (g i j), H, I, rfl, q⟩
def CDiv (i j : Int) : Prop := 0 < j /\ j < 1073741824
def CPow (i j : Int) : Prop := 0 <= j /\ j <= 1000000 /\ i.natAbs < 2 ^ 64
def CMul (i j : Int) : Prop := (-(2 ^ 64) < i /\ i < 2 ^ 64) \/ (-(2 ^ 64) < j /\ j < 2 ^ 64)
theorem CMul.ok {i j : Int} (h : CMul i j) : IntMulOk i j := by
 rcases h with ⟨h1, h2⟩ | ⟨h1, h2⟩
 ·exact .of_left (intBits_le_64 h1 h2)
 ·exact .of_right (intBits_le_64 h1 h2)
theorem zn6 (k : Nat) : (0 : Int) <= 2 ^ k := by
 rw [two_pow_cast]
 exact Int.natCast_nonneg _
theorem yf8 : OpR X (binaryOp .Add) (rI0 fun i j => .int (i + j)) := opI0 fun _ _ _ _ _ _ _ q => add_int q
theorem yf0 : OpR X (binaryOp .Sub) (rI0 fun i j => .int (i - j)) := opI0 fun _ _ _ _ _ _ _ q => sub_int q
theorem yf5 : OpR X (binaryOp .Mult) (rI CMul fun i j => .int (i * j)) := opI fun _ _ _ _ _ _ _ hc q => mul_int q hc.ok
theorem yn4 : OpR X (binaryOp .FloorDiv) (rI CDiv fun i j => .int (i / j)) := opI fun i j _ _ _ _ _ hc q => by
 have h1 : (0 : Int) < j := hc.1
 have h2 : j < 1073741824 := hc.2
 exact floordiv_int (by omega) (by rw [Int.fdiv_eq_ediv_of_nonneg i (by omega)]; exact q) (.inl (PyProof.noPylong_small (by omega)))
theorem yf6 : OpR X (binaryOp .Mod) (rI (fun _ j => 0 < j) fun i j => .int (i % j)) := opI fun i j _ _ _ _ _ hc q => by
 have h1 : (0 : Int) < j := hc
 exact mod_int' (by omega) (by rw [Int.fmod_eq_emod_of_nonneg i (by omega)]; exact q)
theorem yf3 : OpR X (binaryOp .Pow) (rI CPow fun i j => .int (i ^ j.toNat)) := opI fun _ _ _ _ _ _ _ hc q => pow_int_small hc.1 hc.2.1 hc.2.2 q
theorem yf1 : OpR X (binaryOp .RShift) (rI (fun _ j => 0 <= j) fun i j => .int (i / 2 ^ j.toNat)) := opI fun i j _ _ _ _ _ hc q =>
 rshift_int hc (by rw [Int.fdiv_eq_ediv_of_nonneg i (zn6 _)]; exact q)
theorem yf7 : OpR X (binaryOp .BitAnd) (rI0 fun i j => .int (Builtin.bitAnd i j)) := opI0 fun _ _ _ _ _ _ _ q => and_int q
theorem unI {f : Value -> Sem Value} {g : Int -> Int}
  (rule : ∀ (i : Int) (t : Tok) (s : Shared) (Q : Value -> Shared -> Prop) (E : Value -> Shared -> Prop), Q (.int (g i) s.toks) { s with toks := s.toks + 1 } -> wpAny (model X.prog X.w) X.A (f (.int i t)) Q E s) :
  UnR X f (rU fun i => .int (g i)) := by
 intro pins s σ H x v Q I rx h
 obtain ⟨i, rfl, q⟩ := h
 obtain ⟨t, rfl⟩ := rx
 exact rule i t s _ _ ⟨.int (g i), H, I.tok _, ⟨_, rfl⟩, q⟩
theorem yj2 : UnR X (unaryOp .USub) (rU fun i => .int (-i)) := unI fun _ _ _ _ _ q => neg_int q
end
def scal : V -> V -> Bool
 | .non, .non => true | .non, .int _ => true | .int _, .non => true | .non, .bl _ => true | .bl _, .non => true | .non, .str _ => true | .str _, .non => true
 | .int _, .int _ => true | .bl _, .bl _ => true | .str _, .str _ => true | .byt _, .byt _ => true
 | .int _, .str _ => true | .str _, .int _ => true | .bl _, .str _ => true | .str _, .bl _ => true
 | _, _ => false
def rEq : R2 := fun x y H Q => scal x y = true /\ Q (.bl (decide (x = y))) H
def rNe : R2 := fun x y H Q => scal x y = true /\ Q (.bl (!decide (x = y))) H
theorem zr8 {i j : Int} : decide (V.int i = V.int j) = (i == j) := by
 rw [Bool.eq_iff_iff]
 simp
theorem zb3 {i j : Bool} : decide (V.bl i = V.bl j) = (i == j) := by
 rw [Bool.eq_iff_iff]
 simp
theorem zr7 {i j : Str} : decide (V.str i = V.str j) = (i == j) := by
 rw [Bool.eq_iff_iff]
 simp
theorem zb2 {i j : Array UInt8} : decide (V.byt i = V.byt j) = (i.toList == j.toList) := by
 rw [Bool.eq_iff_iff]
 cases i
 cases j
 simp
section
variable {X : Cx} {a b c : Expr} {ta tb tc : TE} {pos : Pos}
theorem j3 {pins : List (Addr × Obj)} {σ : St} {H : Hp} {s : Shared} {Q : VK} {k k' : Bool} (I : Inv X pins σ H s) (q : Q (.bl k) H) (e : k = k') : EP X pins σ Q (.bool k') s := by
 subst e
 exact ⟨.bl k, H, I, rfl, q⟩
theorem G6 : OpR X (compareOp .Eq) rEq := by
 intro pins s σ H x y v u Q I rx ry h
 obtain ⟨hs, q⟩ := h
 cases x with
 | non =>
  cases rx
  cases y with
  | non => cases ry; exact PySem.EqNone.eq_none_none (j3 I q (by simp))
  | bl j => cases ry; exact PySem.EqNone.eq_none_bool (j3 I q (by simp))
  | int j => obtain ⟨t', rfl⟩ := ry; exact PySem.EqNone.eq_none_int (j3 I q (by simp))
  | str j => obtain ⟨t', rfl⟩ := ry; exact PySem.EqNone.eq_none_str (j3 I q (by simp))
  | _ => exact absurd (show false = true from hs) Bool.false_ne_true
 | bl i =>
  cases rx
  cases y with
  | non => cases ry; exact PySem.EqNone.eq_bool_none (j3 I q (by simp))
  | bl j => cases ry; exact eq_bool (j3 I q zb3)
  | str j => obtain ⟨t', rfl⟩ := ry; exact PySem.EqMixed.eq_bool_str (j3 I q (by simp))
  | _ => exact absurd (show false = true from hs) Bool.false_ne_true
 | int i =>
  obtain ⟨t, rfl⟩ := rx
  cases y with
  | non => cases ry; exact PySem.EqNone.eq_int_none (j3 I q (by simp))
  | int j => obtain ⟨t', rfl⟩ := ry; exact eq_int (j3 I q zr8)
  | str j => obtain ⟨t', rfl⟩ := ry; exact PySem.EqMixed.eq_int_str (j3 I q (by simp))
  | _ => exact absurd (show false = true from hs) Bool.false_ne_true
 | str i =>
  obtain ⟨t, rfl⟩ := rx
  cases y with
  | non => cases ry; exact PySem.EqNone.eq_str_none (j3 I q (by simp))
  | bl j => cases ry; exact PySem.EqMixed.eq_str_bool (j3 I q (by simp))
  | int j => obtain ⟨t', rfl⟩ := ry; exact PySem.EqMixed.eq_str_int (j3 I q (by simp))
  | str j => obtain ⟨t', rfl⟩ := ry; exact eq_str (j3 I q zr7)
  | _ => exact absurd (show false = true from hs) Bool.false_ne_true
 | byt i =>
  obtain ⟨t, rfl⟩ := rx
  cases y with
  | byt j => obtain ⟨t', rfl⟩ := ry; exact W.eq_bytes (j3 I q zb2)
  | _ => exact absurd (show false = true from hs) Bool.false_ne_true
 | _ => cases y <;> exact absurd (show false = true from hs) Bool.false_ne_true
theorem yf4 : OpR X (compareOp .NotEq) rNe := by
 intro pins s σ H x y v u Q I rx ry h
 obtain ⟨hs, q⟩ := h
 cases x with
 | non =>
  cases rx
  cases y with
  | non => cases ry; exact PySem.EqNone.ne_none_none (j3 I q (by simp))
  | bl j => cases ry; exact PySem.EqNone.ne_none_bool (j3 I q (by simp))
  | int j => obtain ⟨t', rfl⟩ := ry; exact PySem.EqNone.ne_none_int (j3 I q (by simp))
  | str j => obtain ⟨t', rfl⟩ := ry; exact PySem.EqNone.ne_none_str (j3 I q (by simp))
  | _ => exact absurd (show false = true from hs) Bool.false_ne_true
 | bl i =>
  cases rx
  cases y with
  | non => cases ry; exact PySem.EqNone.ne_bool_none (j3 I q (by simp))
  | bl j => cases ry; exact ne_bool (j3 I q (congrArg not zb3))
  | str j => obtain ⟨t', rfl⟩ := ry; exact PySem.EqMixed.ne_bool_str (j3 I q (by simp))
  | _ => exact absurd (show false = true from hs) Bool.false_ne_true
 | int i =>
  obtain ⟨t, rfl⟩ := rx
  cases y with
  | non => cases ry; exact PySem.EqNone.ne_int_none (j3 I q (by simp))
  | int j => obtain ⟨t', rfl⟩ := ry; exact ne_int (j3 I q (congrArg not zr8))
  | str j => obtain ⟨t', rfl⟩ := ry; exact PySem.EqMixed.ne_int_str (j3 I q (by simp))
  | _ => exact absurd (show false = true from hs) Bool.false_ne_true
 | str i =>
  obtain ⟨t, rfl⟩ := rx
  cases y with
  | non => cases ry; exact PySem.EqNone.ne_str_none (j3 I q (by simp))
  | bl j => cases ry; exact PySem.EqMixed.ne_str_bool (j3 I q (by simp))
  | int j => obtain ⟨t', rfl⟩ := ry; exact PySem.EqMixed.ne_str_int (j3 I q (by simp))
  | str j => obtain ⟨t', rfl⟩ := ry; exact ne_str (j3 I q (congrArg not zr7))
  | _ => exact absurd (show false = true from hs) Bool.false_ne_true
 | byt i =>
  obtain ⟨t, rfl⟩ := rx
  cases y with
  | byt j => obtain ⟨t', rfl⟩ := ry; exact W.ne_bytes (j3 I q (congrArg not zb2))
  | _ => exact absurd (show false = true from hs) Bool.false_ne_true
 | _ => cases y <;> exact absurd (show false = true from hs) Bool.false_ne_true
theorem zw7 : OpR X (compareOp .Lt) (rI0 fun i j => .bl (decide (i < j))) := opB0 fun _ _ _ _ _ _ _ q => lt_int q
theorem xy4 : OpR X (compareOp .LtE) (rI0 fun i j => .bl (decide (i <= j))) := opB0 fun _ _ _ _ _ _ _ q => le_int q
theorem zw8 : OpR X (compareOp .Gt) (rI0 fun i j => .bl (decide (j < i))) := opB0 fun _ _ _ _ _ _ _ q => gt_int q
theorem zk1 : OpR X (compareOp .GtE) (rI0 fun i j => .bl (decide (j <= i))) := opB0 fun _ _ _ _ _ _ _ q => ge_int q
theorem OpR.or {f : Value -> Value -> Sem Value} {r r' : R2} (h : OpR X f r) (h' : OpR X f r') : OpR X f (fun x y H Q => r x y H Q \/ r' x y H Q) := by
 intro pins s σ H x y v u Q I rx ry q
 rcases q with q | q
 ·exact h pins s σ H x y v u Q I rx ry q
 ·exact h' pins s σ H x y v u Q I rx ry q
theorem u9 (b : Expr) {op : CmpOp} (h : op ≠ .In := by decide) (h2 : op ≠ .NotIn := by decide) : behindInMarks op b = false := by
 have e1 : (op == CmpOp.In) = false := by cases op <;> first | rfl | exact absurd rfl h
 have e2 : (op == CmpOp.NotIn) = false := by cases op <;> first | rfl | exact absurd rfl h2
 cases b <;> simp [behindInMarks, e1, e2]
theorem yo2 {op : CmpOp} {r : R2} (ho : OpR X (compareOp op) r) (ha : PE X a ta) (hb : PE X b tb) (hm : behindInMarks op b = false) : PE X (.Compare a [op] [b] pos) (tOp r ta tb) := by
 intro pins s σ H Q I h
 exact wpAny_Compare1 (binT ha hb I h fun v u s2 x y H2 I2 rx ry q => ho pins s2 σ H2 x y v u Q I2 rx ry q) hm
def xz4 (t : TE) : TT := fun σ H Q => t σ H fun x H' => ∃ k, x = .bl k /\ Q k H'
theorem zg4 {op : CmpOp} {r : R2} (ho : OpR X (compareOp op) r) (ha : PE X a ta) (hb : PE X b tb) (hm : behindInMarks op b = false) : PT X (.Compare a [op] [b] pos) (xz4 (tOp r ta tb)) := by
 intro pins s σ H Q I h
 refine wpAny_isTrue_Compare1 (thn (ha pins s σ H _ I h) fun v s1 ⟨x, H1, I1, r1, q1⟩ => thn (hb pins s1 σ H1 _ I1 q1) fun u s2 ⟨y, H2, I2, r2, q2⟩ =>
  thn (ho pins s2 σ H2 x y v u _ I2 r1 r2 q2) fun c s3 ⟨z, H3, I3, r3, k, e, q3⟩ => ?_) hm
 subst e
 cases r3
 exact wpAny_truthy_bool ⟨H3, I3, q3⟩
def TruV (K : W.Frag) (x : V) (H : Hp) (k : Bool) : Prop :=
 match x with
 | .non => k = false
 | .bl b => k = b
 | .int i => k = (i != 0)
 | .str y => y.length <= sizeLine /\ k = ((y.length : Int) != 0)
 | .byt y => y.size <= sizeLine /\ k = ((y.size : Int) != 0)
 | .ref p => (∃ xs, SqL K H p xs /\ k = !xs.isEmpty) \/ (∃ xs, SqT K H p xs /\ k = !xs.isEmpty) \/ ∃ kvs, H p = some (.dK kvs) /\ k = !kvs.isEmpty
 | _ => False
theorem zk8 {κ : Type} {kvs : List (κ × V)} {vs : List (κ × Value)} (r : KV kvs vs) : (!vs.isEmpty) = !kvs.isEmpty := by
 cases r <;> rfl
theorem D1 {xs : List V} {its : List Value} (r : Vals xs its) : (!its.toArray.isEmpty) = !xs.isEmpty := by
 cases r <;> simp
theorem zv5 : (sizeLine : Nat) < 2 ^ 63 := by rw [sizeLine_eq]; decide
theorem yu6 : TruR X (fun x H Q => ∃ k, TruV X.K x H k /\ Q k H) := by
 intro pins s σ H x v Q I rx h
 obtain ⟨k, e, q⟩ := h
 have hl := zv5
 have hs : sizeLine = 16777216 := sizeLine_eq
 cases x with
 | non =>
  cases rx
  have e' : k = false := e
  subst e'
  exact truthy_none ⟨H, I, q⟩
 | bl b =>
  cases rx
  have e' : k = b := e
  subst e'
  exact wpAny_truthy_bool ⟨H, I, q⟩
 | int i =>
  obtain ⟨t, rfl⟩ := rx
  have e' : k = (i != 0) := e
  subst e'
  exact PySem.P.truthy_int ⟨H, I, q⟩
 | str y =>
  obtain ⟨t, rfl⟩ := rx
  obtain ⟨hy, e'⟩ : y.length <= sizeLine /\ k = ((y.length : Int) != 0) := e
  subst e'
  exact PySem.P.truthy_str (by omega) ⟨H, I.tok _, q⟩
 | byt y =>
  obtain ⟨t, rfl⟩ := rx
  obtain ⟨hy, e'⟩ : y.size <= sizeLine /\ k = ((y.size : Int) != 0) := e
  subst e'
  exact W.truthy_bytes (by omega) ⟨H, I.tok _, q⟩
 | ref p =>
  cases rx
  have e' : (∃ xs, SqL X.K H p xs /\ k = !xs.isEmpty) \/ (∃ xs, SqT X.K H p xs /\ k = !xs.isEmpty) \/ ∃ kvs, H p = some (.dK kvs) /\ k = !kvs.isEmpty := e
  rcases e' with ⟨xs, hx, e'⟩ | ⟨xs, hx, e'⟩ | ⟨kvs, hx, e'⟩
  ·subst e'
   obtain ⟨its, r, pl, hz⟩ := I.list hx
   have hlen := r.length
   exact wpAny_truthy_list pl.isList (by simp only [size_toArray]; omega) ⟨H, I.tok _, by rw [D1 r]; exact q⟩
  ·subst e'
   obtain ⟨its, r, pl, hz⟩ := I.tuple hx
   have hlen := r.length
   exact truthy_tuple pl (by simp only [size_toArray]; omega) ⟨H, I.tok _, by rw [D1 r]; exact q⟩
  ·subst e'
   obtain ⟨hz, hS, vs, r, m⟩ : kvs.length <= sizeLine /\ (p == sysModules) = false /\ ∃ vs, KV kvs vs /\ s.heap.DictOf (zr1 X.prog X.w) p vs := I.hok p _ hx
   have hlen : kvs.length = vs.length := Paired.length r
   exact wpAny_truthy_dict hS m (by omega) ⟨H, I.tok _, by rw [zk8 r]; exact q⟩
 | _ => exact (show False from e).elim
theorem yy3 (ha : PE X a ta) (he : ∀ whole, isTrue a X.env whole = (do let v ← whole; standAt a.pos; holding [v] (truthy v))) :
  PT X a (fun σ H Q => ta σ H fun x H' => ∃ k, TruV X.K x H' k /\ Q k H') := by
 intro pins s σ H Q I h
 exact isTrue_plain (thn (ha pins s σ H _ I h) fun v s1 ⟨x, H1, I1, r1, q1⟩ => yu6 pins s1 σ H1 x v Q I1 r1 q1) (he _)
theorem zi7 {x : V} {us : List Value} (r : Vals [x] us) : ∃ u, us = [u] /\ RelV x u := by
 cases r with
 | cons r1 r2 => cases r2; exact ⟨_, rfl, r1⟩
theorem zi6 {x y : V} {us : List Value} (r : Vals [x, y] us) : ∃ u w', us = [u, w'] /\ RelV x u /\ RelV y w' := by
 cases r with
 | cons r1 r2 =>
  cases r2 with
  | cons r3 r4 => cases r4; exact ⟨_, _, rfl, r1, r3⟩
theorem yu3 : J7 X (.builtin "abs") (fun xs H Q => ∃ i, xs = [.int i] /\ Q (.int (if i < 0 then -i else i)) H) := by
 intro pins s σ H xs us Q I r h
 obtain ⟨i, rfl, q⟩ := h
 obtain ⟨u, rfl, t, rfl⟩ := zi7 r
 exact call_abs_int fun u tk => ⟨.int (if i < 0 then -i else i), H, I.tok _, ⟨_, rfl⟩, q⟩
theorem za4 (hc : X.calm = true) : J7 X (.builtin "max") (fun xs H Q => ∃ i j, xs = [.int i, .int j] /\ Q (.int (if j > i then j else i)) H) := by
 intro pins s σ H xs us Q I r h
 obtain ⟨i, j, rfl, q⟩ := h
 obtain ⟨u, w', rfl, ⟨t, rfl⟩, ⟨t', rfl⟩⟩ := zi6 r
 refine max_two_ints (I.ok.hd hc) fun h' tk k => ⟨_, H, I.kept k, ?_, q⟩
 by_cases hj : j > i
 ·rw [if_pos hj, if_pos hj]; exact ⟨_, rfl⟩
 ·rw [if_neg hj, if_neg hj]; exact ⟨_, rfl⟩
theorem za3 (hc : X.calm = true) : J7 X (.builtin "min") (fun xs H Q => ∃ i j, xs = [.int i, .int j] /\ Q (.int (if j < i then j else i)) H) := by
 intro pins s σ H xs us Q I r h
 obtain ⟨i, j, rfl, q⟩ := h
 obtain ⟨u, w', rfl, ⟨t, rfl⟩, ⟨t', rfl⟩⟩ := zi6 r
 refine min_two_ints (I.ok.hd hc) fun h' tk k => ⟨_, H, I.kept k, ?_, q⟩
 by_cases hj : j < i
 ·rw [if_pos hj, if_pos hj]; exact ⟨_, rfl⟩
 ·rw [if_neg hj, if_neg hj]; exact ⟨_, rfl⟩
theorem za5 : J7 X (.type "int") (fun xs H Q => (∃ i, xs = [.int i] /\ Q (.int i) H) \/ ∃ k, xs = [.bl k] /\ Q (.int (if k then 1 else 0)) H) := by
 intro pins s σ H xs us Q I r h
 rcases h with ⟨i, rfl, q⟩ | ⟨k, rfl, q⟩
 ·obtain ⟨u, rfl, t, rfl⟩ := zi7 r
  exact call_int_int ⟨.int i, H, I, ⟨_, rfl⟩, q⟩
 ·obtain ⟨u, rfl, r1⟩ := zi7 r
  cases r1
  exact call_int_bool ⟨.int (if k then 1 else 0), H, I.tok _, ⟨_, rfl⟩, q⟩
end
end
section
structure ObjM (h : Heap) (x dx C : Addr) (mA : Str -> Option Value) : Prop where
 obj : h.get? x = some (W.instObj C dx)
 ns : h.Ns1 dx mA
 ne : dx ≠ x
theorem zd8 {h : Heap} {dx : Addr} {mA : Str -> Option Value} (n : h.Ns1 dx mA) : ∃ od, h.get? dx = some od /\ ∀ name, W.lookIn name od = some (mA name) := by
 obtain ⟨o, es, ep, ho, hd, hk, _, hm⟩ := n
 refine ⟨o, ho, fun name => ?_⟩
 have e := hm name
 unfold nsFind findBy at e
 rw [<- Array.find?_toList] at e
 unfold W.lookIn
 rw [hd]
 dsimp only
 split
 ·rename_i y q
  rw [q] at e
  exact congrArg some e
 ·rename_i q
  rw [q] at e
  have a : es.toList.any (·.refKey) = false := by
   rw [any_eq_false]
   intro y hy
   obtain ⟨z, t, hkey⟩ := hk y (Array.mem_toList_iff.mp hy)
   simp [DictEntry.refKey, hkey]
  have a' : ¬ es.toList.any (·.refKey) = true := by rw [a]; exact Bool.false_ne_true
  rw [if_neg a']
  exact congrArg some e
theorem ObjM.look {h : Heap} {x dx C : Addr} {mA : Str -> Option Value} (I : ObjM h x dx C mA) : ∃ od, W.InstAt h x (W.instObj C dx) C (some od) /\ ∀ name, W.lookIn name od = some (mA name) :=
 let ⟨od, ho, hl⟩ := zd8 I.ns
 ⟨od, ⟨I.obj, rfl, rfl, ho⟩, hl⟩
section
variable {prog : Program} {w : World} {A : Around} {E : Value -> Shared -> Prop} {s : Shared} {K : W.Frag} {x dx C f : Addr} {mA : Str -> Option Value} {name : Str} {v : Value}
end
section
variable {P : Program} {w : World} {H H' : Hp} {h h' : Heap} {a C dx : Addr} {fs fs' : List (Str × V)}
theorem ym1 (hok : HOk P w H h) (e : H a = some (.ins C dx fs)) : ∃ mA, ObjM h a dx C mA /\ (∀ f, RelO (fs.lookup f) (mA f)) /\ PySem.Within mA (fs.map (·.1)) /\ fs.length <= 1000 /\ H dx = some (.own a) := by
 obtain ⟨d, z, ne, ob, mA, n, r, q⟩ := (show ObjOk P w H h a (.ins C dx fs) from hok a _ e)
 exact ⟨mA, ⟨ob, n, ne⟩, r, q, z, d⟩
end
structure Cls (K : W.Frag) (C : Addr) : Prop where
 pg : W.plainGet K C Str.empty = true
 hd : W.hasDictIn K C = true
 po : W.plainOver K C = true
 sa : W.findIn K (.ref C) "__setattr__" = some (some (.builtin "object.__setattr__"))
theorem Cls.get {K : W.Frag} {C : Addr} (c : Cls K C) (f : Str) : W.plainGet K C f = true := c.pg
structure Con (K : W.Frag) (C : Addr) (f : Str) (v : V) (u : Value) : Prop where
 at_ : W.findIn K (.ref C) f = some (some u)
 rel : RelV v u
 get : W.specialIn K u "__get__" = some none
 cp : W.copiedNames.contains f = false
structure Meth (K : W.Frag) (C : Addr) (m : Str) (f : Addr) : Prop where
 at_ : W.findIn K (.ref C) m = some (some (.ref f))
 fn : W.isFn K (.ref f) = true
 kp : W.keepIn K (.ref f) = true
section
variable {X : Cx} {pins : List (Addr × Obj)} {σ : St} {H : Hp} {s : Shared} {a C dx : Addr} {fs : List (Str × V)} {f : Str} {v : V} {A : Around} {E : Value -> Shared -> Prop}
end
section
variable {X : Cx} {o e value : Expr} {f : Str} {pos pos' tpos : Pos} {ta tv : TE}
end
section
variable {X : Cx} {pins : List (Addr × Obj)} {σ : St} {H : Hp} {s : Shared} {A : Around} {E : Value -> Shared -> Prop} {Q : Value -> Shared -> Prop} {c : Value} {b : Bool}
inductive TyOf (K : W.Frag) (H : Hp) : V -> Value -> Prop where
 | non : TyOf K H .non (.type "NoneType")
 | bl (x : Bool) : TyOf K H (.bl x) (.type "bool")
 | int (i : Int) : TyOf K H (.int i) (.type "int")
 | str (x : Str) : TyOf K H (.str x) (.type "str")
 | flt (x : UInt64) : TyOf K H (.flt x) (.type "float")
 | lst {a : Addr} {xs : List V} (e : H a = some (.lst xs)) : TyOf K H (.ref a) (.type "list")
 | frz {a : Addr} {o : Obj} {xs : List V} (e : H a = some (.frz o (.lst xs))) : TyOf K H (.ref a) (.type "list")
 | tup {a : Addr} {xs : List V} (e : H a = some (.tup xs)) : TyOf K H (.ref a) (.type "tuple")
 | dK {a : Addr} {kvs : List (Key × V)} (e : H a = some (.dK kvs)) : TyOf K H (.ref a) (.type "dict")
 | dT {a : Addr} {kvs : List (List Key × V)} (e : H a = some (.dT kvs)) : TyOf K H (.ref a) (.type "dict")
 | ins {a C dx : Addr} {fs : List (Str × V)} (e : H a = some (.ins C dx fs)) (cl : Cls K C) (ha : W.findIn K (.ref C) "__class__" = some (some (.builtin "object.__class__")))
   (hn : W.specialIn K (.builtin "object.__class__") "__get__" = some (some (.builtin "getset_descriptor.__get__"))) (htk : W.takesIn K (.builtin "object.__class__") = some true)
   (hm : W.mroIn K C (.type "object") = some true) : TyOf K H (.ref a) (.ref C)
theorem Q2 {x : V} {u t : Value} (I : Inv X pins σ H s) (rx : RelV x u) (ty : TyOf X.K H x t) (e : W.kitOne X.K t c = some b) (h : ∀ tk, Q (.bool b) { s with toks := tk }) :
  wpAny (model X.prog X.w) A (call (.builtin "isinstance") [u, c]) Q E s := by
 cases ty with
 | non => cases (show u = Value.none from rx); exact W.kia_one W.kitx_none I.kIn True.intro e (fun z => nomatch z) h
 | bl y => cases (show u = Value.bool y from rx); exact W.kia_one W.kitx_bool I.kIn True.intro e (fun z => nomatch z) h
 | int i => obtain ⟨t, q⟩ := (show ∃ t, u = Value.int i t from rx); cases q; exact W.kia_one W.kitx_int I.kIn True.intro e (fun z => nomatch z) h
 | str y => obtain ⟨t, q⟩ := (show ∃ t, u = Value.str y t from rx); cases q; exact W.kia_one W.kitx_str I.kIn True.intro e (fun z => nomatch z) h
 | flt y => obtain ⟨t, q⟩ := (show ∃ t, u = Value.float y t from rx); cases q; exact W.kia_one W.kitx_float I.kIn True.intro e (fun z => nomatch z) h
 | @lst a xs ea =>
  cases (show u = Value.ref a from rx)
  obtain ⟨_, _, n, _, h1⟩ := (show ObjOk X.prog X.w H s.heap a (.lst xs) from I.hok a _ ea)
  exact W.kia_one W.kitx_list I.kIn ⟨_, h1, rfl⟩ e (fun z => nomatch z) h
 | @frz a ob xs ea =>
  cases (show u = Value.ref a from rx)
  obtain ⟨_, _, _, n, _, h1⟩ := (show ObjOk X.prog X.w H s.heap a (.frz ob (.lst xs)) from I.hok a _ ea)
  exact W.kia_one W.kitx_list I.kIn ⟨_, h1, rfl⟩ e (fun z => nomatch z) h
 | @tup a xs ea =>
  cases (show u = Value.ref a from rx)
  obtain ⟨_, _, _, p⟩ := (show ObjOk X.prog X.w H s.heap a (.tup xs) from I.hok a _ ea)
  obtain ⟨o, h1, h2, _⟩ := p
  exact W.kia_one W.kitx_tuple I.kIn ⟨o, h1, h2⟩ e (fun z => nomatch z) h
 | @dK a kvs ea =>
  cases (show u = Value.ref a from rx)
  obtain ⟨_, _, vs, _, p⟩ := (show ObjOk X.prog X.w H s.heap a (.dK kvs) from I.hok a _ ea)
  obtain ⟨o, es, ep, h1, h2, _⟩ := p
  exact W.kia_one W.kitx_dict I.kIn ⟨o, h1, h2.1⟩ e (fun z => nomatch z) h
 | @dT a kvs ea =>
  cases (show u = Value.ref a from rx)
  obtain ⟨_, _, xs, _, o, es, ep, h1, h2, _⟩ := (show ObjOk X.prog X.w H s.heap a (.dT kvs) from I.hok a _ ea)
  exact W.kia_one W.kitx_dict I.kIn ⟨o, h1, h2.1⟩ e (fun z => nomatch z) h
 | @ins a C dx fs ea cl ha hn htk hm =>
  cases (show u = Value.ref a from rx)
  obtain ⟨mA, O, _⟩ := ym1 I.hok ea
  obtain ⟨od, J, _⟩ := O.look
  exact W.kia_one (W.kitx_own (cl.get _) cl.hd ha hn htk hm) I.kIn J e (fun z => nomatch z) h
end
end
section
structure Room (k : Nat) (A : Around) : Prop where
 hd : A.handled = none
 dp : A.depth + 3 * k + 5 < recursionLimit
 un : A.units + 16 * k + 200 < cLine
theorem Room.mono {j k : Nat} {A : Around} (r : Room k A) (h : j <= k) : Room j A := ⟨r.hd, by have := r.dp; omega, by have := r.un; omega⟩
theorem Room.deeper {k : Nat} {A : Around} (r : Room (k + 1) A) (env : Env) : Room k (A.deeper env) :=
 ⟨r.hd, by have := r.dp; show A.depth + 1 + 3 * k + 5 < _; omega, by have := r.un; show A.units + 3 + 16 * k + 200 < _; omega⟩
theorem Room.depth {k : Nat} {A : Around} (r : Room k A) : A.depth < recursionLimit := by have := r.dp; omega
theorem Room.units {k : Nat} {A : Around} (r : Room k A) : A.units + 64 < cLine := by have := r.un; omega
def tNil : TA := fun _ H Q => Q [] H
def yr6 (ta : TE) (tr : TA) : TA := fun σ H Q => ta σ H fun x H1 => tr σ H1 fun xs H2 => Q (x :: xs) H2
section
variable {X : Cx} {e : Expr} {es : List Expr} {te : TE} {t : TA} {pos : Pos}
theorem pa_nil : PA X [] tNil := fun _ _ _ _ H Q I h => Calls.spliced_nil ⟨[], H, I, .nil, h⟩
theorem X0 (ha : PE X e te) (hr : PA X es t) (hs : starEach (e :: es) X.env = (false, eval e X.env) :: starEach es X.env := by rfl) : PA X (e :: es) (yr6 te t) := by
 intro pos pins s σ H Q I h
 rw [hs]
 show wpAny _ _ (spliced ((false, eval e X.env) :: backTo pos (starEach es X.env))) _ _ s
 refine Calls.spliced_cons (thn (ha pins s σ H _ I h) fun u s1 hpat => ?_)
 obtain ⟨x, H1, I1, r1, q1⟩ := hpat
 exact thn (hr pos pins s1 σ H1 _ I1 q1) fun us s2 ⟨xs, H2, I2, r2, q2⟩ => ⟨x :: xs, H2, I2, .cons r1 r2, q2⟩
def tTup (t : TA) : TE := fun σ H Q => t σ H fun xs H1 => xs.length <= sizeLine /\ ∀ p, H1 p = none -> Q (.ref p) (upd H1 p (.tup xs))
def tLst (t : TA) : TE := fun σ H Q => t σ H fun xs H1 => xs.length <= sizeLine /\ ∀ p, H1 p = none -> Q (.ref p) (upd H1 p (.lst xs))
theorem yh7 {x1} (h : PA X es t) : PE X (.Tuple es x1 pos) (tTup t) := by
 intro pins s σ H Q I hq
 refine wpAny_Tuple_spliced (thn (h pos pins s σ H _ I hq) fun us s1 ⟨xs, H1, I1, r, z, q⟩ => ⟨by rw [<- r.length]; exact z, ?_⟩)
 have hf : H1 s1.heap.objs.size = none := I1.hok.fresh (Nat.le_refl _)
 refine ⟨.ref s1.heap.objs.size, upd H1 s1.heap.objs.size (.tup xs), I1.laid (t' := s1.toks) (fun b u e => Heap.get?_push_of_some _ e) (Nat.le_refl _) ?_, rfl, q _ hf⟩
 exact ⟨z, us, r, ⟨_, Heap.get?_push_size _ rfl, rfl, _, rfl⟩⟩
theorem yg1 (h : PA X es t) : PE X (.List es pos) (tLst t) := by
 intro pins s σ H Q I hq
 refine wpAny_List_spliced (thn (h pos pins s σ H _ I hq) fun us s1 ⟨xs, H1, I1, r, z, q⟩ => ⟨by rw [<- r.length]; exact z, ?_⟩)
 have hf : H1 s1.heap.objs.size = none := I1.hok.fresh (Nat.le_refl _)
 refine ⟨.ref s1.heap.objs.size, upd H1 s1.heap.objs.size (.lst xs), I1.laid (t' := s1.toks) (fun b u e => Heap.get?_push_of_some _ e) (Nat.le_refl _) ?_, rfl, q _ hf⟩
 exact ⟨z, us, 0, r, Heap.get?_push_size _ rfl⟩
end
abbrev Sp := List V -> Hp -> VK -> XK -> Prop
abbrev CXT := List Env -> Hp -> Shared -> XK -> Value -> Shared -> Prop
structure Env0 (P : Program) (w : World) (K : W.Frag) (mg : Str -> Option Value) (base : Heap) (A : Around) (outer : List Env) (s : Shared) (H : Hp) : Prop where
 frames : A.frames = some outer
 mod : Mod K mg base
 bs : ∀ b o, base.get? b = some o -> s.heap.get? b = some o /\ H b = none
 bsz : base.objs.size <= s.heap.objs.size
 funs : s.heap.FunFrames base outer
 frf : ∀ b ∈ frs outer, H b = none
 hok : HOk P w H s.heap
 bare : AllBare s.gens
def CE (outer : List Env) (P : Program) (w : World) (H : Hp) (s : Shared) (Q : VK) (u : Value) (s' : Shared) : Prop :=
 ∃ v H', s'.os = s.os /\ AllBare s'.gens /\ Un (frs outer) [] H H' s.heap s'.heap /\ HOk P w H' s'.heap /\ RelV v u /\ Q v H'
def CR (CX : CXT) (outer : List Env) (P : Program) (w : World) (H : Hp) (s : Shared) (Q : VK) (E : XK) (r : Result) (s' : Shared) : Prop :=
 match r with
 | .ok (.ret u) => CE outer P w H s Q u s'
 | .ok _ => False
 | .error e => CX outer H s E e s'
structure FnOk (P : Program) (w : World) (K : W.Frag) (mg : Str -> Option Value) (base : Heap) (CX : CXT) (k : Nat) (f : Addr) (fd : FuncData) (ps : List Str) (sp : Sp) : Prop where
 len : ∀ vs H Q E, sp vs H Q E -> vs.length = ps.length
 run : ∀ (A : Around) (outer : List Env) (s : Shared) (H : Hp) (args : Args) (us : List Value) (vs : List V) (Q : VK) (E : XK), Room k A -> Env0 P w K mg base A outer s H -> BindsTo s fd args (ps.zip us) -> Vals vs us -> sp vs H Q E ->
  codeAny (model P w) A (.call (.ref f) args) (CR CX outer P w H s Q E) s
theorem FnOk.mono {P : Program} {w : World} {K : W.Frag} {mg : Str -> Option Value} {base : Heap} {CX : CXT} {j k : Nat} {f : Addr} {fd : FuncData} {ps : List Str} {sp : Sp} (F : FnOk P w K mg base CX j f fd ps sp) (h : j <= k) :
  FnOk P w K mg base CX k f fd ps sp := ⟨F.len, fun A outer s H args us vs Q E hr => F.run A outer s H args us vs Q E (hr.mono h)⟩
theorem FnOk.imp {P : Program} {w : World} {K : W.Frag} {mg : Str -> Option Value} {base : Heap} {CX : CXT} {k : Nat} {f : Addr} {fd : FuncData} {ps : List Str} {sp sp' : Sp} (F : FnOk P w K mg base CX k f fd ps sp)
  (h : ∀ vs H Q E, sp' vs H Q E -> sp vs H Q E) : FnOk P w K mg base CX k f fd ps sp' :=
 ⟨fun vs H Q E q => F.len vs H Q E (h _ _ _ _ q), fun A outer s H args us vs Q E hr he hb hv hs => F.run A outer s H args us vs Q E hr he hb hv (h _ _ _ _ hs)⟩
section
variable {X : Cx} {pins : List (Addr × Obj)} {σ : St} {H : Hp} {s s' : Shared}
theorem Inv.env0 (I : Inv X pins σ H s) : Env0 X.prog X.w X.K X.mg X.base X.A X.stack s H :=
 ⟨I.ok.frames, I.ok.mod, I.bs, Nat.le_trans I.ok.bsz I.sz, I.stack, I.stkFree, I.hok, I.bare⟩
theorem Inv.after {Q : VK} {u : Value} (I : Inv X pins σ H s) (h : CE X.stack X.prog X.w H s Q u s') : EP X pins σ Q u s' := by
 obtain ⟨v, H', os, bare, un, hok, r, q⟩ := h
 obtain ⟨hh, g, d, t, os'⟩ := s'
 obtain rfl : os' = s.os := os
 exact ⟨v, H', I.call (h' := hh) (g' := g) (d' := d) (t' := t) (ch := []) un hok bare (fun b z => absurd z (by simp)), r, q⟩
end
def yy0 (sp : Sp) (dvs : List V) (E : XK) (t : TA) : TE := fun σ H Q => t σ H fun vs H1 => sp (vs ++ dvs) H1 Q E
def Binds (K : W.Frag) (fd : FuncData) (ps : List Str) (ds : List Value) : Prop :=
 ∀ (s : Shared) (us : List Value), K.In s.heap -> (us ++ ds).length = ps.length -> BindsTo s fd ⟨us, []⟩ (ps.zip (us ++ ds))
theorem Binds.all {K : W.Frag} {fd : FuncData} {ps : List Str} (h : ∀ us : List Value, us.length = ps.length -> bindArgs fd ⟨us, []⟩ = pure (ps.zip us)) : Binds K fd ps [] := fun s us _ hl => by
 rw [append_nil] at hl ⊢
 exact .of_eq (h us hl)
def zn4 (CX : CXT) (X : Cx) (E : XK) : Prop := ∀ (pins : List (Addr × Obj)) (σ : St) (H : Hp) (s : Shared) (e : Value) (s' : Shared), Inv X pins σ H s -> CX X.stack H s E e s' -> X.xe e s'
section
variable {X : Cx} {CX : CXT} {k : Nat} {f C : Addr} {fd : FuncData} {ps : List Str} {sp : Sp} {dvs : List V} {ds : List Value} {E : XK} {x m : Str} {p pos apos : Pos} {e o : Expr} {es : List Expr} {ta : TE} {t : TA}
theorem yi3 {pins : List (Addr × Obj)} {σ : St} {H : Hp} {s : Shared} {Q : VK} {us : List Value} {vs : List V} (F : FnOk X.prog X.w X.K X.mg X.base CX k f fd ps sp) (hr : Room k X.A) (hb : Binds X.K fd ps ds) (hd : Vals dvs ds) (hx : zn4 CX X E)
  (I : Inv X pins σ H s) (r : Vals vs us) (h : sp (vs ++ dvs) H Q E) : wpAny (model X.prog X.w) X.A (call (.ref f) us) (EP X pins σ Q) X.xe s := by
 have r2 : Vals (vs ++ dvs) (us ++ ds) := r.append hd
 have hl : (us ++ ds).length = ps.length := by rw [<- r2.length]; exact F.len _ _ _ _ h
 refine wpAny_call (codeAny_mono (F.run X.A X.stack s H ⟨us, []⟩ (us ++ ds) (vs ++ dvs) Q E hr I.env0 (hb s us I.kIn hl) r2 h) fun r s' hq => ?_)
 cases r with
 | error e => exact hx pins σ H s e s' I hq
 | ok fl =>
  cases fl with
  | ret u => exact I.after hq
  | next => exact False.elim hq
  | brk => exact False.elim hq
  | cont => exact False.elim hq
theorem v7 (F : FnOk X.prog X.w X.K X.mg X.base CX k f fd ps sp) (hr : Room k X.A) (hg : Gl X x) (hm : X.mg x = some (.ref f)) (hk : W.keepIn X.K (.ref f) = true) (hb : Binds X.K fd ps ds) (hd : Vals dvs ds) (hx : zn4 CX X E)
  (ha : PA X (e :: es) t) (hdb : (x == ("__debug__" : Str)) = false := by decide) (he : starEach (e :: es) X.env = (false, eval e X.env) :: starEach es X.env := by rfl) (hpl : (backTo pos (starEach es X.env)).any (·.1) = false := by rfl) :
  PE X (.Call (.Name x p) (e :: es) [] pos) (yy0 sp dvs E t) := by
 intro pins s σ H Q I h
 refine wpAny_Call_Name_kw (P9 I hg hm ?_ hdb)
 refine W.callWith_K (h₀ := X.base) I.ok.mod.kin hk (thn (ha pos pins s σ H _ I h) fun us s1 ⟨vs, H1, I1, r, q⟩ => ⟨I1.kIn, ?_⟩) he hpl
 exact yi3 F hr hb hd hx I1 r q
structure Mk (K : W.Frag) (C f : Addr) : Prop where
 makes : W.makesIn K C = true
 init : W.findIn K (.ref C) "__init__" = some (some (.ref f))
 fn : W.isFn K (.ref f) = true
 kp : W.keepIn K (.ref C) = true
end
section
variable {X : Cx} {CX : CXT} {k : Nat} {f C : Addr} {fd : FuncData} {ps ks : List Str} {sp : Sp} {E : XK} {x m : Str} {p pos apos kpos : Pos} {e o : Expr} {es : List Expr} {kws : List Keyword} {te ta : TE} {t tk : TA} {nm : Option Str}
structure KBinds (K : W.Frag) (fd : FuncData) (ps ks : List Str) (g : List Value -> List Value -> List Value) (gV : List V -> List V -> List V) : Prop where
 to : ∀ (s : Shared) (us ws : List Value), K.In s.heap -> (g us ws).length = ps.length -> BindsTo s fd ⟨us, ks.zip ws⟩ (ps.zip (g us ws))
 rel : ∀ {vs : List V} {us : List Value} {zs : List V} {ws : List Value}, Vals vs us -> Vals zs ws -> Vals (gV vs zs) (g us ws)
variable {g : List Value -> List Value -> List Value} {gV : List V -> List V -> List V}
end
structure FnScope (N P : List Str) (sc : Scope) : Prop where
 kind : sc.kind = .function
 co : sc.isCoroutine = false
 gen : sc.isGenerator = false
 nd : N.Nodup
 pre : N.take P.length = P
 par : ∀ x ∈ P, sc.names.lookup x = some .local \/ sc.names.lookup x = some .cell
 nofree : ∀ y ∈ sc.names, y.2 ≠ .free
theorem zt2 {kindOf : Str -> Option NameKind} {x : Str} : ∀ {binds : List (Str × Value)} {m : Str -> Option Value}, (∀ v, (x, v) ∉ binds) -> bindL kindOf binds m x = m x
 | [], _, _ => rfl
 | (n, v) :: r, m, h => by
  unfold bindL
  rw [zt2 fun w hw => h w (mem_cons_of_mem _ hw)]
  split
  ·have : x ≠ n := by rintro rfl; exact h v mem_cons_self
   simp [this]
  ·rfl
theorem zt4 {kindOf : Str -> Option NameKind} {x : Str} : ∀ {binds : List (Str × Value)} {m : Str -> Option Value}, (∀ v, (x, v) ∉ binds) -> bindC kindOf binds m x = m x
 | [], _, _ => rfl
 | (n, v) :: r, m, h => by
  unfold bindC
  rw [zt4 fun w hw => h w (mem_cons_of_mem _ hw)]
  split
  ·rfl
  ·have : x ≠ n := by rintro rfl; exact h v mem_cons_self
   simp [this]
theorem zt3 {kindOf : Str -> Option NameKind} {x : Str} {v : Value} : ∀ {P : List Str} {vs : List Value} {i : Nat} {m : Str -> Option Value}, P.Nodup -> P[i]? = some x -> vs[i]? = some v -> kindOf x = some .local ->
  bindL kindOf (P.zip vs) m x = some v
 | [], _, _, _, _, h, _, _ => by simp at h
 | _ :: _, [], _, _, _, _, h, _ => by simp at h
 | p :: P, w :: vs, 0, m, nd, h1, h2, hk => by
  simp at h1 h2; subst h1; subst h2
  show bindL kindOf ((p, w) :: P.zip vs) m p = _
  unfold bindL
  rw [zt2 fun v hv => (List.nodup_cons.mp nd).1 (of_mem_zip hv).1, if_pos hk]
  simp
 | p :: P, w :: vs, i + 1, m, nd, h1, h2, hk => by
  show bindL kindOf ((p, w) :: P.zip vs) m x = _
  unfold bindL
  exact zt3 (i := i) (List.nodup_cons.mp nd).2 (by simpa using h1) (by simpa using h2) hk
theorem zt5 {kindOf : Str -> Option NameKind} {x : Str} {v : Value} : ∀ {P : List Str} {vs : List Value} {i : Nat} {m : Str -> Option Value}, P.Nodup -> P[i]? = some x -> vs[i]? = some v -> kindOf x ≠ some .local ->
  bindC kindOf (P.zip vs) m x = some v
 | [], _, _, _, _, h, _, _ => by simp at h
 | _ :: _, [], _, _, _, _, h, _ => by simp at h
 | p :: P, w :: vs, 0, m, nd, h1, h2, hk => by
  simp at h1 h2; subst h1; subst h2
  show bindC kindOf ((p, w) :: P.zip vs) m p = _
  unfold bindC
  rw [zt4 fun v hv => (List.nodup_cons.mp nd).1 (of_mem_zip hv).1, if_neg hk]
  simp
 | p :: P, w :: vs, i + 1, m, nd, h1, h2, hk => by
  show bindC kindOf ((p, w) :: P.zip vs) m x = _
  unfold bindC
  exact zt5 (i := i) (List.nodup_cons.mp nd).2 (by simpa using h1) (by simpa using h2) hk
def W0 (N : List Str) (vs : List V) : St := vs.map some ++ List.replicate (N.length - vs.length) none
def cxOf (CX : CXT) (P : Program) (w : World) (K : W.Frag) (mg : Str -> Option Value) (base : Heap) (N : List Str) (qual : Str) (scope : Scope) (f : Addr) (cd : Value) (A : Around) (outer : List Env) (s : Shared) (H : Hp) (E : XK) : Cx where
 prog := P
 w := w
 K := K
 mg := mg
 base := base
 A := A.deeper (envOfC qual scope s.heap.objs.size f cd)
 N := N
 s₀ := s
 H₀ := H
 env := envOfC qual scope s.heap.objs.size f cd
 outer := outer
 stack := envOfC qual scope s.heap.objs.size f cd :: outer
 ex := []
 calm := true
 fn := fun _ => true
 pn := []
 xe := fun e s' => wpAny (model P w) (A.deeper (envOfC qual scope s.heap.objs.size f cd)) (leaving (envOfC qual scope s.heap.objs.size f cd) e) (fun _ s'' => CX outer H s E e s'') (fun e' s'' => CX outer H s E e' s'') s'
theorem zo4 {sc : Scope} {n : Nat} {x : Str} (h : sc.names.lookup x = some .cell) : ∃ c, (cellsFrom n sc.names []).lookup x = some c := by
 have q := W.cellsFrom_some sc.names n [] (.inl h)
 exact Option.isSome_iff_exists.mp q
theorem zv9 {CX : CXT} {P : Program} {w : World} {K : W.Frag} {mg : Str -> Option Value} {base : Heap} {N ps : List Str} {qual : Str} {scope : Scope} {f : Addr} {cd : Value} {A : Around} {outer : List Env} {s s1 : Shared} {H : Hp} {E : XK} {us : List Value} {vs : List V}
  (S : FnScope N ps scope) (hd : A.handled = none) (e0 : Env0 P w K mg base A outer s H) (hl : vs.length = ps.length) (r : Vals vs us)
  (x : InCallC s s.heap.objs.size (bindL (envOfC qual scope s.heap.objs.size f cd).kindOf (ps.zip us) fun _ => none) (cellsFrom (s.heap.objs.size + 1) scope.names []) (bindC (envOfC qual scope s.heap.objs.size f cd).kindOf (ps.zip us) fun _ => none) s1) :
  Inv (cxOf CX P w K mg base N qual scope f cd A outer s H E) [] (W0 N vs) H s1 := by
 have hpl : ps.length <= N.length := by have := congrArg List.length S.pre; rw [length_take] at this; omega
 obtain ⟨h1, tk, rfl, hk⟩ := x.done
 have noA : ∀ b : Addr, b ∉ (cxOf CX P w K mg base N qual scope f cd A outer s H E).ex := fun b z => absurd (show b ∈ ([] : List Addr) from z) (by simp)
 refine ⟨⟨e0.mod, S.kind, rfl, rfl, Nat.le_refl _, fun y z c h1 h2 => ?_, fun y hy => ?_, fun y c _ h => ?_, fun _ => hd, Around.frames_deeper e0.frames, .inr ⟨rfl, rfl⟩, fun b z => absurd z (noA b), e0.bs, e0.bsz, fun b _ _ => noA b, fun b z => absurd z (noA b), e0.funs, e0.frf⟩,
  rfl, e0.bare, Un.kept hk, ⟨_, x.toInCall.ns, fun i y v h1 h2 h3 => ?_⟩, fun y c h => ⟨_, x.cell y c h⟩, e0.hok.fresh (Nat.le_refl _), fun y c h => ?_, fun p hp => absurd (show p ∈ ([] : List (Addr × Obj)) from hp) (by simp), e0.hok.kept hk, ?_⟩
 ·exact name_of_addr x.apart (PySem.mem_of_lookup h1) (PySem.mem_of_lookup h2)
 ·have hy : scope.names.lookup y = some .cell \/ scope.names.lookup y = some .free := hy
  rcases hy with hy | hy
  ·exact zo4 hy
  ·exact absurd rfl (S.nofree _ (PySem.mem_of_lookup hy))
 ·exact Nat.le_of_lt (x.above y c (PySem.mem_of_lookup h))
 ·have hi : i < vs.length := by
   unfold W0 at h2
   by_cases hi : i < vs.length
   ·exact hi
   ·rw [getElem?_append_right (by simpa using hi)] at h2
    rw [getElem?_replicate] at h2
    split at h2 <;> cases h2
  have ha : vs[i]? = some v := by
   unfold W0 at h2
   rw [getElem?_append_left (by simpa using hi), getElem?_map] at h2
   cases e : vs[i]? with
   | none => rw [e] at h2; cases h2
   | some a => rw [e] at h2; cases h2; rfl
  obtain ⟨u, hu, rv⟩ := r.get ha
  have hp : ps[i]? = some y := by
   rw [<- S.pre, getElem?_take_of_lt (by omega)]; exact h1
  have ndP : ps.Nodup := by rw [<- S.pre]; exact S.nd.sublist (take_sublist _ _)
  refine ⟨u, rv, ?_⟩
  rcases S.par y (mem_of_getElem? hp) with k | k
  ·exact .inl ⟨k, zt3 ndP hp hu k⟩
  ·obtain ⟨c, e⟩ := zo4 (n := s.heap.objs.size + 1) k
   refine .inr ⟨.inl k, c, e, ?_⟩
   have q := x.cell y c e
   rw [zt5 ndP hp hu (by show scope.names.lookup y ≠ _; rw [k]; decide)] at q
   exact q
 ·exact e0.hok.fresh (Nat.le_of_lt (x.above y c (PySem.mem_of_lookup h)))
 ·unfold W0
  show _ = N.length
  rw [length_append, length_map, length_replicate]
  omega
theorem yb5 {CX : CXT} {P : Program} {w : World} {K : W.Frag} {mg : Str -> Option Value} {base : Heap} {k : Nat} {f : Addr} {name qual : Str} {params : Arguments} {body : List Stmt} {scope : Scope} {dV kV doc pm cdv ct oc : Value} {an od : Option Addr}
  {osl : Array (Option Value)} {N ps : List Str} {sp : Sp} (lk : K.lookup f = some ⟨oc, od, .func (W.fnOf name qual params body scope dV kV doc pm an cdv ct), osl⟩) (hcd : W.codeIn K cdv qual = true) (S : FnScope N ps scope)
  (len : ∀ vs H Q E, sp vs H Q E -> vs.length = ps.length)
  (hbody : ∀ (A : Around) (outer : List Env) (s : Shared) (H : Hp) (vs : List V) (Q : VK) (E : XK), Room k (A.deeper (envOfC qual scope s.heap.objs.size f cdv)) -> sp vs H Q E ->
   ∃ t, PSs (cxOf CX P w K mg base N qual scope f cdv A outer s H E) body t /\ t { nx := fun _ H' => Q .non H', rt := Q } (W0 N vs) H) :
  FnOk P w K mg base CX (k + 1) f (W.fnOf name qual params body scope dV kV doc pm an cdv ct) ps sp := by
 refine ⟨len, fun A outer s H args us vs Q E hr e0 hb r hsp => ?_⟩
 have hl := len _ _ _ _ hsp
 have KX : K.In s.heap := e0.mod.kin.keeps fun b o e => (e0.bs b o e).1
 have lim : s.heap.NoLimit := e0.mod.nolimit.keeps fun b o e => (e0.bs b o e).1
 have hkind : ∀ y ∈ ps.zip us, scope.names.lookup y.1 = some .local \/ (scope.names.lookup y.1 = some .cell /\ ((cellsFrom (s.heap.objs.size + 1) scope.names []).lookup y.1).isSome = true) := fun ⟨n, v⟩ hy => by
  rcases S.par n (of_mem_zip hy).1 with q | q
  ·exact .inl q
  ·exact .inr ⟨q, W.cellsFrom_some _ _ _ (.inl q)⟩
 refine codeAny_call_function hr.depth (KX _ _ lk) rfl S.co S.gen rfl (W.codeRec_of KX hcd) (hb _ _ _ _ ?_)
 refine wpAny_newFunctionEnv_cells S.kind hkind fun env he s1 x => ?_
 subst he
 refine ⟨lim.keeps x.toInCall.keep, codeAny_func ?_⟩
 obtain ⟨t, ht, hq⟩ := hbody A outer s H vs Q E (hr.deeper _) hsp
 have I : Inv (cxOf CX P w K mg base N qual scope f cdv A outer s H E) [] (W0 N vs) H s1 := zv9 S hr.hd e0 hl r x
 refine wpAny_mono (ht [] s1 (W0 N vs) H _ I hq) (fun fl s' hs => ?_) fun e s' hs => hs
 have fin : ∀ {σ' : St} {H' : Hp} {v : V} {u : Value}, Inv (cxOf CX P w K mg base N qual scope f cdv A outer s H E) [] σ' H' s' -> RelV v u -> Q v H' -> CE outer P w H s Q u s' :=
  fun {σ' H' v u} J rv q => ⟨v, H', J.os, J.bare, J.base, J.hok, rv, q⟩
 cases fl with
 | ret u =>
  obtain ⟨v, σ', H', J, rv, q⟩ := hs
  exact fin J rv q
 | next =>
  obtain ⟨σ', H', J, q⟩ := hs
  exact fin (v := V.non) (u := Value.none) J rfl q
 | brk =>
  obtain ⟨_, _, _, q⟩ := hs
  exact False.elim q
 | cont =>
  obtain ⟨_, _, _, q⟩ := hs
  exact False.elim q
end
section
section
variable {X : Cx} {x : Str} {p pos : Pos} {e : Expr} {es : List Expr} {t : TA} {id T : String} {r : List V -> Hp -> VK -> Prop}
def tCB (r : List V -> Hp -> VK -> Prop) (t : TA) : TE := fun σ H Q => t σ H fun vs H1 => r vs H1 Q
theorem Y3 (hc : J7 X (.builtin id) r) (hg : Gl X x) (hm : X.mg x = none) (hv : bootBuiltins x = some (.builtin id)) (ha : PA X (e :: es) t) (hn : x ≠ "__name__" := by decide) (hdb : (x == ("__debug__" : Str)) = false := by decide)
  (he : starEach (e :: es) X.env = (false, eval e X.env) :: starEach es X.env := by rfl) (hpl : (backTo pos (starEach es X.env)).any (·.1) = false := by rfl) : PE X (.Call (.Name x p) (e :: es) [] pos) (tCB r t) := by
 intro pins s σ H Q I h
 refine wpAny_Call_Name_kw (N2 I hg hm hv ?_ hn hdb)
 exact PyProof.Rows.callWith_builtin1 (thn (ha pos pins s σ H _ I h) fun us s1 ⟨vs, H1, I1, r1, q1⟩ => hc pins s1 σ H1 vs us Q I1 r1 q1) he hpl
theorem zw3 (hc : J7 X (.type T) r) (hg : Gl X x) (hm : X.mg x = none) (hv : bootBuiltins x = some (.type T)) (ha : PA X (e :: es) t) (hn : x ≠ "__name__" := by decide) (hdb : (x == ("__debug__" : Str)) = false := by decide)
  (he : starEach (e :: es) X.env = (false, eval e X.env) :: starEach es X.env := by rfl) (hpl : (backTo pos (starEach es X.env)).any (·.1) = false := by rfl) : PE X (.Call (.Name x p) (e :: es) [] pos) (tCB r t) := by
 intro pins s σ H Q I h
 refine wpAny_Call_Name_kw (N2 I hg hm hv ?_ hn hdb)
 exact PyProof.Rows.callWith_type1 (thn (ha pos pins s σ H _ I h) fun us s1 ⟨vs, H1, I1, r1, q1⟩ => hc pins s1 σ H1 vs us Q I1 r1 q1) he hpl
end
end
end L2
namespace HT
open PySem PyProof.Rows
theorem rcLt_int (A : Around) (s : Shared) (a : Int) (t : Tok) (c : Int) (u : Tok) (prog : Program) (w : World) (E : Value -> Shared -> Prop) (Q : Value -> Shared -> Prop) (h : Q (.bool (decide (a < c))) s) :
  wpAny (model prog w) A (richCompare .Lt (.int a t) (.int c u)) Q E s :=
 (PyProof.Rows.lt_int h : wpAny (model prog w) A (compareOp .Lt (.int a t) (.int c u)) Q E s)
section
open PySem.SeqAt
open PySem.AutoSeq1 (wpAny_loadPart')
open PySem.MeetsSeq PySem.MeetsSeq2 PySem.MeetsSeq3
end
section
variable {prog : Program} {w : World} {A : Around} {E : Value -> Shared -> Prop} {s : Shared}
def sIx (n d : Nat) : Option Int -> Nat
 | none => d
 | some v => if v < 0 then (v + (n : Int)).toNat else min v.toNat n
theorem sIx_none (n d : Nat) : sIx n d none = d := rfl
theorem sIx_nat (n d k : Nat) : sIx n d (some (k : Int)) = min k n := by
 show (if (k : Int) < 0 then ((k : Int) + (n : Int)).toNat else min (k : Int).toNat n) = min k n
 rw [if_neg (by omega), Int.toNat_natCast]
end
end HT
namespace L2
open List
open PySem PySem.Spec PyProof.Rows
section
abbrev TO := St -> Hp -> (Option Int -> Hp -> Prop) -> Prop
def PO (X : Cx) (e : Option Expr) (t : TO) : Prop :=
 ∀ (pins : List (Addr × Obj)) (s : Shared) (σ : St) (H : Hp) (Q : Option Int -> Hp -> Prop), Inv X pins σ H s -> t σ H Q ->
  wpAny (model X.prog X.w) X.A (evalPart e X.env) (fun u s' => ∃ o H', Inv X pins σ H' s' /\ IsPart u o /\ Q o H') X.xe s
def yr5 : TO := fun _ H Q => Q none H
def xz5 (t : TE) : TO := fun σ H Q => t σ H fun x H1 => ∃ i, x = .int i /\ Q (some i) H1
section
variable {X : Cx} {e : Expr} {te : TE} {lo hi : Option Expr} {tl th : TO} {pos p2 : Pos}
theorem yp4 : PO X none yr5 := by
 intro pins s σ H Q I h
 rw [evalPart_none]
 exact wpAny_pure ⟨none, H, I, .none, h⟩
theorem yp3 (h : PE X e te) : PO X (some e) (xz5 te) := by
 intro pins s σ H Q I hw
 rw [evalPart_some]
 refine thn (h pins s σ H _ I hw) fun u s1 hpat => ?_
 obtain ⟨x, H1, I1, r1, q1⟩ := hpat
 obtain ⟨i, rfl, q⟩ := q1
 obtain ⟨t, rfl⟩ := r1
 exact ⟨some i, H1, I1, .int i t, q⟩
def SlR (X : Cx) (r : V -> Option Int -> Option Int -> Hp -> VK -> Prop) : Prop :=
 ∀ (pins : List (Addr × Obj)) (s : Shared) (σ : St) (H : Hp) (x : V) (v vl vu : Value) (lo hi : Option Int) (sl : Addr) (Q : VK), Inv X pins σ H s -> RelV x v -> s.heap.IsSliceOf sl vl vu .none -> IsPart vl lo -> IsPart vu hi -> r x lo hi H Q ->
  ∃ T id, typeLookup (.type T) "__getitem__" = pure (some (.builtin id)) /\ s.TypeIs v T /\ wpAny (model X.prog X.w) X.A (getItem v (.ref sl)) (EP X pins σ Q) X.xe s
def tSl (r : V -> Option Int -> Option Int -> Hp -> VK -> Prop) (te : TE) (tl th : TO) : TE := fun σ H Q => te σ H fun x H1 => tl σ H1 fun l H2 => th σ H2 fun u H3 => r x l u H3 Q
theorem yx2 {r : V -> Option Int -> Option Int -> Hp -> VK -> Prop} (hr : SlR X r) (he : PE X e te) (hl : PO X lo tl) (hu : PO X hi th) : PE X (.Subscript e (.Slice lo hi none p2) pos) (tSl r te tl th) := by
 intro pins s σ H Q I h
 refine Subscript_ (thn (he pins s σ H _ I h) fun v s1 hpat => ?_)
 obtain ⟨x, H1, I1, r1, q1⟩ := hpat
 refine wpAny_Slice (thn (hl pins s1 σ H1 _ I1 q1) fun vl s2 ⟨l, H2, I2, pl, q2⟩ => thn (hu pins s2 σ H2 _ I2 q2) fun vu s3 hpat => ?_)
 obtain ⟨u, H3, I3, pu, q3⟩ := hpat
 rw [evalPart_none]
 refine wpAny_pure ?_
 have I4 : Inv X pins σ H3 { s3 with heap := s3.heap.push { cls := .type "slice", data := .fields #[vl, vu, .none] } } := I3.kept (t' := s3.toks) fun b ob q => Heap.get?_push_of_some _ q
 obtain ⟨T, id, hT, ht, hg⟩ := hr pins { s3 with heap := s3.heap.push { cls := .type "slice", data := .fields #[vl, vu, .none] } } σ H3 x v vl vu l u s3.heap.objs.size Q I4 r1 (Heap.IsSliceOf.new ..) pl pu q3
 show wpAny (model X.prog X.w) X.A (subscriptTail e (.Slice lo hi none p2) v (.ref s3.heap.objs.size)) (EP X pins σ Q) X.xe { s3 with heap := s3.heap.push { cls := .type "slice", data := .fields #[vl, vu, .none] } }
 exact tail_any (ops := [.ref s3.heap.objs.size, v]) ht hT hg (by with_unfolding_all rfl)
def cutV (xs : List V) (lo hi : Option Int) : List V := (xs.drop (HT.sIx xs.length 0 lo)).take (HT.sIx xs.length xs.length hi - HT.sIx xs.length 0 lo)
theorem zr9 (xs : List V) (lo hi : Option Int) : (cutV xs lo hi).length <= xs.length := by
 unfold cutV
 rw [length_take, length_drop]
 omega
end
end
section
def ixN (n : Nat) (i : Int) : Option Nat := if 0 <= i then (if i < n then some i.toNat else none) else if -(n : Int) <= i then some (i + n).toNat else none
def atI {α : Type} (xs : List α) (i : Int) : Option α := (ixN xs.length i).bind fun j => xs[j]?
theorem zc2 {n : Nat} {i : Int} {j : Nat} (h : ixN n i = some j) : seqIndex? i n = some j /\ j < n /\ -(n : Int) <= i /\ i < n := by
 unfold ixN at h
 by_cases h0 : 0 <= i
 ·rw [if_pos h0] at h
  by_cases h1 : i < n
  ·rw [if_pos h1] at h
   have e : i.toNat = j := Option.some.inj h
   exact ⟨by rw [seqIndex_of h0 h1, e], by omega, by omega, h1⟩
  ·rw [if_neg h1] at h; cases h
 ·rw [if_neg h0] at h
  by_cases h1 : -(n : Int) <= i
  ·rw [if_pos h1] at h
   have e : (i + n).toNat = j := Option.some.inj h
   exact ⟨by rw [seqIndex_neg (by omega) h1, e], by omega, h1, by omega⟩
  ·rw [if_neg h1] at h; cases h
theorem za9 {α : Type} {xs : List α} {i : Int} {v : α} (h : atI xs i = some v) : ∃ j, seqIndex? i xs.length = some j /\ xs[j]? = some v /\ j < xs.length /\ -(xs.length : Int) <= i /\ i < xs.length := by
 unfold atI at h
 cases e : ixN xs.length i with
 | none => rw [e] at h; cases h
 | some j =>
  rw [e] at h
  obtain ⟨h1, h2, h3, h4⟩ := zc2 e
  exact ⟨j, h1, h, h2, h3, h4⟩
theorem atI_last {α : Type} (xs : List α) (v : α) : atI (xs ++ [v]) (-1) = some v := by
 have hl : (xs ++ [v]).length = xs.length + 1 := by simp
 have e : ixN (xs ++ [v]).length (-1) = some xs.length := by
  unfold ixN
  rw [hl, if_neg (by decide), if_pos (by omega)]
  congr 1
  omega
 unfold atI
 rw [e]
 show (xs ++ [v])[xs.length]? = some v
 simp
def zq6 (b : Expr) : Prop := ∀ o i, subscripted b false o i = operate [o, i] (getItem o i)
def IxR (X : Cx) (r : R2) : Prop :=
 ∀ (value slice : Expr) (pins : List (Addr × Obj)) (s : Shared) (σ : St) (H : Hp) (x y : V) (v u : Value) (Q : VK), Inv X pins σ H s -> RelV x v -> RelV y u -> r x y H Q ->
  subscripted slice false v u = operate [v, u] (getItem v u) -> wpAny (model X.prog X.w) X.A (subscriptTail value slice v u) (EP X pins σ Q) X.xe s
def MtR (X : Cx) (id : String) (r : V -> List V -> Hp -> VK -> Prop) : Prop :=
 ∀ (pins : List (Addr × Obj)) (s : Shared) (σ : St) (H : Hp) (x : V) (xs : List V) (v : Value) (us : List Value) (Q : VK), Inv X pins σ H s -> RelV x v -> Vals xs us -> r x xs H Q ->
  wpAny (model X.prog X.w) X.A (call (.builtin id) (v :: us)) (EP X pins σ Q) X.xe s
section
variable {X : Cx} {a b : Expr} {ta tb : TE} {pos : Pos}
theorem G3 {r : R2} (hr : IxR X r) (ha : PE X a ta) (hb : PE X b tb) (hs : zq6 b) : PE X (.Subscript a b pos) (tOp r ta tb) := by
 intro pins s σ H Q I h
 exact Subscript_ (binT ha hb I h fun v u s2 x y H2 I2 rx ry q => hr a b pins s2 σ H2 x y v u Q I2 rx ry q (hs _ _))
def rIxL (K : W.Frag) : R2 := fun x y H Q => ∃ p xs i v, x = .ref p /\ y = .int i /\ SqL K H p xs /\ atI xs i = some v /\ Q v H
def rIxT (K : W.Frag) : R2 := fun x y H Q => ∃ p xs i v, x = .ref p /\ y = .int i /\ SqT K H p xs /\ atI xs i = some v /\ Q v H
theorem V1 : IxR X (rIxL X.K) := by
 intro value slice pins s σ H x y v u Q I rx ry h hs
 obtain ⟨p, xs, i, z, rfl, rfl, hq, he, q⟩ := h
 cases rx
 obtain ⟨t, rfl⟩ := ry
 obtain ⟨its, r, pl, hz⟩ := I.list hq
 obtain ⟨j, h1, h2, h3, h4, h5⟩ := za9 he
 obtain ⟨w, ew, rw'⟩ := r.get h2
 have hl := r.length
 have hn := zv5
 have fin : EP X pins σ Q w s := ⟨z, H, I, rw', q⟩
 by_cases h0 : 0 <= i
 ·have hj : i.toNat = j := by
   rw [seqIndex_of h0 h5] at h1
   exact Option.some.inj h1
  exact item_listR pl.isList h0 (by omega) (by rw [hj]; simpa using ew) fin hs
 ·have hj : (i + (its.toArray.size : Int)).toNat = j := by
   rw [seqIndex_neg (by omega) h4] at h1
   rw [size_toArray, <- hl]
   exact Option.some.inj h1
  exact subscriptTail_builtinR (x := w) pl.isList.typeIs slot_list_getitem.lookup
   (wpAny_getItem_list_neg (Q := fun r s' => r = w /\ EP X pins σ Q r s') pl.isList (by omega) (by rw [size_toArray] <;> omega) (by omega) (by rw [hj]; simpa using ew) ⟨rfl, fin⟩) hs
theorem yc9 : IxR X (rIxT X.K) := by
 intro value slice pins s σ H x y v u Q I rx ry h hs
 obtain ⟨p, xs, i, z, rfl, rfl, hq, he, q⟩ := h
 cases rx
 obtain ⟨t, rfl⟩ := ry
 obtain ⟨its, r, pl, hz⟩ := I.tuple hq
 obtain ⟨j, h1, h2, h3, h4, h5⟩ := za9 he
 obtain ⟨w, ew, rw'⟩ := r.get h2
 have hl := r.length
 have hn := zv5
 have fin : EP X pins σ Q w s := ⟨z, H, I, rw', q⟩
 exact subscriptTail_builtinR (x := w) pl.typeIs slot_tuple_getitem.lookup
  (getItem_tuple (j := j) (Q := fun r s' => r = w /\ EP X pins σ Q r s') pl (by omega) (by omega) (by rw [size_toArray, <- hl]; exact h1) (by simpa using ew) ⟨rfl, fin⟩) hs
theorem zk5 (its : List Value) (n j : Nat) (u : Value) : Obj.mapSeq (·.setIfInBounds j u) { cls := .type "list", data := .seq its.toArray n } = { cls := .type "list", data := .seq (its.set j u).toArray n } := by
 simp [Obj.mapSeq]
theorem Inv.lst {pins : List (Addr × Obj)} {σ : St} {H : Hp} {s : Shared} {p : Addr} {xs : List V} (I : Inv X pins σ H s) (h : H p = some (.lst xs)) :
  ∃ (its : List Value) (n : Nat), Vals xs its /\ s.heap.get? p = some { cls := .type "list", data := .seq its.toArray n } /\ xs.length <= sizeLine := by
 obtain ⟨z, its, n, r, e⟩ := I.hok p _ h
 exact ⟨its, n, r, e, z⟩
theorem Inv.lstUpd {pins : List (Addr × Obj)} {σ : St} {H : Hp} {s : Shared} {p : Addr} {xs ys : List V} {its its' : List Value} {n n' : Nat} {f : Obj -> Obj} (I : Inv X pins σ H s) (h : H p = some (.lst xs))
  (ho : s.heap.get? p = some { cls := .type "list", data := .seq its.toArray n }) (hf : f { cls := .type "list", data := .seq its.toArray n } = { cls := .type "list", data := .seq its'.toArray n' }) (r : Vals ys its') (hz : ys.length <= sizeLine) (t : Nat) :
  Inv X pins σ (upd H p (.lst ys)) { s with heap := s.heap.update p f, toks := t } := by
 have e : (s.heap.update p f).get? p = some { cls := .type "list", data := .seq its'.toArray n' } := by
  rw [Heap.get?_update_self f ho (by rw [hf] <;> rfl), hf]
 refine I.write (x := p) (e := p) (by rw [h]; trivial) (.inl rfl) (fun b u hb q => (Heap.get?_update_other _ _ (Ne.symm hb)).trans q) ⟨_, e⟩ ?_
 exact ⟨hz, its', n', r, e⟩
def zg2 : V -> V -> V -> Hp -> (Hp -> Prop) -> Prop := fun o i v H Q => ∃ p xs k j, o = .ref p /\ i = .int k /\ H p = some (.lst xs) /\ ixN xs.length k = some j /\ Q (upd H p (.lst (xs.set j v)))
theorem X2 : PSet X zg2 := by
 intro pins s σ H o i v ov iv u Q I ro ri rv h
 obtain ⟨p, xs, k, j, rfl, rfl, hp, hj, q⟩ := h
 cases ro
 obtain ⟨t, rfl⟩ := ri
 obtain ⟨its, n, r, ho, hz⟩ := I.lst hp
 obtain ⟨h1, h2, h3, h4⟩ := zc2 hj
 have hl := r.length
 have hn := zv5
 have I' : Inv X pins σ (upd H p (.lst (xs.set j v))) { s with heap := s.heap.update p (Obj.mapSeq (·.setIfInBounds j u)) } :=
  I.lstUpd hp ho (zk5 its n j u) (r.set rv j) (by rw [length_set]; exact hz) s.toks
 by_cases h0 : 0 <= k
 ·have hk : k.toNat = j := by
   rw [seqIndex_of h0 h4] at h1
   exact Option.some.inj h1
  exact W.ki_setAt ho h0 (by omega) (by rw [size_toArray, <- hl]; exact h4) (by rw [hk]; exact ⟨_, I', q⟩)
 ·have hk : (k + (its.toArray.size : Int)).toNat = j := by
   rw [seqIndex_neg (by omega) h3] at h1
   rw [size_toArray, <- hl]
   exact Option.some.inj h1
  exact W.ki_setBack ho (by omega) (by rw [size_toArray, <- hl]; exact h3) (by omega) (by rw [hk]; exact ⟨_, I', q⟩)
theorem zx2 (lo hi : Option Int) (n : Nat) : (sliceBounds lo hi none n).1 = ((HT.sIx n 0 lo : Nat) : Int) /\ (sliceBounds lo hi none n).2.1 = ((HT.sIx n n hi : Nat) : Int) /\ (sliceBounds lo hi none n).2.2 = 1 := by
 refine ⟨?_, ?_, rfl⟩
 ·cases lo with
  | none => simp [sliceBounds, HT.sIx]
  | some i =>
   simp only [sliceBounds, HT.sIx, Option.getD_none, show (1 : Int) > 0 by decide, if_true]
   by_cases h : i < 0
   ·simp only [h, if_true] <;> omega
   ·simp only [h, if_false] <;> omega
 ·cases hi with
  | none => simp [sliceBounds, HT.sIx]
  | some i =>
   simp only [sliceBounds, HT.sIx, Option.getD_none, show (1 : Int) > 0 by decide, if_true]
   by_cases h : i < 0
   ·simp only [h, if_true] <;> omega
   ·simp only [h, if_false] <;> omega
theorem C6 (its : List Value) (lo hi : Option Int) : slicePick its.toArray lo hi none = ((its.drop (HT.sIx its.length 0 lo)).take (HT.sIx its.length its.length hi - HT.sIx its.length 0 lo)).toArray := by
 obtain ⟨h1, h2, h3⟩ := zx2 lo hi its.toArray.size
 unfold slicePick
 rw [h1, h2, h3]
 simp only [sliceRange_one, pick_run, size_toArray] <;> rfl
def rSlL (K : W.Frag) : V -> Option Int -> Option Int -> Hp -> VK -> Prop := fun x lo hi H Q => ∃ a xs, x = .ref a /\ SqL K H a xs /\ ∀ p, H p = none -> Q (.ref p) (upd H p (.lst (cutV xs lo hi)))
theorem yr9 : SlR X (rSlL X.K) := by
 intro pins s σ H x v vl vu lo hi sl Q I rx hs pl pu h
 obtain ⟨a, xs, rfl, hx, q⟩ := h
 cases rx
 obtain ⟨its, r, ht, hz⟩ := I.list hx
 have hlen := r.length
 refine ⟨"list", _, slot_list_getitem.lookup, ht.isList.typeIs, ?_⟩
 refine wpAny_getItem_list_slice ht.isList hs pl pu .none (by simp) ?_ (by rw [size_toArray] <;> omega)
 rw [C6, <- hlen]
 refine ⟨.ref s.heap.objs.size, _, I.laid (t' := s.toks) (o := .lst (cutV xs lo hi)) (fun b ob q => Heap.get?_push_of_some _ q) (Nat.le_refl _) ?_, rfl, q _ (I.hok.fresh (Nat.le_refl _))⟩
 exact ⟨Nat.le_trans (zr9 xs lo hi) hz, _, 0, (r.drop (HT.sIx xs.length 0 lo)).take (HT.sIx xs.length xs.length hi - HT.sIx xs.length 0 lo), Heap.get?_push_size _ rfl⟩
theorem zu9 : J7 X (.builtin "len") (fun xs H Q => ∃ p ys, xs = [.ref p] /\ (SqL X.K H p ys \/ SqT X.K H p ys) /\ Q (.int ys.length) H) := by
 intro pins s σ H xs us Q I r h
 obtain ⟨p, ys, rfl, hq, q⟩ := h
 obtain ⟨u, rfl, rx⟩ := zi7 r
 cases rx
 have hn := zv5
 rcases hq with hq | hq
 ·obtain ⟨its, r', pl, hz⟩ := I.list hq
  have hlen := r'.length
  exact Calls.call_len_list pl.isList (by simp only [size_toArray] <;> omega) ⟨.int ys.length, H, I.tok _, ⟨s.toks + 1, by rw [size_toArray, hlen]⟩, q⟩
 ·obtain ⟨its, r', pl, hz⟩ := I.tuple hq
  have hlen := r'.length
  exact len_tuple pl (by simp only [size_toArray] <;> omega) ⟨.int ys.length, H, I.tok _, ⟨s.toks + 1, by rw [size_toArray, hlen]⟩, q⟩
theorem zu8 : J7 X (.type "list") (fun xs H Q => ∃ p ys, xs = [.ref p] /\ (SqL X.K H p ys \/ SqT X.K H p ys) /\ ∀ l, H l = none -> Q (.ref l) (upd H l (.lst ys))) := by
 intro pins s σ H xs us Q I r h
 obtain ⟨p, ys, rfl, hq, q⟩ := h
 obtain ⟨u, rfl, rx⟩ := zi7 r
 cases rx
 have fin : ∀ (its : List Value), Vals ys its -> ys.length <= sizeLine -> ∀ (h' : Heap) (c' : Nat), (∀ b o', s.heap.get? b = some o' -> h'.get? b = some o') ->
   h'.get? s.heap.objs.size = some { cls := .type "list", dict := none, data := .seq its.toArray c', slots := #[] } -> EP X pins σ Q (.ref s.heap.objs.size) { s with heap := h' } := fun its r' hz h' c' kp e =>
  ⟨.ref s.heap.objs.size, _, I.laid (t' := s.toks) kp (Nat.le_refl _) (show ObjOk X.prog X.w _ h' _ (.lst ys) from ⟨hz, its, c', r', e⟩), rfl, q _ (I.hok.fresh (Nat.le_refl _))⟩
 rcases hq with hq | hq
 ·obtain ⟨its, r', pl, hz⟩ := I.list hq
  have hlen := r'.length
  obtain ⟨o, ho, hc, n, hd⟩ := pl.isList
  exact call_list_seq p (.inl rfl) ho hc hd (fun h' c' kp e => fin its r' hz h' c' kp e) (by simp only [size_toArray] <;> omega)
 ·obtain ⟨its, r', pl, hz⟩ := I.tuple hq
  have hlen := r'.length
  obtain ⟨o, ho, hc, n, hd⟩ := pl
  exact call_list_seq p (.inr rfl) ho hc hd (fun h' c' kp e => fin its r' hz h' c' kp e) (by simp only [size_toArray] <;> omega)
def tyV (K : W.Frag) (T : String) (x : V) (H : Hp) : Prop := match x with
 | .str _ => T = "str"
 | .int _ => T = "int"
 | .ref p => (T = "list" /\ ∃ xs, SqL K H p xs) \/ (T = "tuple" /\ ∃ o, K.lookup p = some o /\ o.cls = .type "tuple" /\ o.dict = none) \/
   (T = "dict" /\ ((∃ kvs, H p = some (.dK kvs)) \/ ∃ kvs, H p = some (.dT kvs))) \/ (T = "set" /\ ∃ S n, H p = some (.set S n))
 | _ => False
theorem yu5 {pins : List (Addr × Obj)} {σ : St} {H : Hp} {s : Shared} {T : String} {x : V} {v : Value} (I : Inv X pins σ H s) (r : RelV x v) (ty : tyV X.K T x H) :
  s.TypeIs v T /\ ∀ a, v = .ref a -> ∃ ob, s.heap.get? a = some ob /\ ob.dict = none := by
 cases x with
 | str z =>
  obtain ⟨t, rfl⟩ := r
  cases (show T = "str" from ty)
  exact ⟨typeIs_str s z t, fun _ e => nomatch e⟩
 | int i =>
  obtain ⟨t, rfl⟩ := r
  cases (show T = "int" from ty)
  exact ⟨typeIs_int s i t, fun _ e => nomatch e⟩
 | ref p =>
  cases r
  rcases ty with ⟨rfl, xs, hq⟩ | ⟨rfl, o, hk, hc, hd⟩ | ⟨rfl, hk⟩ | ⟨rfl, S, n, hk⟩
  ·obtain ⟨its, _, pl, _⟩ := I.list hq
   refine ⟨pl.isList.typeIs, fun a e => ?_⟩
   cases e
   obtain ⟨o, n, e, c, hd, _⟩ := pl
   exact ⟨o, e, hd⟩
  ·refine ⟨⟨o, I.kIn p o hk, hc⟩, fun a e => ?_⟩
   cases e
   exact ⟨o, I.kIn _ o hk, hd⟩
  ·have z : ∃ o, s.heap.get? p = some o /\ o.ExactDict := by
    rcases hk with ⟨kvs, hk⟩ | ⟨kvs, hk⟩
    ·obtain ⟨_, _, _, _, o, _, _, e, ex, _⟩ := I.hok p _ hk
     exact ⟨o, e, ex⟩
    ·obtain ⟨_, _, _, _, o, _, _, e, ex, _⟩ := I.hok p _ hk
     exact ⟨o, e, ex⟩
   obtain ⟨o, e, ex⟩ := z
   refine ⟨⟨o, e, ex.1⟩, fun a e2 => ?_⟩
   cases e2
   exact ⟨o, e, ex.2.1⟩
  ·obtain ⟨o, _, _, _, e, ex, _⟩ := I.hok p _ hk
   refine ⟨⟨o, e, ex.1⟩, fun a e2 => ?_⟩
   cases e2
   exact ⟨o, e, ex.2.1⟩
 | _ => exact False.elim ty
def tBM0 (K : W.Frag) (T : String) (r : V -> List V -> Hp -> VK -> Prop) (to : TE) : TE := fun σ H Q => to σ H fun x H1 => tyV K T x H1 /\ r x [] H1 Q
def tBM (K : W.Frag) (T : String) (r : V -> List V -> Hp -> VK -> Prop) (to : TE) (t : TA) : TE := fun σ H Q => to σ H fun x H1 => tyV K T x H1 /\ t σ H1 fun xs H2 => r x xs H2 Q
variable {o e : Expr} {es : List Expr} {to : TE} {t : TA} {name : Str} {apos cpos : Pos} {T id : String} {r : V -> List V -> Hp -> VK -> Prop}
theorem yg2 (pa : PlainAttrs T) (slot : Slot T name id) (hty : typeOf (.builtin id) = pure (.type "method_descriptor")) (hm : MtR X id r) (ho : PE X o to)
  (hbase : attributeBase o name X.env (eval o X.env) = eval o X.env := by rfl) (hline : (apos.endLine == cpos.line) = true := by rfl) : PE X (.Call (.Attribute o name apos) [] [] cpos) (tBM0 X.K T r to) := by
 intro pins s σ H Q I h
 refine wpAny_Call_method0_late hbase hline (thn (ho pins s σ H _ I h) fun v s1 hpat => ?_)
 obtain ⟨x, H1, I1, r1, ty, q1⟩ := hpat
 obtain ⟨h1, h2⟩ := yu5 I1 r1 ty
 exact ⟨T, id, pa, slot, hty, h1, h2, Calls.callWith_builtin rfl (PySem.evalArgs_none (hm pins s1 σ H1 x [] v [] Q I1 r1 .nil q1))⟩
theorem zs4 (pa : PlainAttrs T) (slot : Slot T name id) (hty : typeOf (.builtin id) = pure (.type "method_descriptor")) (hm : MtR X id r) (ho : PE X o to) (ha : PA X (e :: es) t)
  (hbase : attributeBase o name X.env (eval o X.env) = eval o X.env := by rfl)
  (hfew : ((backTo cpos (starEach (e :: es) X.env)).all (fun x => !x.1) && (backToKw cpos (keywordEach [] X.env)).all (fun x => x.1.isSome)
   && decide ((e :: es).length + ([] : List Keyword).length + (if ([] : List Keyword).isEmpty then 0 else 1) < 30)) = true := by rfl)
  (hline : (apos.endLine == cpos.line) = true := by rfl) (hs : starEach (e :: es) X.env = (false, eval e X.env) :: starEach es X.env := by rfl) (hplain : (backTo cpos (starEach es X.env)).any (·.1) = false := by rfl) :
  PE X (.Call (.Attribute o name apos) (e :: es) [] cpos) (tBM X.K T r to t) := by
 intro pins s σ H Q I h
 refine wpAny_Call_method_late hbase hfew hline rfl (thn (ho pins s σ H _ I h) fun v s1 hpat => ?_)
 obtain ⟨x, H1, I1, r1, ty, q1⟩ := hpat
 obtain ⟨h1, h2⟩ := yu5 I1 r1 ty
 refine ⟨T, id, pa, slot, hty, h1, h2, ?_⟩
 have hA := ha cpos pins s1 σ H1 _ I1 q1
 rw [hs] at hA ⊢
 refine Calls.callWith_builtin (by show (false || (backTo cpos (starEach es X.env)).any (·.1)) = false; rw [hplain] <;> rfl) (Calls.evalArgs_plain ?_)
 exact thn hA fun us s2 ⟨vs, H2, I2, r2, q2⟩ => hm pins s2 σ H2 x vs v us Q I2 r1 r2 q2
end
end
section
def MtM (X : Cx) (id : String) (r : V -> List V -> Hp -> VK -> Prop) : Prop :=
 ∀ (pins : List (Addr × Obj)) (s : Shared) (σ : St) (H : Hp) (x : V) (xs : List V) (v : Value) (us : List Value) (Q : VK), Inv X pins σ H s -> RelV x v -> Vals xs us -> r x xs H Q ->
  wpAny (model X.prog X.w) X.A (call (.builtin id) (v :: us)) (EP X pins σ Q) X.xe s
theorem Vals.one : ∀ {x : V} {us : List Value}, Vals [x] us -> ∃ u, us = [u] /\ RelV x u
 | _, _, .cons r .nil => ⟨_, rfl, r⟩
theorem Vals.zero : ∀ {us : List Value}, Vals [] us -> us = []
 | _, .nil => rfl
theorem Vals.dropLast {xs : List V} {us : List Value} (h : Vals xs us) : Vals xs.dropLast us.dropLast := by
 induction h with
 | nil => exact .nil
 | cons r t ih =>
  cases t with
  | nil => exact .nil
  | cons q t' => exact .cons r ih
theorem Vals.reverse {xs : List V} {us : List Value} (h : Vals xs us) : Vals xs.reverse us.reverse := by
 induction h with
 | nil => exact .nil
 | cons r t ih => rw [reverse_cons, reverse_cons]; exact Vals.append ih (.cons r .nil)
theorem Vals.rep {xs : List V} {us : List Value} (h : Vals xs us) : ∀ k : Nat, Vals (List.replicate k xs).flatten (List.replicate k us).flatten
 | 0 => .nil
 | k + 1 => by
  rw [replicate_succ, replicate_succ, flatten_cons, flatten_cons]
  exact Vals.append h (Vals.rep h k)
theorem zj3 {α : Type} (l : List α) : l.eraseIdx (l.length - 1) = l.dropLast := by
 induction l with
 | nil => rfl
 | cons a r ih =>
  cases r with
  | nil => rfl
  | cons b r =>
   have e : (a :: b :: r).length - 1 = ((b :: r).length - 1) + 1 := by
    have h1 : (a :: b :: r).length = r.length + 2 := rfl
    have h2 : (b :: r).length = r.length + 1 := rfl
    omega
   rw [e, eraseIdx_cons_succ, ih]
   all_goals rfl
theorem zu1 (its : List Value) : ∀ (k : Nat) (acc : List Value),
  List.foldl (fun x1 x2 => x1 ++ x2) acc.toArray (List.replicate k its.toArray) = (acc ++ (List.replicate k its).flatten).toArray
 | 0, acc => by simp
 | k + 1, acc => by
  have e : acc.toArray ++ its.toArray = (acc ++ its).toArray := by simp
  have e2 : (acc ++ its) ++ (List.replicate k its).flatten = acc ++ (List.replicate (k + 1) its).flatten := by
   rw [replicate_succ, flatten_cons, append_assoc]
  rw [<- e2, <- zu1 its k (acc ++ its), <- e, replicate_succ, foldl_cons]
section
variable {X : Cx} {pins : List (Addr × Obj)} {σ : St} {H : Hp} {s : Shared} {l b : Addr} {xs ys zs : List V}
theorem Inv.lset {its its' : List Value} {n : Nat} {f : Array Value -> Array Value} {t' : Nat} (I : Inv X pins σ H s) (hH : H l = some (.lst xs))
  (e : s.heap.get? l = some { cls := .type "list", data := .seq its.toArray n }) (hf : f its.toArray = its'.toArray) (hv : Vals ys its') (hz : ys.length <= sizeLine) :
  Inv X pins σ (upd H l (.lst ys)) { s with heap := s.heap.update l (Obj.mapSeq f), toks := t' } := by
 have q := PySem.IsL.update e f
 rw [hf] at q
 refine I.write (x := l) (e := l) (by rw [hH]; exact trivial) (.inl rfl) (fun b' u hb hu => (Heap.get?_update_other s.heap (Obj.mapSeq f) (Ne.symm hb)).trans hu) ⟨_, q⟩ ?_
 exact ⟨hz, its', _, hv, q⟩
theorem Inv.lnew {its : List Value} {t' : Nat} (I : Inv X pins σ H s) (hv : Vals ys its) (hz : ys.length <= sizeLine) :
  Inv X pins σ (upd H s.heap.objs.size (.lst ys)) { s with heap := s.heap.push { cls := .type "list", data := .seq its.toArray }, toks := t' } :=
 I.laid (fun _ _ q => Heap.get?_push_of_some _ q) (Nat.le_refl _) ⟨hz, its, 0, hv, Heap.get?_push_size _ rfl⟩
theorem Inv.fresh (I : Inv X pins σ H s) : H s.heap.objs.size = none := I.hok.fresh (Nat.le_refl _)
theorem Inv.lstM (I : Inv X pins σ H s) (hH : H l = some (.lst xs)) : xs.length <= sizeLine /\ ∃ (its : List Value) (n : Nat), Vals xs its /\ xs.length = its.length /\ s.heap.get? l = some { cls := .type "list", data := .seq its.toArray n } := by
 obtain ⟨z, its, n, r, e⟩ := I.hok l _ hH
 exact ⟨z, its, n, r, r.length, e⟩
theorem yw0 {n : Nat} (h : n <= sizeLine) : Builtin.List.listTooLong n = false := by
 unfold Builtin.List.listTooLong
 exact decide_eq_false (by omega)
end
section
variable {X : Cx}
def zg3 : V -> List V -> Hp -> VK -> Prop := fun x vs H Q => ∃ l xs y, x = .ref l /\ vs = [y] /\ H l = some (.lst xs) /\ xs.length < sizeLine /\ Q .non (upd H l (.lst (xs ++ [y])))
theorem Z8 : MtM X "list.append" zg3 := by
 intro pins s σ H x vs v us Q I rx rv h
 obtain ⟨l, xs, y, rfl, rfl, hH, hz, q⟩ := h
 cases rx
 obtain ⟨u, rfl, ru⟩ := rv.one
 obtain ⟨z, its, n, r, hl, e⟩ := I.lstM hH
 refine call_meets F.slot_list_append ⟨_, e, rfl⟩ F.entry_list_append (F.args_list_append_2 _ _) (PySem.list_append l its.toArray n u (by rw [size_toArray]; omega)) ⟨e, ?_⟩
 refine ⟨.non, _, I.lset (its' := its ++ [u]) hH e (by simp) (r.append (.cons ru .nil)) ?_, rfl, q⟩
 rw [length_append, length_singleton]
 omega
def rPop : V -> List V -> Hp -> VK -> Prop := fun x vs H Q => ∃ l xs y, x = .ref l /\ vs = [] /\ H l = some (.lst xs) /\ xs[xs.length - 1]? = some y /\ Q y (upd H l (.lst xs.dropLast))
theorem yd7 : MtM X "list.pop" rPop := by
 intro pins s σ H x vs v us Q I rx rv h
 obtain ⟨l, xs, y, rfl, rfl, hH, hy, q⟩ := h
 cases rx
 have hus := rv.zero
 subst hus
 obtain ⟨z, its, n, r, hl, e⟩ := I.lstM hH
 obtain ⟨u, hu, ru⟩ := r.get hy
 have hy' : its.toArray[its.toArray.size - 1]? = some u := by
  show its.toArray[its.length - 1]? = some u
  rw [<- Array.getElem?_toList, <- hl]
  exact hu
 refine call_meets F.slot_list_pop ⟨_, e, rfl⟩ F.entry_list_pop (F.args_list_pop_1 _) (MeetsSeq.list_pop_last l its.toArray n u hy' (by rw [size_toArray]; omega)) ⟨e, ?_⟩
 refine ⟨y, _, I.lset (its' := its.dropLast) hH e ?_ r.dropLast ?_, ru, q⟩
 ·show its.toArray.eraseIdxIfInBounds (its.toArray.size - 1) = its.dropLast.toArray
  rw [size_toArray, eraseIdxIfInBounds_toArray, zj3]
 ·rw [length_dropLast]
  omega
def rRep : R2 := fun x y H Q => ∃ l k xs, x = .ref l /\ y = .int k /\ H l = some (.lst xs) /\ -(2 ^ 63) <= k /\ k < 2 ^ 63 /\ xs.length * k.toNat <= sizeLine /\
 ∀ p, H p = none -> Q (.ref p) (upd H p (.lst (List.replicate k.toNat xs).flatten))
theorem yn9 {α : Type} (xs : List α) (k : Nat) : (List.replicate k xs).flatten.length = k * xs.length := by
 induction k with
 | zero => simp
 | succ k ih => rw [replicate_succ, flatten_cons, length_append, ih, Nat.succ_mul, Nat.add_comm]
theorem yf2 : OpR X (binaryOp .Mult) rRep := by
 intro pins s σ H x y v u Q I rx ry h
 obtain ⟨l, k, xs, rfl, rfl, hH, h1, h2, hz, q⟩ := h
 cases rx
 obtain ⟨t, rfl⟩ := ry
 obtain ⟨z, its, n, r, hl, e⟩ := I.lstM hH
 have hlen : its.toArray.size * k.toNat <= sizeLine := by rw [size_toArray, <- hl]; exact hz
 have hcap : ¬ its.toArray.size * k.toNat > (2 ^ 63 - 1) / 8 := by
  have : (sizeLine : Nat) <= (2 ^ 63 - 1) / 8 := by decide
  omega
 have hfit : ¬ (!Builtin.List.listFitsIndex k) = true := by
  rw [fitsIndex_both h1 h2]
  exact Bool.false_ne_true
 have hlong : ¬ Builtin.List.listTooLong (its.toArray.size * k.toNat) = true := by
  rw [yw0 hlen]
  exact Bool.false_ne_true
 have hnew : List.foldl (fun x1 x2 => x1 ++ x2) #[] (List.replicate (if its.toArray.isEmpty = true then 0 else k.toNat) its.toArray) = (List.replicate k.toNat its).flatten.toArray := by
  have f0 : ∀ m : Nat, List.foldl (fun x1 x2 => x1 ++ x2) #[] (List.replicate m its.toArray) = (List.replicate m its).flatten.toArray := fun m => by
   have := zu1 its m []
   rw [nil_append] at this
   exact this
  rw [f0]
  cases its with
  | nil => simp
  | cons a r' => rw [if_neg (by simp)]
 refine wpAny_binaryOp_repeat_ref (T := "list") (U := "int") (by decide) ⟨_, e, rfl⟩ (fun s' => typeIs_int s' k t) noFill_list_mul F.fills_int_mul F.slot_int_rmul repeat_list F.slot_int_index.lookup
  (call_meets F.slot_int_rmul (typeIs_int s k t) F.entry_int_rmul (F.args_int_rmul_2 _ _) (int___rmul___int_list k t l its.toArray n)
   ⟨e, rfl, ⟨_, e, rfl⟩, call_meets F.slot_list_mul ⟨_, e, rfl⟩ F.entry_list_mul (F.args_list_mul_2 _ _) (AutoListH.list___mul___list_int_3 l its.toArray n k t hfit hcap hlong) ⟨e, ?_⟩⟩)
 rw [hnew]
 exact ⟨.ref _, _, I.lnew (t' := s.toks) (r.rep k.toNat) (by rw [yn9, Nat.mul_comm]; exact hz), rfl, q _ I.fresh⟩
end
section
variable {prog : Program} {w : World} {A : Around} {E : Value -> Shared -> Prop} {s : Shared}
end
section
variable {X : Cx}
end
end
end L2
namespace Att
open PySem PySem.W PySem.Calls PyProof.Rows
theorem J3 {P : Params} {h : Heap} : ∀ (ns : List Int) (vs : List Value), WellAll P h vs (ns.map WData.int) -> IntsAre vs ns := by
 intro ns
 induction ns with
 | nil =>
  intro vs w
  rw [List.map_nil] at w
  cases w
  exact .nil
 | cons n ns ih =>
  intro vs w
  rw [List.map_cons] at w
  cases w with
  | cons a b =>
   cases a
   exact .cons _ _ (ih _ b)
theorem zh5 {l : OpenLaw} {n : Nat} (hn : l.most = some n) {P : Params} {h : Heap} {args : List WData} {vals : List Value}
  (hpre : l.row.toRowW.claim.pre args = true) (hwl : WellAll P h vals args) :
  ∃ a vs ns, vals = [Value.ref a] /\ args = [WData.list (ns.map WData.int)] /\ h.get? a = some { cls := .type "list", data := .seq vs.toArray } /\ IntsAre vs ns /\ ns.length <= n := by
 have hsh : WShape.hasAll [] args [.list .int] = true := (pre_splitW hpre).1
 have hc : l.pre.holds [] { args := args } = true := (pre_splitW hpre).2
 obtain ⟨d, r, rfl, h1, h2⟩ := hasAllW_cons hsh
 obtain rfl := hasAllW_nil h2
 obtain ⟨xs, rfl, h3⟩ := hasW_list h1
 obtain ⟨ns, rfl⟩ := items_int h3
 have hlen : ns.length <= n := by
  unfold OpenLaw.pre at hc
  have h4 : (WTm.not (.lt (.lit (.int (n : Int))) (.len (.arg 0)))).holds [] { args := [.list (ns.map .int)] } = true := by
   have h4 := (holds_andW hc).1
   rw [hn] at h4
   exact h4
  have h5 := condW_of h4 (w_not (w_lt w_lit (w_len_list (w_arg rfl))))
  rw [List.length_map] at h5
  refine Nat.le_of_not_lt fun q => ?_
  have q' : (n : Int) < ((ns.length : Nat) : Int) := by omega
  first
   | (rw [decide_eq_true q'] at h5; exact absurd h5 (by decide))
   | (simp at h5; omega)
 cases hwl with
 | cons w1 w2 =>
  cases w2
  cases w1 with
  | list ho hall => exact ⟨_, _, ns, rfl, rfl, ho, J3 ns _ hall, hlen⟩
theorem zf0 (l : OpenLaw) (args : List WData) : l.row.toRowW.claim.post args (.bool true) args = true :=
 postW_of (r := l.row.toRowW) (X := (true == true))
  (show WShape.has [] (.bool true) .bool = true by first | rfl | decide | simp [WShape.has, WShape.arms, WShape.armsAll])
  (show (WTm.eq .res (.lit (.bool true))).value [] { args := args, res := some (.bool true), after := args } = some (.bool (true == true)) from w_eq_bool (w_res rfl) w_lit) rfl
theorem attach_call {l : OpenLaw} {n : Nat} {q : Program} {loose : List Str} {XP : (Str -> Option Value) -> Heap -> Prop} {YP : World -> Heap -> Prop} {d : DefRec}
  (hn : l.most = some n) (hdf : d.params.defaults = [])
  (call : ∀ (w : World) (s₀ s₁ : Shared) (mg mb : Str -> Option Value) (fa : Addr) (o : Obj) (pm cd doc : Value) (a : Addr) (vs : List Value) (ns : List Int),
   Ground q loose [] XP w s₀ mg mb s₁.heap -> YP w s₁.heap ->
   s₁.heap.get? fa = some o -> o.data = .func (docDef d.name d.params d.body d.scope pm cd doc) -> s₁.heap.CodeRec cd d.name -> mg d.name = some (.ref fa) ->
   s₁.heap.get? a = some { cls := .type "list", data := .seq vs.toArray } -> IntsAre vs ns -> ns.length <= n -> s₁.gens = #[] ->
   codeAny (model l.prog w) callerA (.call (.ref fa) ⟨[.ref a], []⟩) (fun r s' => r = .ok (.ret (.bool true)) /\ OldK s₁.heap s'.heap /\ s'.os = s₁.os /\ AllBare s'.gens) s₁) :
  WalkO q loose XP YP l.row.toRowW d [] (fun f vs => PySem.call f vs) := by
 intro w s₀ s₁ mg mb G Y fa o pm cd doc dV kV ho hd hcd hD hmg hg args vals as hpre hlay hrd hwl hlo
 obtain rfl : dV = .none := Dflts.none hD hdf
 obtain rfl : kV = .none := Dflts.noKw hD
 obtain ⟨a, vs, ns, rfl, rfl, hobj, hints, hlen⟩ := zh5 hn hpre hwl
 refine enter_call (codeAny_mono (call w s₀ s₁ mg mb fa o pm cd doc a vs ns G Y ho (fd_plain hd) hcd hmg hobj hints hlen hg) fun r s' hq => ?_)
 obtain ⟨rfl, h2, h3, h4⟩ := hq
 exact ⟨.inl ⟨.bool true, .bool true, [], rfl, fun _ => rfl, .bool true, zf0 l _, fun _ => ⟨List.Pairwise.nil, fun _ hm => (nomatch hm)⟩⟩, h2, h3, h4⟩
section
variable {prog : Program} {w : World} {A : Around} {E : Value -> Shared -> Prop} {s : Shared} {K : Frag}
end
end Att
namespace L2
open List
open PySem PySem.Spec PyProof.Rows
section
theorem zy9 : ∀ {vs : List Value} {ns : List Int}, IntsAre vs ns -> Vals (ns.map V.int) vs
 | _, _, .nil => .nil
 | _, _, .cons n t h => .cons ⟨t, rfl⟩ (zy9 h)
def Only (H : Hp) : Prop := ∀ b, H b = none \/ ∃ o xs, H b = some (.frz o (.lst xs))
theorem yw9 {P : Program} {w : World} {K : W.Frag} {mg mb : Str -> Option Value} {CX : CXT} {k : Nat} {fa a : Addr} {fd : FuncData} {x : Str} {sp : Sp} {s₁ : Shared} {vs : List Value} {ns : List Int}
  (KX : K.In s₁.heap) (hns : s₁.heap.Ns mainGlobals mg) (hb : s₁.heap.Ns builtinsNs mb) (hbb : ∀ x : Str, x ≠ "__name__" -> mb x = bootBuiltins x) (hlim : s₁.heap.NoLimit) (hg : s₁.gens = #[])
  (ha : s₁.heap.get? a = some { cls := .type "list", data := .seq vs.toArray }) (hi : IntsAre vs ns) (hl : ns.length <= sizeLine) (hr : Room k callerA)
  (F : ∀ base : Heap, K.In base -> base.Ns mainGlobals mg -> FnOk P w K mg base CX k fa fd [x] sp) (hbind : ∀ (s : Shared) (u : Value), BindsTo s fd ⟨[u], []⟩ [(x, u)])
  (hsp : ∀ H : Hp, Only H -> SqL K H a (ns.map V.int) -> sp [.ref a] H (fun v _ => v = .bl true) fun _ _ _ => False)
  (hCX : ∀ H e s', CX [] H s₁ (fun _ _ _ => False) e s' -> False) :
  codeAny (model P w) callerA (.call (.ref fa) ⟨[.ref a], []⟩) (fun r s' => r = .ok (.ret (.bool true)) /\ OldK s₁.heap s'.heap /\ s'.os = s₁.os /\ AllBare s'.gens) s₁ := by
 have rv := zy9 hi
 have lenV := hi.length
 have core : ∀ H : Hp, Only H -> SqL K H a (ns.map V.int) -> HOk P w H s₁.heap -> (∀ b, H b ≠ none -> b = a) -> (H a ≠ none -> K.lookup a = none) ->
   codeAny (model P w) callerA (.call (.ref fa) ⟨[.ref a], []⟩) (fun r s' => r = .ok (.ret (.bool true)) /\ OldK s₁.heap s'.heap /\ s'.os = s₁.os /\ AllBare s'.gens) s₁ := by
  intro H hO hS hok hA hK
  have base_of : ∀ {b : Addr} {o : Obj}, s₁.heap.get? b = some o -> H b = none -> (hidT s₁.heap H).get? b = some o := fun e n => yv6 e n
  have noA : ∀ {b : Addr} {o : Obj} {es : Array DictEntry} {ep : Nat}, s₁.heap.get? b = some o -> o.data = .dict es ep -> H b = none := fun {b o es ep} e d => by
   cases q : H b with
   | none => rfl
   | some u =>
    have e' : b = a := hA b (by rw [q]; simp)
    subst e'
    rw [ha] at e; cases e
    have d' : Data.seq vs.toArray _ = Data.dict es ep := d
    cases d'
  have nsK : ∀ {b : Addr} {m : Str -> Option Value}, s₁.heap.Ns b m -> (hidT s₁.heap H).Ns b m := fun {b m} ⟨o, es, ep, e, d, r⟩ => ⟨o, es, ep, base_of e (noA e d), d, r⟩
  have hKb : K.In (hidT s₁.heap H) := fun b o e => base_of (KX b o e) (by
   cases q : H b with
   | none => rfl
   | some u =>
    have e' : b = a := hA b (by rw [q]; simp)
    subst e'
    rw [hK (by rw [q]; simp)] at e; cases e)
  have hM : Mod K mg (hidT s₁.heap H) := ⟨hKb, nsK hns, ⟨mb, nsK hb, hbb⟩, let ⟨mc, h1, h2⟩ := hlim; ⟨mc, nsK h1, h2⟩⟩
  have e0 : Env0 P w K mg (hidT s₁.heap H) callerA [] s₁ H := ⟨rfl, hM, fun b o e => yn5 e, Nat.le_of_eq (zc5 _ _), trivial, fun b hb => absurd (show b ∈ ([] : List Addr) from hb) (by simp), hok, .of_eq hg⟩
  refine codeAny_mono ((F _ hKb (nsK hns)).run callerA [] s₁ H ⟨[.ref a], []⟩ [.ref a] [.ref a] _ _ hr e0 (hbind s₁ (.ref a)) (.cons rfl .nil) (hsp H hO hS)) fun r s' h => ?_
  cases r with
  | error e => exact (hCX H e s' h).elim
  | ok fl =>
   cases fl with
   | next => exact False.elim h
   | brk => exact False.elim h
   | cont => exact False.elim h
   | ret u =>
    obtain ⟨v, H', os, bare, un, hok', r', q⟩ := h
    have q' : v = .bl true := q
    subst q'
    obtain rfl : u = Value.bool true := r'
    refine ⟨rfl, OldK.of_keep fun b o e => ?_, os, bare⟩
    cases q : H b with
    | none => exact un.keep b o e q (by intro z; exact absurd (show b ∈ ([] : List Addr) from z) (by simp)) (by simp)
    | some u =>
     rcases hO b with z | ⟨ob, xs, z⟩
     ·rw [q] at z; cases z
     ·have z2 := un.frzs b ob _ z
      obtain ⟨e1, _⟩ := hok b _ z
      obtain ⟨e2, _⟩ := hok' b _ z2
      rw [e] at e1; cases e1
      exact e2
 cases hk : K.lookup a with
 | some o =>
  have e := KX a o hk
  rw [ha] at e
  cases e
  refine core (fun _ => none) (fun _ => .inl rfl) (.inr ⟨_, vs.toArray, _, hk, rfl, rfl, rfl, by rw [size_toArray, lenV]; exact hl, by simpa using rv⟩) (fun b u z => by have z' : (none : Option HO) = some u := z; cases z') (fun b z => absurd rfl z) fun z => absurd rfl z
 | none =>
  refine core (fun b => if b = a then some (.frz { cls := .type "list", data := .seq vs.toArray } (.lst (ns.map V.int))) else none) (fun b => ?_) (.inl (.inr ⟨{ cls := .type "list", data := .seq vs.toArray }, if_pos rfl⟩)) (fun b u z => ?_) (fun b z => ?_) fun _ => hk
  ·by_cases hb : b = a
   ·exact .inr ⟨_, _, if_pos hb⟩
   ·exact .inl (if_neg hb)
  ·by_cases hb : b = a
   ·have z' := (if_pos hb).symm.trans z
    cases z'
    subst hb
    exact ⟨ha, by rw [length_map]; exact hl, vs, _, rv, ha⟩
   ·have z' := (if_neg hb).symm.trans z
    cases z'
  ·by_cases hb : b = a
   ·exact hb
   ·exact absurd (if_neg hb) z
end
section
theorem walk_of {l : W.OpenLaw} {n k : Nat} {q : Program} {loose : List Str} {XP : (Str -> Option Value) -> Heap -> Prop} {YP : World -> Heap -> Prop} {d : DefRec} {K : Params -> W.Frag} {CX : World -> CXT} {sp : World -> Sp} {x : Str}
  (hn : l.most = some n) (hn2 : n <= sizeLine) (hdf : d.params.defaults = []) (hr : Room k callerA)
  (hY : ∀ (w : World) (h : Heap), YP w h -> (K w.params).In h)
  (F : ∀ (w : World) (mg : Str -> Option Value) (fa : Addr) (h : Heap), (K w.params).In h -> h.Ns mainGlobals mg -> mg d.name = some (.ref fa) ->
   ∃ fd : FuncData, (∀ (s : Shared) (u : Value), BindsTo s fd ⟨[u], []⟩ [(x, u)]) /\
    ∀ base : Heap, (K w.params).In base -> base.Ns mainGlobals mg -> FnOk l.prog w (K w.params) mg base (CX w) k fa fd [x] (sp w))
  (hsp : ∀ (w : World) (H : Hp) (a : Addr) (ns : List Int), ns.length <= n -> Only H -> SqL (K w.params) H a (ns.map V.int) -> sp w [.ref a] H (fun v _ => v = .bl true) fun _ _ _ => False)
  (hCX : ∀ (w : World) (H : Hp) (s : Shared) (e : Value) (s' : Shared), CX w [] H s (fun _ _ _ => False) e s' -> False) :
  W.WalkO q loose XP YP l.row.toRowW d [] (fun f vs => PySem.call f vs) := by
 refine Att.attach_call hn hdf fun w s₀ s₁ mg mb fa o pm cd doc a vs ns G Y ho hd hcd hmg hobj hints hlen hg => ?_
 have KX := hY w _ Y
 obtain ⟨fd, hb, hF⟩ := F w mg fa _ KX G.T.g hmg
 exact yw9 KX G.T.g G.T.b G.T.builtins G.T.nolimit hg hobj hints (Nat.le_trans hlen hn2) hr hF hb (fun H hO hS => hsp w H a ns hlen hO hS) fun H e s' => hCX w H s₁ e s'
end
section
def l0 (s : Stmt) : Arguments := match s with
 | .FunctionDef _ a _ _ _ _ _ _ _ _ => a
 | _ => { posonlyargs := [], args := [], vararg := none, kwonlyargs := [], kw_defaults := [], kwarg := none, defaults := [] }
def t4 (s : Stmt) : List Stmt := match s with
 | .FunctionDef _ _ b _ _ _ _ _ _ _ => b
 | _ => []
def x0 (s : Stmt) : Scope := match s with
 | .FunctionDef _ _ _ _ _ _ sc _ _ _ => sc
 | _ => { kind := .function, names := [], isGenerator := false, isCoroutine := false }
abbrev CX0 : CXT := fun _ _ _ _ _ _ => False
abbrev E0 : XK := fun _ _ _ => False
theorem j5 {X : Cx} : zn4 CX0 X E0 := fun _ _ _ _ _ _ _ h => h.elim
structure Fun (K : W.Frag) (x qual : Str) (st : Stmt) (f : Addr) (fd : FuncData) : Prop where
 ex : ∃ (oc : Value) (od : Option Addr) (kV doc pm : Value) (an : Option Addr) (cdv ct : Value) (osl : Array (Option Value)),
  fd = W.fnOf x qual (l0 st) (t4 st) (x0 st) .none kV doc pm an cdv ct /\ K.lookup f = some ⟨oc, od, .func fd, osl⟩ /\ W.codeIn K cdv qual = true
 kp : W.keepIn K (.ref f) = true
section
variable {P : Program} {w : World} {K : W.Frag} {mg : Str -> Option Value} {base : Heap}
theorem Fun.ok {x qual : Str} {st : Stmt} {f : Addr} {fd : FuncData} {N ps : List Str} {k : Nat} {sp : Sp} (F : Fun K x qual st f fd) (S : FnScope N ps (x0 st)) (len : ∀ vs H Q E, sp vs H Q E -> vs.length = ps.length)
  (hbody : ∀ (cdv : Value) (A : Around) (outer : List Env) (s : Shared) (H : Hp) (vs : List V) (Q : VK) (E : XK), Room k (A.deeper (envOfC qual (x0 st) s.heap.objs.size f cdv)) -> sp vs H Q E ->
   ∃ t, PSs (cxOf CX0 P w K mg base N qual (x0 st) f cdv A outer s H E).nox (t4 st) t /\ t { nx := fun _ H' => Q .non H', rt := Q } (W0 N vs) H) : FnOk P w K mg base CX0 (k + 1) f fd ps sp := by
 obtain ⟨oc, od, kV, doc, pm, an, cdv, ct, osl, rfl, lk, hcd⟩ := F.ex
 refine yb5 lk hcd S len fun A outer s H vs Q E hr hsp => ?_
 obtain ⟨t, h, q⟩ := hbody cdv A outer s H vs Q E hr hsp
 exact ⟨t, h.nox, q⟩
theorem Fun.binds {x qual : Str} {st : Stmt} {f : Addr} {fd : FuncData} {ps : List Str} (F : Fun K x qual st f fd)
  (h : ∀ (kV doc pm : Value) (an : Option Addr) (cdv ct : Value) (us : List Value), us.length = ps.length -> bindArgs (W.fnOf x qual (l0 st) (t4 st) (x0 st) .none kV doc pm an cdv ct) ⟨us, []⟩ = pure (ps.zip us)) : Binds K fd ps [] := by
 obtain ⟨oc, od, kV, doc, pm, an, cdv, ct, osl, rfl, lk, hcd⟩ := F.ex
 exact .all (h kV doc pm an cdv ct)
theorem e7 {x qual : Str} {st : Stmt} {f : Addr} {oc : Value} {od an : Option Addr} {osl : Array (Option Value)} {kV doc pm cdv ct : Value} (l : K.lookup f = some ⟨oc, od, .func (W.fnOf x qual (l0 st) (t4 st) (x0 st) .none kV doc pm an cdv ct), osl⟩)
  (c : W.codeIn K cdv qual = true) (k : W.keepIn K (.ref f) = true) : Fun K x qual st f (W.fnOf x qual (l0 st) (t4 st) (x0 st) .none kV doc pm an cdv ct) := ⟨⟨oc, od, kV, doc, pm, an, cdv, ct, osl, rfl, l, c⟩, k⟩
end
section
variable {X : Cx}
theorem pv (i : Nat) {x : Str} {pos : Pos} (hN : X.N[i]? = some x := by rfl) (hv : Vis X.env.scope x := by first | exact Or.inl rfl | exact Or.inr (Or.inl rfl) | exact Or.inr (Or.inr rfl)) (hd : (x == ("__debug__" : Str)) = false := by decide)
  (hcd : (x == ("__classdict__" : Str)) = false := by decide) : PE X (.Name x pos) (tVar i) := yh6 hN hv hd hcd
end
theorem iteF {A B : Prop} (h : B) : if false = true then A else B := by
 rw [if_neg Bool.false_ne_true]
 exact h
theorem iteT {A B : Prop} (h : A) : if true = true then A else B := by
 rw [if_pos rfl]
 exact h
def Same (H H' : Hp) : Prop := ∀ b o, H b = some o -> H' b = some o
theorem Same.refl (H : Hp) : Same H H := fun _ _ h => h
theorem Same.trans {H H1 H2 : Hp} (a : Same H H1) (b : Same H1 H2) : Same H H2 := fun c o h => b c o (a c o h)
theorem Same.free {H H' : Hp} (e : Same H H') {l : Addr} (h : H' l = Option.none) : H l = Option.none := by
 cases q : H l with
 | none => rfl
 | some o =>
  rw [e l o q] at h
  cases h
theorem Same.seq {K : W.Frag} {H H' : Hp} {a : Addr} {xs : List V} (e : Same H H') (h : SqL K H a xs) : SqL K H' a xs := by
 rcases h with (h | ⟨o, h⟩) | h
 ·exact .inl (.inl (e _ _ h))
 ·exact .inl (.inr ⟨o, e _ _ h⟩)
 ·exact .inr h
end
section
def clOf (cells : List (Str × Addr)) : List (Str × NameKind) -> List (Str × Addr) -> List (Str × Addr)
 | [], cs => cs
 | (n, k) :: r, cs => if k = .free then (match cells.lookup n with | some c => clOf cells r ((n, c) :: cs) | none => clOf cells r cs) else clOf cells r cs
theorem S7 {env : Env} : ∀ (names : List (Str × NameKind)) (cs : List (Str × Addr)), (∀ x ∈ names, x.2 = .free -> ∃ c, env.cells.lookup x.1 = some c) ->
  (forIn names cs fun x r => if (x.2 == NameKind.free) = true then do let c ← cellOf env x.1; pure (ForInStep.yield ((x.1, c) :: r)) else pure (ForInStep.yield r) : Sem (List (Str × Addr))) = pure (clOf env.cells names cs)
 | [], cs, _ => rfl
 | (n, k) :: r, cs, h => by
  have hr : ∀ x ∈ r, x.2 = .free -> ∃ c, env.cells.lookup x.1 = some c := fun x hx => h x (mem_cons_of_mem _ hx)
  rw [forIn_cons]
  by_cases hk : k = .free
  ·subst hk
   obtain ⟨c, hc⟩ := h (n, .free) mem_cons_self rfl
   have hc' : env.cells.lookup n = some c := hc
   have e : cellOf env n = pure c := by unfold cellOf; rw [hc']
   simp only [beq_self_eq_true, if_true, e, pure_bind]
   rw [S7 r _ hr]
   simp only [clOf, if_true, hc']
  ·have hb : (k == NameKind.free) = false := by simpa using hk
   simp only [hb, Bool.false_eq_true, if_false, pure_bind]
   rw [S7 r cs hr]
   simp only [clOf, hk, if_false]
theorem J4 {env : Env} {scope : Scope} (h : ∀ x ∈ scope.names, x.2 = .free -> ∃ c, env.cells.lookup x.1 = some c) : closureFor scope env = pure (clOf env.cells scope.names []) := by
 have q := S7 (env := env) scope.names [] h
 simp only [closureFor]
 refine Eq.trans ?_ q
 have e : ∀ (m : Sem (List (Str × Addr))), (m >>= fun cs => pure cs) = m := fun m => by simp
 first | (rw [e]; rfl) | rfl | simp
theorem M8 {cells : List (Str × Addr)} {x : Str} {c : Addr} : ∀ (names : List (Str × NameKind)) (cs : List (Str × Addr)), (∀ y d, cs.lookup y = some d -> cells.lookup y = some d) -> (clOf cells names cs).lookup x = some c -> cells.lookup x = some c
 | [], cs, h, e => h x c e
 | (n, k) :: r, cs, h, e => by
  unfold clOf at e
  split at e
  ·split at e
   ·rename_i d hd
    refine M8 r _ (fun y d' q => ?_) e
    rw [lookup_cons] at q
    split at q
    ·rename_i hy
     have : y = n := by simpa using hy
     subst this
     cases q; exact hd
    ·exact h y d' q
   ·exact M8 r cs h e
  ·exact M8 r cs h e
theorem Q8 {cells : List (Str × Addr)} {x : Str} : ∀ (names : List (Str × NameKind)) (cs : List (Str × Addr)), (cs.lookup x).isSome = true -> ((clOf cells names cs).lookup x).isSome = true
 | [], cs, h => h
 | (n, k) :: r, cs, h => by
  unfold clOf
  split
  ·split
   ·refine Q8 r _ ?_
    rw [lookup_cons]; split
    ·rfl
    ·exact h
   ·exact Q8 r cs h
  ·exact Q8 r cs h
theorem Q9 {cells : List (Str × Addr)} {x : Str} {c : Addr} (hc : cells.lookup x = some c) : ∀ (names : List (Str × NameKind)) (cs : List (Str × Addr)), (x, NameKind.free) ∈ names -> ((clOf cells names cs).lookup x).isSome = true
 | [], cs, h => absurd h (by simp)
 | (n, k) :: r, cs, h => by
  unfold clOf
  rcases List.mem_cons.mp h with e | h
  ·cases e
   rw [if_pos rfl, hc]
   refine Q8 r _ ?_
   simp [lookup_cons]
  ·split
   ·split
    ·exact Q9 hc r _ h
    ·exact Q9 hc r cs h
   ·exact Q9 hc r cs h
theorem X1 {env : Env} : ∀ {names : List (Str × NameKind)} {x : Str}, names.lookup x = some .free ->
  (names.map fun (n, k) => if (k == NameKind.free && env.scope.kind == .function && env.kindOf n == some .cell) then (n, NameKind.cell) else (n, k)).lookup x = some .cell \/
  (names.map fun (n, k) => if (k == NameKind.free && env.scope.kind == .function && env.kindOf n == some .cell) then (n, NameKind.cell) else (n, k)).lookup x = some .free
 | [], _, h => by simp at h
 | (n, k) :: r, x, h => by
  have ih := @X1 env r x
  show List.lookup x ((if (k == NameKind.free && env.scope.kind == .function && env.kindOf n == some .cell) = true then (n, NameKind.cell) else (n, k)) :: _) = _ \/ List.lookup x ((if (k == NameKind.free && env.scope.kind == .function && env.kindOf n == some .cell) = true then (n, NameKind.cell) else (n, k)) :: _) = _
  by_cases hc : (k == NameKind.free && env.scope.kind == .function && env.kindOf n == some .cell) = true
  ·rw [if_pos hc]
   cases hx : x == n with
   | true => left; simp only [lookup_cons, hx]
   | false => simp only [lookup_cons, hx] at h ⊢; exact ih h
  ·rw [if_neg hc]
   cases hx : x == n with
   | true => right; simp only [lookup_cons, hx] at h ⊢; exact h
   | false => simp only [lookup_cons, hx] at h ⊢; exact ih h
theorem V5 {env : Env} : ∀ {names : List (Str × NameKind)} {x : Str} {k : NameKind}, (∀ y ∈ names, y.2 ≠ .cell) ->
  (names.map fun (n, k) => if (k == NameKind.free && env.scope.kind == .function && env.kindOf n == some .cell) then (n, NameKind.cell) else (n, k)).lookup x = some k -> (k = .cell \/ k = .free) -> (x, NameKind.free) ∈ names
 | [], _, _, _, h, _ => by simp at h
 | (n, k') :: r, x, k, hc0, h, hk => by
  have ih := @V5 env r x k (fun y hy => hc0 y (mem_cons_of_mem _ hy))
  have h : List.lookup x ((if (k' == NameKind.free && env.scope.kind == .function && env.kindOf n == some .cell) = true then (n, NameKind.cell) else (n, k')) :: _) = _ := h
  by_cases hc : (k' == NameKind.free && env.scope.kind == .function && env.kindOf n == some .cell) = true
  ·rw [if_pos hc] at h
   have hf : k' = .free := by
    have := hc; simp only [Bool.and_eq_true] at this; simpa using this.1.1
   cases hx : x == n with
   | true =>
    have hxn : x = n := by simpa using hx
    subst hxn; subst hf; exact mem_cons_self
   | false => simp only [lookup_cons, hx] at h; exact mem_cons_of_mem _ (ih h hk)
  ·rw [if_neg hc] at h
   cases hx : x == n with
   | true =>
    have hxn : x = n := by simpa using hx
    subst hxn
    simp only [lookup_cons, hx] at h
    have e : k' = k := Option.some.inj h
    subst e
    rcases hk with hk | hk
    ·exact absurd hk (hc0 _ mem_cons_self)
    ·subst hk; exact mem_cons_self
   | false => simp only [lookup_cons, hx] at h; exact mem_cons_of_mem _ (ih h hk)
end
section
structure Blk (X : Cx) (sc : Scope) (N : List Str) (src : List (Option Nat)) : Prop where
 kind : sc.kind = .function
 nocell : ∀ y ∈ sc.names, y.2 ≠ .cell
 names : ∀ y ∈ sc.names, y.2 = .local -> sc.names.lookup y.1 = some .local
 free : ∀ y ∈ sc.names, y.2 = .free -> X.env.kindOf y.1 = some .cell \/ X.env.kindOf y.1 = some .free
 fv : ∀ (j i : Nat), src[j]? = some (some i) -> ∃ x, N[j]? = some x /\ X.N[i]? = some x /\ sc.names.lookup x = some .free
 len : src.length = N.length
def blk0 (src : List (Option Nat)) (σ : St) : St := src.map fun o => o.bind fun i => (σ[i]?).join
def V4 (X : Cx) (sc : Scope) (C : Addr) (N : List Str) (fp : List Addr) (s : Shared) (H : Hp) : Cx where
 prog := X.prog
 w := X.w
 K := X.K
 mg := X.mg
 base := X.base
 A := X.A
 N := N
 s₀ := s
 H₀ := H
 env := compEnvC sc (clOf X.env.cells sc.names []) C X.env
 outer := X.stack
 stack := X.stack
 ex := fp
 fn := fun _ => false
 calm := true
 pn := []
 xe := fun _ _ => False
section
variable {X : Cx} {pins : List (Addr × Obj)} {σ : St} {H : Hp} {s : Shared}
theorem Blk.cl {sc : Scope} {N : List Str} {src : List (Option Nat)} (B : Blk X sc N src) (ok : X.Ok) : closureFor sc X.env = pure (clOf X.env.cells sc.names []) :=
 J4 fun x hx hk => ok.has x.1 (B.free x hx hk)
theorem N4 {sc : Scope} {x : Str} {c : Addr} (h : (clOf X.env.cells sc.names []).lookup x = some c) : X.env.cells.lookup x = some c :=
 M8 sc.names [] (fun y d e => by simp at e) h
theorem za6 {sc : Scope} {N : List Str} {src : List (Option Nat)} {fp : List Addr} {D C : Addr} {h4 : Heap} {t : Nat} {m : Str -> Option Value}
  (B : Blk X sc N src) (I : Inv X pins σ H s) (hc : X.calm = true) (hf : ∀ b ∈ fp, FpOk X pins H b) (hfo : ∀ b ∈ fp, ∃ o, s.heap.get? b = some o)
  (hk : ∀ b o, s.heap.get? b = some o -> h4.get? b = some o) (hD : s.heap.objs.size <= D) (hDl : h4.get? D = some { cls := .type "list", data := .seq #[] 0 })
  (hn : h4.Ns C m) (hC : s.heap.objs.size <= C) (hDC : D ≠ C) :
  Inv (V4 X sc C N fp s H) [] (blk0 src σ) (upd H D (.lst [])) { s with heap := h4, toks := t } := by
 have hHD : H D = none := I.hok.fresh hD
 have hHC : H C = none := I.hok.fresh hC
 have new : ObjOk X.prog X.w (upd H D (.lst [])) h4 D (.lst []) := ⟨Nat.zero_le _, [], 0, .nil, hDl⟩
 have cC : ∀ x c, X.env.cells.lookup x = some c -> c ≠ C := fun x c e z => by
  obtain ⟨v, q⟩ := I.cell x c e
  exact absurd (Nat.lt_of_lt_of_le q.lt (by rw [z]; exact hC)) (Nat.lt_irrefl _)
 have cD : ∀ x c, X.env.cells.lookup x = some c -> c ≠ D := fun x c e z => by
  obtain ⟨v, q⟩ := I.cell x c e
  exact absurd (Nat.lt_of_lt_of_le q.lt (by rw [z]; exact hD)) (Nat.lt_irrefl _)
 refine ⟨⟨I.ok.mod, ?_, I.ok.glob, I.ok.blt, hC, fun x y c h1 h2 => ?_, fun x hx => ?_, fun x c h _ => (by cases h), fun _ => I.ok.hd hc, I.ok.frames, .inl rfl, fun b hb => ⟨?_, fun x c e => ?_⟩, I.bs, Nat.le_trans I.ok.bsz I.sz, fun b o e hb => ?_, fun b hb z => ?_, I.stack, I.stkFree⟩,
  rfl, I.bare, Un.laid hk hD hHD, ⟨m, hn, fun i x v e1 e2 e3 => ?_⟩, fun x c e => ?_, ?_, fun x c e => ?_, fun p hp => ?_, I.hok.laid hk hD new, ?_⟩
 ·show (relabel sc X.env).kind = _
  exact B.kind
 ·exact I.ok.inj x y c (N4 h1) (N4 h2)
 ·have hx' : (∃ k, (relabel sc X.env).names.lookup x = some k /\ (k = .cell \/ k = .free)) := by
   rcases hx with hx | hx
   ·exact ⟨_, hx, .inl rfl⟩
   ·exact ⟨_, hx, .inr rfl⟩
  obtain ⟨k, e, hk'⟩ := hx'
  have hm := V5 B.nocell e hk'
  obtain ⟨c, hc'⟩ := I.ok.has x (B.free _ hm rfl)
  exact Option.isSome_iff_exists.mp (Q9 hc' sc.names [] hm)
 ·obtain ⟨o, e⟩ := hfo b hb
  exact Nat.ne_of_lt (Nat.lt_of_lt_of_le (Heap.lt_size e) hC)
 ·exact (hf b hb).2.2.2.2.1 x c (N4 e)
 ·rcases (hf b hb).2.2.2.1 with z | z
  ·exact I.ok.noex b o e z
  ·exact absurd (Nat.lt_of_lt_of_le (Heap.lt_size e) (Nat.le_trans I.ok.bsz z)) (Nat.lt_irrefl _)
 ·rcases List.mem_cons.mp (I.stkSub b z) with z | z
  ·exact (hf b hb).2.1 z
  ·exact (hf b hb).2.2.1 z
 ·have e2' : ∃ k, src[i]? = some (some k) /\ σ[k]? = some (some v) := by
   unfold blk0 at e2
   rw [getElem?_map] at e2
   cases q : src[i]? with
   | none => rw [q] at e2; cases e2
   | some o =>
    rw [q] at e2
    cases o with
    | none => cases e2
    | some k =>
     refine ⟨k, rfl, ?_⟩
     have e2 : (σ[k]?).join = some v := Option.some.inj e2
     cases qq : σ[k]? with
     | none => rw [qq] at e2; cases e2
     | some z => rw [qq] at e2; exact congrArg some e2
  obtain ⟨k, ek, ev⟩ := e2'
  obtain ⟨x', n1, n2, n3⟩ := B.fv i k ek
  have : x' = x := by
   have e1 : N[i]? = some x := e1
   rw [n1] at e1; exact Option.some.inj e1
  subst this
  obtain ⟨m0, hn0, hl0⟩ := I.loc
  have hfk := B.free (x', .free) (PySem.mem_of_lookup n3) rfl
  obtain ⟨u, r, l⟩ := hl0 k x' v n2 ev (by rcases hfk with z | z; exact .inr (.inl z); exact .inr (.inr z))
  refine ⟨u, r, .inr ⟨?_, ?_⟩⟩
  ·exact X1 n3
  ·rcases l with ⟨l, _⟩ | ⟨_, c, ec, z⟩
   ·rcases hfk with q | q <;> (rw [q] at l; cases l)
   ·obtain ⟨c', ec'⟩ := Option.isSome_iff_exists.mp (Q9 ec sc.names [] (PySem.mem_of_lookup n3))
    have := N4 ec'
    rw [ec] at this; cases this
    obtain ⟨o, ho, hd⟩ := z
    exact ⟨c, ec', o, hk c o ho, hd⟩
 ·obtain ⟨v, o, ho, hd⟩ := I.cell x c (N4 e)
  exact ⟨v, o, hk c o ho, hd⟩
 ·show upd H D _ C = none
  rw [w8 (Ne.symm hDC)]; exact hHC
 ·rw [w8 (cD x c (N4 e))]; exact I.freeC x c (N4 e)
 ·exact absurd (show p ∈ ([] : List (Addr × Obj)) ++ [] from hp) (by simp)
 ·show (blk0 src σ).length = N.length
  unfold blk0; rw [length_map]; exact B.len
end
end
section
abbrev noE : Value -> Shared -> Prop := fun _ _ => False
theorem toE {α : Type} {t : Sem α} {Q Q' : α -> Shared -> Prop} {M : Model} {A : Around} {E : Value -> Shared -> Prop} {s : Shared} (h : wpAny M A t Q noE s) (hQ : ∀ a s, Q a s -> Q' a s) : wpAny M A t Q' E s :=
 wpAny_mono h hQ fun _ _ x => x.elim
abbrev zu5 (ifs : List Expr) (env : Env) : Sem Bool := forIn ifs true fun c r => if r = true then do let ok ← isTrue c env (eval c env); pure (ForInStep.yield ok) else pure (ForInStep.yield r)
theorem zu6 {prog : Program} {w : World} {A : Around} {R : Result -> Shared -> Prop} {s : Shared} {elt target iter : Expr} {ifs : List Expr} {scope : Scope} {pos : Pos} {it acc : Value} {env : Env} (I : Nat -> Shared -> Prop)
  (turn : ∀ n s, I n s -> wpAny (model prog w) A (pyNext it) (fun r s₁ => match r with
   | none => R (.ok .next) s₁
   | some v => wpAny (model prog w) A (letOwnedTupleGo target it v) (fun _ s₁' => wpAny (model prog w) A (assign target env v) (fun _ s₂ =>
     wpAny (model prog w) A (zu5 ifs env) (fun ok s₃ =>
      if ok = true then wpAny (model prog w) A (eval elt env) (fun x s₄ =>
       wpAny (model prog w) A (call (.builtin "list.append") [acc, x]) (fun _ s₅ => ∃ m, m < n /\ I m s₅) noE s₄) noE s₃
      else ∃ m, m < n /\ I m s₃) noE s₂) noE s₁') noE s₁) noE s)
  (n : Nat) (h : I n s) :
  codeAny (model prog w) A (.compLoop (.ListComp elt [⟨target, iter, ifs, 0⟩] scope pos) 0 it acc env) R s := by
 refine codeAny_loop rfl I (fun n s hI => ?_) n h
 show wpAny _ A ((compTurn (.ListComp elt [⟨target, iter, ifs, 0⟩] scope pos) 0 it acc env).onRaise (fun x => do noteFrame x env; theTreesLotGoes x)) _ _ s
 refine wpAny_noted ?_
 rw [compTurn_list]
 refine wpAny_bind (wpAny_standAt (wpAny_bind (toE (turn n s hI) (fun r s₁ h₁ => ?_))))
 cases r with
 | none => exact wpAny_pure h₁
 | some v =>
  refine wpAny_bind (toE h₁ fun _ s₁' h₁' => ?_)
  refine wpAny_bind (toE h₁' (fun _ s₂ h₂ => wpAny_bind (toE h₂ (fun ok s₃ h₃ => ?_))))
  cases ok with
  | false => exact wpAny_pure ⟨rfl, h₃⟩
  | true =>
   exact wpAny_bind (wpAny_bind (toE h₃ (fun x s₄ h₄ => wpAny_bind (toE h₄ (fun _ s₅ h₅ => wpAny_pure (wpAny_pure ⟨rfl, h₅⟩))))))
def PTs (X : Cx) (ifs : List Expr) (t : TT) : Prop :=
 ∀ (pins : List (Addr × Obj)) (s : Shared) (σ : St) (H : Hp) (Q : Bool -> Hp -> Prop), Inv X pins σ H s -> t σ H Q -> wpAny (model X.prog X.w) X.A (zu5 ifs X.env) (TP X pins σ Q) X.xe s
def tYes : TT := fun _ H Q => Q true H
theorem yq7 {X : Cx} : PTs X [] tYes := fun pins s σ H Q I h => wpAny_pure ⟨H, I, h⟩
def zt8 (src : List (Option Nat)) (wi : TI) (g : TG) (tc : TT) (te : TE) : TE := fun σ H Q => wi σ H fun J H1 => ∀ D, H1 D = none -> ∃ W : Nat -> Nat -> St -> Hp -> Prop, (∃ m, W 0 m (blk0 src σ) (upd H1 D (.lst []))) /\ ∀ i m σ' H', W i m σ' H' ->
 (J.stop i H' /\ Q (.ref D) H') \/ (J.go i H' /\ ∃ N : St -> Hp -> Prop, (∀ σ2 H2, N σ2 H2 -> ∃ m', m' < m /\ W (i + 1) m' σ2 H2) /\ ∀ x H2, J.yld i H' x H2 -> g x σ' H2 fun σ3 H3 => tc σ3 H3 fun b H4 =>
  if b = true then te σ3 H4 fun y H5 => ∃ xs, H5 D = some (.lst xs) /\ xs.length < sizeLine /\ N σ3 (upd H5 D (.lst (xs ++ [y]))) else N σ3 H4)
section
variable {X : Cx}
theorem D4 {sc : Scope} {N : List Str} {src : List (Option Nat)} {tg elt iter : Expr} {ifs : List Expr} {pos : Pos} {g : TG} {tc : TT} {te : TE} (B : Blk X sc N src) (hc : X.calm = true)
  (hg : ∀ C fp s H, PG (V4 X sc C N fp s H) tg g) (ht : ∀ C fp s H, PTs (V4 X sc C N fp s H) ifs tc) (he : ∀ C fp s H, PE (V4 X sc C N fp s H) elt te)
  {pins : List (Addr × Obj)} {σ : St} {H : Hp} {s : Shared} {it : Addr} {fp : List Addr} {tn : Nat -> Heap -> Prop} {J : It} {Q : VK} {E : Value -> Shared -> Prop}
  (I : Inv X pins σ H s) (T : Turn X.prog X.w X.K tg J fp it tn) (st : tn 0 s.heap) (hf : ∀ b ∈ fp, FpOk X pins H b)
  (hW : ∀ D, H D = none -> ∃ W : Nat -> Nat -> St -> Hp -> Prop, (∃ m, W 0 m (blk0 src σ) (upd H D (.lst []))) /\ ∀ i m σ' H', W i m σ' H' ->
   (J.stop i H' /\ Q (.ref D) H') \/ (J.go i H' /\ ∃ N : St -> Hp -> Prop, (∀ σ2 H2, N σ2 H2 -> ∃ m', m' < m /\ W (i + 1) m' σ2 H2) /\ ∀ x H2, J.yld i H' x H2 -> g x σ' H2 fun σ3 H3 => tc σ3 H3 fun b H4 =>
    if b = true then te σ3 H4 fun y H5 => ∃ xs, H5 D = some (.lst xs) /\ xs.length < sizeLine /\ N σ3 (upd H5 D (.lst (xs ++ [y]))) else N σ3 H4))
  {RR : Value -> Addr -> Result -> Shared -> Prop}
  (hRR : ∀ D C H' s' m', Inv X pins σ H' s' -> s'.heap.Ns C m' -> H' C = none -> s.heap.objs.size <= C -> Q (.ref D) H' -> RR (.ref D) C (.ok .next) s') :
  wpAny (model X.prog X.w) X.A (newList []) (fun acc s₃ => wpAny (model X.prog X.w) X.A (newFunctionEnv sc X.env.globals (clOf X.env.cells sc.names []) [] X.env.qual none .none (some X.env)) (fun cenv s₄ =>
   codeAny (model X.prog X.w) X.A (.compStart (.ListComp elt [⟨tg, iter, ifs, 0⟩] sc pos) 0 (.ref it) acc { cenv with scope := relabel sc X.env }) (RR acc cenv.locals) s₄) E s₃) E s := by
 refine wpAny_newObj_type (wpAny_newFunctionEnv B.nocell (by intro y hy; simp at hy) (fun h₁ hns₁ hsb₁ => ?_) B.kind)
 dsimp only at hns₁ hsb₁ ⊢
 generalize hH2 : s.heap.push { cls := .type "list", dict := none, data := .seq ([] : List Value).toArray } = H2 at hns₁ hsb₁ ⊢
 have hC : H2.objs.size = s.heap.objs.size + 1 := by rw [<- hH2, Heap.size_push]
 have hDC : s.heap.objs.size ≠ H2.objs.size := by rw [hC]; exact Nat.ne_of_lt (Nat.lt_succ_self _)
 have hCle : s.heap.objs.size <= H2.objs.size := by rw [hC]; exact Nat.le_succ _
 have below : ∀ b, b < s.heap.objs.size -> b ≠ H2.objs.size := fun b hb => by rw [hC]; exact Nat.ne_of_lt (Nat.lt_succ_of_lt hb)
 have old : ∀ b o, s.heap.get? b = some o -> h₁.get? b = some o := fun b o e => hsb₁.extBut b o (below b (Heap.lt_size e)) (Heap.get?_push_of_some _ (hH2 ▸ Heap.get?_push_of_some _ e))
 have hacc : h₁.get? s.heap.objs.size = some { cls := .type "list", data := .seq #[] 0 } := hsb₁.extBut _ _ hDC (Heap.get?_push_of_some _ (hH2 ▸ Heap.get?_push_size _ rfl))
 have hfo : ∀ b ∈ fp, ∃ o, s.heap.get? b = some o := fun b hb => by obtain ⟨o, e, _⟩ := T.obj _ _ st b hb; exact ⟨o, e⟩
 have st1 : tn 0 h₁ := T.keep _ _ _ st fun b _ o e => old b o e
 obtain ⟨W, ⟨m0, w0⟩, turn⟩ := hW s.heap.objs.size I.fresh
 have I1 := za6 (t := s.toks + ([] : List (Str × Value)).length) B I hc hf hfo old (Nat.le_refl _) hacc hns₁ hCle hDC
 have stat : ∀ {H' : Hp}, (∀ b ∈ fp, H' b = none) -> ∀ b ∈ fp, FpOk (V4 X sc H2.objs.size N fp s H) [] H' b := fun {H'} hn b hb => by
  obtain ⟨f0, f1, f2, f3, f4, f5⟩ := hf b hb
  refine ⟨hn b hb, I1.ok.exf b hb |>.1, I1.ok.exfs b hb, .inl hb, fun x c e => f4 x c (N4 e), fun p hp => absurd (show p ∈ ([] : List (Addr × Obj)) ++ [] from hp) (by simp)⟩
 have hfD : ∀ b ∈ fp, b ≠ s.heap.objs.size := fun b hb z => by
  obtain ⟨o, e⟩ := hfo b hb
  exact absurd (Heap.lt_size e) (by rw [z]; exact Nat.lt_irrefl _)
 have loop : ∀ s₃ : Shared, s₃ = { s with heap := h₁, toks := s.toks + ([] : List (Str × Value)).length } ->
   codeAny (model X.prog X.w) X.A (.compLoop (.ListComp elt [⟨tg, iter, ifs, 0⟩] sc pos) 0 (.ref it) (.ref s.heap.objs.size) (compEnvC sc (clOf X.env.cells sc.names []) H2.objs.size X.env))
    (RR (.ref s.heap.objs.size) H2.objs.size) s₃ := by
  rintro s₃ rfl
  refine zu6 (fun n s' => ∃ i σ' H', Inv (V4 X sc H2.objs.size N fp s H) [] σ' H' s' /\ tn i s'.heap /\ (∀ b ∈ fp, H' b = none) /\ W i n σ' H') ?_ m0
   ⟨0, _, _, I1, st1, fun b hb => by rw [w8 (hfD b hb)]; exact (hf b hb).1, w0⟩
  rintro n s3 ⟨i, σ3, H3, I3, st3, fr3, w3⟩
  rcases turn i n σ3 H3 w3 with ⟨stop, qn⟩ | ⟨go, N', hN', step⟩
  ·refine thn (T.done (V4 X sc H2.objs.size N fp s H) rfl rfl rfl rfl i [] s3 σ3 H3 noE I3 (stat fr3) st3 stop) fun r s4 ⟨hr, I4⟩ => ?_
   subst hr
   obtain ⟨m4, hn4, _⟩ := id I4.loc
   refine hRR _ _ H3 s4 m4 ?_ hn4 I4.free hCle qn
   exact I.call' (ch := fp) I4.os I4.base I4.hok I4.bare fun b hb => ⟨(hf b hb).2.2.2.1, (hf b hb).2.1, (hf b hb).2.2.2.2.1, (hf b hb).2.2.2.2.2⟩
  ·refine thn (T.item (V4 X sc H2.objs.size N fp s H) rfl rfl rfl rfl i [] s3 σ3 H3 noE I3 (stat fr3) st3 go) fun r s4 ⟨u, hr, h4⟩ => ?_
   subst hr
   refine thn h4 fun _ s5 hpat => ?_
   obtain ⟨x, H5, I5, r5, y5, st5, fr5⟩ := hpat
   have I5' := I5.pinned (stat fr5) (T.obj _ _ st5)
   have again : ∀ {s7 : Shared} {σ7 : St} {H7 : Hp}, Inv (V4 X sc H2.objs.size N fp s H) ([] ++ zw2 fp s5.heap) σ7 H7 s7 -> N' σ7 H7 -> ∃ m, m < n /\ ∃ i σ' H', Inv (V4 X sc H2.objs.size N fp s H) [] σ' H' s7 /\ tn i s7.heap /\ (∀ b ∈ fp, H' b = none) /\ W i m σ' H' := fun {s7 σ7 H7} I7 n7 => by
    obtain ⟨m', hm, w7⟩ := hN' σ7 H7 n7
    refine ⟨m', hm, i + 1, σ7, H7, I7.unpinned, T.keep _ _ _ st5 fun b hb o e => (I7.pin (b, o) (mem_append_right _ (mem_append_right _ (T4 hb e)))).1, fun b hb => ?_, w7⟩
    obtain ⟨o, e, d⟩ := T.obj _ _ st5 b hb
    exact (I7.pin (b, o) (mem_append_right _ (mem_append_right _ (T4 hb e)))).2.1
   refine thn (hg _ _ _ _ _ s5 σ3 H5 x u _ I5' r5 (step x H5 y5)) fun _ s6 hpat => ?_
   obtain ⟨σ6, H6, I6, q6⟩ := hpat
   refine thn (ht _ _ _ _ _ s6 σ6 H6 _ I6 q6) fun ok s7 hpat => ?_
   obtain ⟨H7, I7, q7⟩ := hpat
   cases ok with
   | false =>
    rw [if_neg Bool.false_ne_true] at q7 ⊢
    exact again I7 q7
   | true =>
    rw [if_pos rfl] at q7 ⊢
    refine thn (he _ _ _ _ _ s7 σ6 H7 _ I7 q7) fun y s8 hpat => ?_
    obtain ⟨v8, H8, I8, r8, q8⟩ := hpat
    obtain ⟨xs, hD8, hz8, n8⟩ := q8
    refine thn (Z8 _ s8 σ6 H8 (.ref s.heap.objs.size) [v8] (.ref s.heap.objs.size) [y] (fun _ H9 => H9 = upd H8 s.heap.objs.size (.lst (xs ++ [v8]))) I8 rfl (.cons r8 .nil) ⟨_, xs, v8, rfl, rfl, hD8, hz8, rfl⟩) fun _ s9 hpat => ?_
    obtain ⟨v9, H9, I9, r9, q9⟩ := hpat
    subst q9
    exact again I9 n8
 refine codeAny_compStart_list (loop _ rfl) (toE (T.self X.A 0 { s with heap := h₁, toks := s.toks + ([] : List (Str × Value)).length } (fun v s' => v = .ref it /\ s' = { s with heap := h₁, toks := s.toks + ([] : List (Str × Value)).length }) noE st1 ⟨rfl, rfl⟩) fun v s' hpat => ?_)
 obtain ⟨e1, e2⟩ := hpat
 subst e1; subst e2
 exact loop _ rfl
theorem Inv.letGo {pins : List (Addr × Obj)} {σ : St} {H : Hp} {s s0 : Shared} {C : Addr} {h' : Heap} (I : Inv X pins σ H s) (I0 : ∃ σ0 H0, Inv X pins σ0 H0 s0) (hC : s0.heap.objs.size <= C) (hn : H C = none) (hs : Heap.SameBut C s.heap h') : Inv X pins σ H { s with heap := h' } := by
 obtain ⟨σ0, H0, I0⟩ := I0
 refine I.turned (t' := s.toks) (it := C) (fun b o hb e => (hs.2 b hb).trans e) hn (Nat.ne_of_gt (Nat.lt_of_lt_of_le I0.lt hC)) (.inr (Nat.le_trans I0.sz hC)) (fun x c e z => ?_) fun p hp z => ?_
 ·obtain ⟨v, q⟩ := I0.cell x c e
  exact absurd (Nat.lt_of_lt_of_le q.lt (by rw [z]; exact hC)) (Nat.lt_irrefl _)
 ·exact absurd (Nat.lt_of_lt_of_le (Heap.lt_size (I0.pin p hp).1) (by rw [z]; exact hC)) (Nat.lt_irrefl _)
theorem yo1 {sc : Scope} {N : List Str} {src : List (Option Nat)} {tg elt iter : Expr} {ifs : List Expr} {pos : Pos} {wi : TI} {g : TG} {tc : TT} {te : TE} (B : Blk X sc N src) (hc : X.calm = true)
  (hi : PI X tg iter wi) (hg : ∀ C fp s H, PG (V4 X sc C N fp s H) tg g) (ht : ∀ C fp s H, PTs (V4 X sc C N fp s H) ifs tc) (he : ∀ C fp s H, PE (V4 X sc C N fp s H) elt te)
  (hs : ∀ x, foldedSetIterable iter X.env x = pure x := by intro _; rfl) :
  PE X (.ListComp elt [⟨tg, iter, ifs, 0⟩] sc pos) (zt8 src wi g tc te) := by
 intro pins s σ H Q I h
 rw [eval_ListComp]
 refine wpAny_comprehension_free (use := none) rfl hs (B.cl I.ok) B.kind B.names (wpAny_mono (hi pins s σ H _ I h) (fun xv s₁ h₁ => wpAny_mono h₁ (fun itv s₂ h₂ => ?_) fun _ _ e => e) fun _ _ e => e)
 obtain ⟨it, fp, tn, J, H2, rfl, I2, T, st2, f2, hW⟩ := h₂
 refine D4 (RR := fun acc C => compPost (model X.prog X.w) X.A X.xe none (EP X pins σ Q) acc C) (Q := Q) B hc hg ht he I2 T st2 f2 hW ?_
 intro D C H' s' m' I' hn hC hCs q
 exact ⟨m', hn, fun h'' hs'' => ⟨.ref D, H', I'.letGo ⟨_, _, I2⟩ hCs hC hs'', rfl, q⟩⟩
theorem zs2 {i : Nat} {y : Str} {py : Pos} {sc : Scope} {N : List Str} {src : List (Option Nat)} {tg elt iter : Expr} {ifs : List Expr} {pos spos : Pos} {wi : TI} {g : TG} {tc : TT} {te : TE} (hN : X.N.Nodup) (hi' : X.N[i]? = some y) (hx : Loc X.env.scope y)
  (B : Blk X sc N src) (hc : X.calm = true)
  (hi : PI X tg iter wi) (hg : ∀ C fp s H, PG (V4 X sc C N fp s H) tg g) (ht : ∀ C fp s H, PTs (V4 X sc C N fp s H) ifs tc) (he : ∀ C fp s H, PE (V4 X sc C N fp s H) elt te)
  (hsw : swapsWith (.ListComp elt [⟨tg, iter, ifs, 0⟩] sc pos) (some (.Name y py)) spos.line X.env = pure true := by rfl)
  (hs : ∀ x, foldedSetIterable iter X.env x = pure x := by intro _; rfl) (hf : X.fn y = true \/ X.env.scope.names.lookup y = some .local := by first | exact .inl rfl | exact .inr rfl | assumption) :
  PS X (.Assign [.Name y py] (.ListComp elt [⟨tg, iter, ifs, 0⟩] sc pos) spos) (tAsg (zt8 src wi g tc te) (F8 i)) := by
 intro pins s σ H Dn I h
 rw [exec_Assign_Name_used _ _ _ _ hsw]
 refine wpAny_bind (wpAny_standAt (wpAny_bind ?_))
 show wpAny _ _ (do let _ ← comprehension (.ListComp elt [⟨tg, iter, ifs, 0⟩] sc pos) sc X.env _ (newList []) false (eval iter X.env) (some (assign (.Name y py) X.env))) _ _ s
 refine wpAny_bind (wpAny_mono (wpAny_comprehension_free (use := some (assign (.Name y py) X.env)) (Q := fun _ s' => SP X pins Dn .next s') rfl hs (B.cl I.ok) B.kind B.names
  (wpAny_mono (hi pins s σ H _ I h) (fun xv s₁ h₁ => wpAny_mono h₁ (fun itv s₂ h₂ => ?_) fun _ _ e => e) fun _ _ e => e)) (fun _ s' hq => wpAny_pure (wpAny_pure hq)) fun _ _ e => e)
 obtain ⟨it, fp, tn, J, H2, rfl, I2, T, st2, f2, hW⟩ := h₂
 refine D4 (RR := fun acc C => compPost (model X.prog X.w) X.A X.xe (some (assign (.Name y py) X.env)) (fun _ s' => SP X pins Dn .next s') acc C) (Q := fun x H1 => F8 i x σ H1 Dn.nx) B hc hg ht he I2 T st2 f2 hW ?_
 intro D C H' s' m' I' hn hC hCs q
 show wpAny _ _ (assign (.Name y py) X.env (.ref D)) _ _ _
 refine wpAny_assign_Name (zx1 I' hN hi' hx (v := .ref D) rfl (fun s'' I'' hpat => ?_) hf)
 obtain ⟨a, hsb, ha⟩ := hpat
 have hCa : C ≠ a := fun z => by
  rcases ha with ha | ha
  ·have := I2.lt; rw [<- ha, <- z] at this
   exact absurd (Nat.lt_of_lt_of_le this hCs) (Nat.lt_irrefl _)
  ·obtain ⟨v, qv⟩ := I2.cell y a ha
   exact absurd (Nat.lt_of_lt_of_le qv.lt (by rw [<- z]; exact hCs)) (Nat.lt_irrefl _)
 exact ⟨m', hn.sameBut hsb hCa, fun h'' hs'' => ⟨_, H', I''.letGo ⟨_, _, I2⟩ hCs hC hs'', q⟩⟩
end
end
section
section
variable {X : Cx} {pins : List (Addr × Obj)} {σ : St} {H : Hp} {s : Shared} {h' : Heap}
theorem Inv.turnedL {t' : Nat} {fp : List Addr} (I : Inv X pins σ H s) (k : ∀ b o, b ∉ fp -> s.heap.get? b = some o -> h'.get? b = some o) (hf : ∀ b ∈ fp, FpOk X pins H b) : Inv X pins σ H { s with heap := h', toks := t' } := by
 have nit : ∀ b u, H b = some u -> b ∉ fp := fun b u e z => by rw [(hf b z).1] at e; cases e
 refine I.step (g' := s.gens) (d' := s.drawn) (ch := fp) (fun b hb => ⟨(hf b hb).2.2.2.1, (hf b hb).2.1, (hf b hb).2.2.2.2.1, (hf b hb).2.2.2.2.2⟩) (fun b o _ _ hc e _ => k b o hc e) (fun b o _ _ hc e _ => ⟨o.slots, k b o hc e⟩) (fun _ _ _ _ n => n)
  (fun b o hc e => ⟨o, k b o hc e⟩) (fun _ _ e => e) (fun _ _ _ e => e) (fun b ps e => ⟨#[], by rw [e]; simp⟩) (fun m hm => ?_) (fun b u e => ?_) I.bare
 ·obtain ⟨o, es, ep, ho, r⟩ := hm
  exact ⟨o, es, ep, k _ o (fun z => (hf _ z).2.1 rfl) ho, r⟩
 ·refine (I.hok b u e).stay (fun c v hc q => k c v ?_ q) (fun _ q => q) fun _ _ q => q
  rcases hc with z | z
  ·rw [z]; exact nit b u e
  ·exact nit c _ z
theorem Inv.turnedN {t' : Nat} {fp : List Addr} {T : Addr} {o : HO} (I : Inv X pins σ H s) (k : ∀ b o, b ∉ fp -> s.heap.get? b = some o -> h'.get? b = some o) (hf : ∀ b ∈ fp, FpOk X pins H b) (hT : s.heap.objs.size <= T)
  (new : ObjOk X.prog X.w (upd H T o) h' T o) : Inv X pins σ (upd H T o) { s with heap := h', toks := t' } := by
 have hn : H T = none := I.hok.fresh hT
 have ne : ∀ b u, s.heap.get? b = some u -> b ≠ T := fun b u e z => absurd (Nat.lt_of_lt_of_le (Heap.lt_size e) (by rw [z]; exact hT)) (Nat.lt_irrefl _)
 have nit : ∀ b u, H b = some u -> b ∉ fp := fun b u e z => by rw [(hf b z).1] at e; cases e
 refine I.step (g' := s.gens) (d' := s.drawn) (ch := fp) (fun b hb => ⟨(hf b hb).2.2.2.1, (hf b hb).2.1, (hf b hb).2.2.2.2.1, (hf b hb).2.2.2.2.2⟩) (fun b o _ _ hc e _ => k b o hc e) (fun b o _ _ hc e _ => ⟨o.slots, k b o hc e⟩) (fun b o _ e n => by rw [w8 (ne b o e)]; exact n)
  (fun b o hc e => ⟨o, k b o hc e⟩) (fun b xs e => by rw [w8 (t8 e hn)]; exact e) (fun b _ _ e => by rw [w8 (t8 e hn)]; exact e) (fun b ps e => ⟨#[], by rw [w8 (t8 e hn), e]; simp⟩) (fun m hm => ?_) (fun b u e => ?_) I.bare
 ·obtain ⟨o, es, ep, ho, r⟩ := hm
  exact ⟨o, es, ep, k _ o (fun z => (hf _ z).2.1 rfl) ho, r⟩
 ·by_cases hb : b = T
  ·subst hb; rw [w9] at e; cases e; exact new
  ·rw [w8 hb] at e
   refine (I.hok b u e).stay (fun c v hc q => k c v ?_ q) (fun c q => by rw [w8 (t8 q hn)]; exact q) fun c xs q => by rw [w8 (t8 q hn)]; exact q
   rcases hc with z | z
   ·rw [z]; exact nit b u e
   ·exact nit c _ z
end
def Itz2 (K : W.Frag) (l1 l2 : Addr) : It :=
 ⟨fun i H => ∃ xs ys x y, SqL K H l1 xs /\ SqL K H l2 ys /\ xs[i]? = some x /\ ys[i]? = some y,
  fun i H v H' => ∃ t x y, v = .ref t /\ H t = none /\ H' = upd H t (.tup [x, y]) /\ (∀ xs, SqL K H l1 xs -> xs[i]? = some x) /\ (∀ ys, SqL K H l2 ys -> ys[i]? = some y),
  fun i H => ∃ xs ys, SqL K H l1 xs /\ SqL K H l2 ys /\ (xs.length <= i \/ ys.length <= i)⟩
structure Zip2 (z TI TO i1 i2 : Addr) : Prop where
 TIz : TI ≠ z
 TOz : TO ≠ z
 i1z : i1 ≠ z
 i2z : i2 ≠ z
 TITO : TI ≠ TO
 TIi1 : TI ≠ i1
 TIi2 : TI ≠ i2
 TOi1 : TO ≠ i1
 TOi2 : TO ≠ i2
 i12 : i1 ≠ i2
theorem W2 {h : Heap} {a b : Addr} {o u : Obj} (e : h.get? a = some o) (e' : h.get? b = some u) (d : o.cls ≠ u.cls) : a ≠ b := by
 intro z; subst z; rw [e] at e'; exact d (congrArg Obj.cls (Option.some.inj e'))
theorem f9 {n : String} (h : ("list" == n) = false) : Value.type "list" ≠ Value.type n := fun e => by cases e; revert h; decide
theorem yz5 (n : Nat) : Zip2 (n + 4) (n + 2) (n + 3) n (n + 1) := by
 constructor <;> (show ((_ : Nat) ≠ _); omega)
theorem E3 {h : Heap} {z TI TO i1 i2 l1 l2 : Addr} {its1 its2 : Array Value} {a b f0 : Value} {k1 k2 : Nat} (D : Zip2 z TI TO i1 i2) (hz : IsZip h z TI TO f0) (hTO : IsPair h TO a b) (h1 : h.IsListIter i1 l1 k1) (h2 : h.IsListIter i2 l2 k2)
  (p1 : h.IsList l1 its1) (p2 : h.IsList l2 its2) : ZipApart z TI TO i1 i2 l1 l2 := by
 obtain ⟨o1, e1, c1, _⟩ := h1
 obtain ⟨o2, e2, c2, _⟩ := h2
 obtain ⟨p1o, pe1, pc1, _⟩ := p1
 obtain ⟨p2o, pe2, pc2, _⟩ := p2
 exact ⟨D.TIz, D.TOz, D.i1z, D.i2z, D.TITO, D.TIi1, D.TIi2, D.TOi1, D.TOi2, D.i12,
  W2 pe1 hz (by rw [pc1]; exact f9 (by decide)), W2 pe1 hTO (by rw [pc1]; exact f9 (by decide)), W2 pe1 e1 (by rw [pc1, c1]; decide), W2 pe1 e2 (by rw [pc1, c2]; decide),
  W2 pe2 hz (by rw [pc2]; exact f9 (by decide)), W2 pe2 hTO (by rw [pc2]; exact f9 (by decide)), W2 pe2 e1 (by rw [pc2, c1]; decide), W2 pe2 e2 (by rw [pc2, c2]; decide)⟩
theorem zh0 {P : Program} {w : World} {K : W.Frag} {es : List Expr} {tk : Nat} {tp : Pos} (z TI TO i1 i2 l1 l2 : Addr) (D : Zip2 z TI TO i1 i2) :
  Turn P w K (.Tuple es tk tp) (Itz2 K l1 l2) [z, TI, TO, i1, i2] z
   (fun i h => IsZip h z TI TO .none /\ IsPair h TI (.ref i1) (.ref i2) /\ (∃ a b, IsPair h TO a b) /\ h.IsListIter i1 l1 i /\ h.IsListIter i2 l2 i) where
 mem := by simp
 obj := fun i h st b hb => by
  obtain ⟨hz, hTI, ⟨a, c, hTO⟩, ⟨o1, e1, _, d1⟩, ⟨o2, e2, _, d2⟩⟩ := st
  simp only [mem_cons, not_mem_nil, or_false] at hb
  rcases hb with rfl | rfl | rfl | rfl | rfl
  ·exact ⟨_, hz, fun v q => by cases q⟩
  ·exact ⟨_, hTI, fun v q => by cases q⟩
  ·exact ⟨_, hTO, fun v q => by cases q⟩
  ·exact ⟨_, e1, fun v q => by rw [d1] at q; cases q⟩
  ·exact ⟨_, e2, fun v q => by rw [d2] at q; cases q⟩
 keep := fun i h h' st k => by
  obtain ⟨hz, hTI, ⟨a, c, hTO⟩, h1, h2⟩ := st
  exact ⟨k z (by simp) _ hz, k TI (by simp) _ hTI, ⟨a, c, k TO (by simp) _ hTO⟩, h1.at fun o e => k i1 (by simp) o e, h2.at fun o e => k i2 (by simp) o e⟩
 item := by
  intro X hP hw hK hc i pins s σ H E I hf st hg
  subst hP hw hK
  obtain ⟨xs, ys, x, y, hq1, hq2, hx, hy⟩ := hg
  obtain ⟨its1, rv1, p1, _⟩ := I.list hq1
  obtain ⟨its2, rv2, p2, _⟩ := I.list hq2
  obtain ⟨u, hu, ru⟩ := rv1.get hx
  obtain ⟨v, hv, rw'⟩ := rv2.get hy
  obtain ⟨hz, hTI, ⟨a, b, hTO⟩, h1, h2⟩ := st
  have Z := E3 D hz hTO h1 h2 p1.isList p2.isList
  refine wpAny_pyNext_zip_item Z hz hTI hTO h1 h2 p1.isList p2.isList (x := u) (y := v) (by simpa using hu) (by simpa using hv) fun h' a1 a2 a3 a4 a5 a6 hk => ?_
  refine ⟨_, rfl, ?_⟩
  refine wpAny_letOwnedTupleGo_zip a1 fun h'' hz'' hs'' => ?_
  have hzs : z < s.heap.objs.size := Heap.lt_size hz
  have kk : ∀ c o, c ∉ [z, TI, TO, i1, i2] -> s.heap.get? c = some o -> h''.get? c = some o := fun c o hc e => by
   simp only [mem_cons, not_mem_nil, or_false, not_or] at hc
   exact hs''.extBut _ _ hc.1 (hk c o hc.1 hc.2.2.1 hc.2.2.2.1 hc.2.2.2.2 e)
  have hT : h''.get? s.heap.objs.size = some { cls := .type "tuple", data := .seq #[u, v] } := hs''.extBut _ _ (Nat.ne_of_gt hzs) a5
  have I2 : Inv X pins σ (upd H s.heap.objs.size (.tup [x, y])) { s with heap := h'', toks := s.toks } :=
   I.turnedN (T := s.heap.objs.size) (o := .tup [x, y]) kk hf (Nat.le_refl _) ⟨by show 2 <= sizeLine; decide, [u, v], .cons ru (.cons rw' .nil), ⟨_, hT, rfl, _, rfl⟩⟩
  refine ⟨.ref s.heap.objs.size, _, I2, rfl, ⟨_, x, y, rfl, I.fresh, rfl, fun zs hzs' => by rw [I.list_inj hzs' hq1]; exact hx, fun zs hzs' => by rw [I.list_inj hzs' hq2]; exact hy⟩,
   ⟨hz'', hs''.extBut _ _ D.TIz (hk _ _ D.TIz D.TITO D.TIi1 D.TIi2 hTI), ⟨_, _, hs''.extBut _ _ D.TOz a2⟩, a3.extBut hs''.extBut D.i1z, a4.extBut hs''.extBut D.i2z⟩, fun c hc' => ?_⟩
  have hlt : c < s.heap.objs.size := by
   obtain ⟨o1, e1, _⟩ := h1
   obtain ⟨o2, e2, _⟩ := h2
   simp only [mem_cons, not_mem_nil, or_false] at hc'
   rcases hc' with rfl | rfl | rfl | rfl | rfl
   ·exact hzs
   ·exact Heap.lt_size hTI
   ·exact Heap.lt_size hTO
   ·exact Heap.lt_size e1
   ·exact Heap.lt_size e2
  rw [w8 (Nat.ne_of_lt hlt)]
  exact (hf c hc').1
 done := by
  intro X hP hw hK hc i pins s σ H E I hf st hg
  subst hP hw hK
  obtain ⟨xs, ys, hq1, hq2, hl⟩ := hg
  obtain ⟨its1, rv1, p1, _⟩ := I.list hq1
  obtain ⟨its2, rv2, p2, _⟩ := I.list hq2
  obtain ⟨hz, hTI, ⟨a, b, hTO⟩, h1, h2⟩ := st
  have Z := E3 D hz hTO h1 h2 p1.isList p2.isList
  have l1' := rv1.length
  have l2' := rv2.length
  refine wpAny_pyNext_zip_end (I.ok.hd hc) Z hz hTI hTO h1 h2 p1.isList p2.isList (hl.elim (fun q => .inl (by simp; omega)) fun q => .inr (by simp; omega)) fun h' hk => ⟨rfl, ?_⟩
  exact I.turnedL (t' := s.toks) (fun c o hc e => by
   simp only [mem_cons, not_mem_nil, or_false, not_or] at hc
   exact hk c o hc.1 hc.2.2.1 hc.2.2.2.1 hc.2.2.2.2 e) hf
 self := fun _ _ _ _ _ st h => wpAny_pyIter_zip st.1 h
section
variable {X : Cx}
def xx7 (K : W.Frag) (ta : TA) : TI := fun σ H R => ta σ H fun vs H1 => ∃ a b xs ys, vs = [.ref a, .ref b] /\ SqL K H1 a xs /\ SqL K H1 b ys /\ R (Itz2 K a b) H1
theorem yp6 {a b : Expr} {ta : TA} {p pos : Pos} {es : List Expr} {tk : Nat} {tp : Pos} (hg : Gl X "zip") (hm : X.mg "zip" = none) (ha : PA X [a, b] ta) (hs : starEach [a, b] X.env = [(false, eval a X.env), (false, eval b X.env)] := by rfl) (hs2 : starEach [b] X.env = [(false, eval b X.env)] := by rfl) :
  PI X (.Tuple es tk tp) (.Call (.Name "zip" p) [a, b] [] pos) (xx7 X.K ta) := by
 intro pins s σ H R I h
 refine Call_ (N2 I hg hm boot_zip (PyProof.Rows.callWith_type1 (thn (ha pos pins s σ H _ I h) fun us s1 hpat => ?_) (by rw [hs, hs2]) (by rw [hs2]; rfl)))
 obtain ⟨vs, H1, I1, r1, q1⟩ := hpat
 obtain ⟨l1, l2, xs, ys, e, q1, q2, q⟩ := q1
 subst e
 cases r1 with
 | cons r rr =>
  cases rr with
  | cons r' rr =>
   cases rr
   cases r
   cases r'
   obtain ⟨its1, rv1, p1, _⟩ := I1.list q1
   obtain ⟨its2, rv2, p2, _⟩ := I1.list q2
   refine call_zip_2 p1.isList p2.isList fun h' hz hTI hTO hi1 hi2 hsz hk => ?_
   have I2 : Inv X pins σ H1 { s1 with heap := h', toks := s1.toks } := I1.kept hk
   refine wpAny_pyIter_zip (s := { s1 with heap := h' }) hz ?_
   refine ⟨_, [s1.heap.objs.size + 4, s1.heap.objs.size + 2, s1.heap.objs.size + 3, s1.heap.objs.size, s1.heap.objs.size + 1], _, _, H1, rfl, I2, zh0 _ _ _ _ _ l1 l2 (yz5 _),
    ⟨hz, hTI, ⟨_, _, hTO⟩, hi1, hi2⟩, fun b hb => ?_, q⟩
   have hb' : s1.heap.objs.size <= b := by
    simp only [mem_cons, not_mem_nil, or_false] at hb
    rcases hb with rfl | rfl | rfl | rfl | rfl
    ·exact Nat.le_add_right _ 4
    ·exact Nat.le_add_right _ 2
    ·exact Nat.le_add_right _ 3
    ·exact Nat.le_refl _
    ·exact Nat.le_add_right _ 1
   exact I1.fpOk hb' (I1.hok.fresh hb')
end
end
section
abbrev j6 (h : Heap) (T : Addr) (a b c : Value) : Prop := h.get? T = some { cls := .type "tuple", data := .seq #[a, b, c] }
structure Zip3 (z TI TO i1 i2 i3 : Addr) : Prop where
 TIz : TI ≠ z
 TOz : TO ≠ z
 i1z : i1 ≠ z
 i2z : i2 ≠ z
 i3z : i3 ≠ z
 TITO : TI ≠ TO
 TIi1 : TI ≠ i1
 TIi2 : TI ≠ i2
 TIi3 : TI ≠ i3
 TOi1 : TO ≠ i1
 TOi2 : TO ≠ i2
 TOi3 : TO ≠ i3
 i12 : i1 ≠ i2
 i13 : i1 ≠ i3
 i23 : i2 ≠ i3
theorem yz4 (n : Nat) : Zip3 (n + 5) (n + 3) (n + 4) n (n + 1) (n + 2) := by
 constructor <;> (show ((_ : Nat) ≠ _); omega)
structure Apart3 (z TO i1 i2 i3 l : Addr) : Prop where
 lz : l ≠ z
 lTO : l ≠ TO
 l1 : l ≠ i1
 l2 : l ≠ i2
 l3 : l ≠ i3
section
variable {prog : Program} {w : World} {A : Around} {E : Value -> Shared -> Prop} {s : Shared}
theorem e9 {T : Addr} {a b c x : Value} {k : Nat} {Q : Unit -> Shared -> Prop} (hT : j6 s.heap T a b c)
  (h : ∀ h', h'.get? T = some { cls := .type "tuple", data := .seq ((#[a, b, c] : Array Value).setIfInBounds k x) } -> Heap.SameBut T s.heap h' -> Q () { s with heap := h' }) :
  wpAny (model prog w) A (updateSeq T (·.setIfInBounds k x)) Q E s := by
 refine wpAny_updateSeq hT rfl (h _ ?_ (Heap.SameBut.update ..))
 rw [Heap.get?_update_self _ hT rfl]
 simp [Obj.mapSeq]
theorem J8 {z TI TO i1 i2 i3 l1 l2 l3 : Addr} {k1 k2 k3 : Nat} {xs ys zs : Array Value} {x y v a b c : Value} {Q : Value -> Shared -> Prop} (D : Zip3 z TI TO i1 i2 i3) (A1 : Apart3 z TO i1 i2 i3 l1) (A2 : Apart3 z TO i1 i2 i3 l2) (A3 : Apart3 z TO i1 i2 i3 l3)
  (hz : IsZip s.heap z TI TO .none) (hTI : j6 s.heap TI (.ref i1) (.ref i2) (.ref i3)) (hTO : j6 s.heap TO a b c)
  (h1 : s.heap.IsListIter i1 l1 k1) (h2 : s.heap.IsListIter i2 l2 k2) (h3 : s.heap.IsListIter i3 l3 k3) (hl1 : s.heap.IsList l1 xs) (hl2 : s.heap.IsList l2 ys) (hl3 : s.heap.IsList l3 zs) (hx : xs[k1]? = some x) (hy : ys[k2]? = some y) (hv : zs[k3]? = some v)
  (hQ : ∀ h', IsZip h' z TI TO (rawInt s.heap.objs.size) -> j6 h' TO x y v -> h'.IsListIter i1 l1 (k1 + 1) -> h'.IsListIter i2 l2 (k2 + 1) -> h'.IsListIter i3 l3 (k3 + 1) -> j6 h' s.heap.objs.size x y v -> h'.objs.size = s.heap.objs.size + 1 ->
   (∀ c o, c ≠ z -> c ≠ TO -> c ≠ i1 -> c ≠ i2 -> c ≠ i3 -> s.heap.get? c = some o -> h'.get? c = some o) -> Q (.ref s.heap.objs.size) { s with heap := h' }) :
  wpAny (model prog w) A (Builtin.«zip.__next__» ⟨[.ref z], []⟩) (fun fin s' => ∃ v, fin = .done (.ret v) /\ Q v s') E s := by
 show wpAny _ _ (field (.ref z) 2 >>= _) _ _ _
 refine wpAny_bind (wpAny_field hz rfl (x := .bool false) rfl ?_)
 show wpAny _ _ (field (.ref z) 3 >>= _) _ _ _
 refine wpAny_bind (wpAny_field hz rfl (x := .ref TI) rfl ?_)
 refine wpAny_bind (wpAny_seqItems hTI rfl ?_)
 show wpAny _ _ (Builtin.SmallTypes.ownedTupleIsFree (.ref z) >>= _) _ _ _
 refine wpAny_bind ?_
 unfold Builtin.SmallTypes.ownedTupleIsFree
 refine wpAny_bind (wpAny_field hz rfl (x := .none) rfl (wpAny_pure ?_))
 simp only [if_true]
 refine wpAny_bind (wpAny_rule ?_)
 refine wpAny_bind (wpAny_field hz rfl (x := .ref TO) rfl ?_)
 refine wpAny_bind (wpAny_setField_rec hz (by simp) fun h₁ hz₁ hs₁ => ?_)
 replace hz₁ : IsZip h₁ z TI TO .ellipsis := hz₁
 refine wpAny_bind ?_
 simp only [zipIdx_cons, zipIdx_nil, forIn_cons, forIn_nil]
 refine wpAny_bind (wpAny_bind (wpAny_onRaise ?_))
 show wpAny _ _ (Builtin.SmallTypes.nextOf (.ref i1) >>= _) _ _ _
 refine wpAny_bind (wpAny_nextOf_list_item (h1.extBut hs₁.extBut D.i1z) (hl1.extBut hs₁.extBut A1.lz) hx fun h₂ h1₂ hs₂ => wpAny_pure ?_)
 have hTO₂ : j6 h₂ TO a b c := hs₂.extBut _ _ D.TOi1 (hs₁.extBut _ _ D.TOz hTO)
 refine wpAny_bind (wpAny_seqItems hTO₂ rfl ?_)
 refine wpAny_bind (e9 hTO₂ fun h₃ hTO₃ hs₃ => ?_)
 replace hTO₃ : j6 h₃ TO x b c := hTO₃
 refine wpAny_bind (wpAny_letGo (wpAny_pure ?_))
 refine wpAny_bind (wpAny_bind (wpAny_onRaise ?_))
 show wpAny _ _ (Builtin.SmallTypes.nextOf (.ref i2) >>= _) _ _ _
 refine wpAny_bind (wpAny_nextOf_list_item (((h2.extBut hs₁.extBut D.i2z).extBut hs₂.extBut D.i12.symm).extBut hs₃.extBut D.TOi2.symm)
  (((hl2.extBut hs₁.extBut A2.lz).extBut hs₂.extBut A2.l1).extBut hs₃.extBut A2.lTO) hy fun h₄ h2₄ hs₄ => wpAny_pure ?_)
 have hTO₄ : j6 h₄ TO x b c := hs₄.extBut _ _ D.TOi2 hTO₃
 refine wpAny_bind (wpAny_seqItems hTO₄ rfl ?_)
 refine wpAny_bind (e9 hTO₄ fun h₅ hTO₅ hs₅ => ?_)
 replace hTO₅ : j6 h₅ TO x y c := hTO₅
 refine wpAny_bind (wpAny_letGo (wpAny_pure ?_))
 refine wpAny_bind (wpAny_bind (wpAny_onRaise ?_))
 show wpAny _ _ (Builtin.SmallTypes.nextOf (.ref i3) >>= _) _ _ _
 refine wpAny_bind (wpAny_nextOf_list_item (((((h3.extBut hs₁.extBut D.i3z).extBut hs₂.extBut D.i13.symm).extBut hs₃.extBut D.TOi3.symm).extBut hs₄.extBut D.i23.symm).extBut hs₅.extBut D.TOi3.symm)
  (((((hl3.extBut hs₁.extBut A3.lz).extBut hs₂.extBut A3.l1).extBut hs₃.extBut A3.lTO).extBut hs₄.extBut A3.l2).extBut hs₅.extBut A3.lTO) hv fun h₆ h3₆ hs₆ => wpAny_pure ?_)
 have hTO₆ : j6 h₆ TO x y c := hs₆.extBut _ _ D.TOi3 hTO₅
 refine wpAny_bind (wpAny_seqItems hTO₆ rfl ?_)
 refine wpAny_bind (e9 hTO₆ fun h₇ hTO₇ hs₇ => ?_)
 replace hTO₇ : j6 h₇ TO x y v := hTO₇
 refine wpAny_bind (wpAny_letGo (wpAny_pure (wpAny_pure ?_)))
 refine wpAny_bind (wpAny_seqItems hTO₇ rfl ?_)
 refine wpAny_bind (wpAny_newTuple ?_)
 have hsz : h₇.objs.size = s.heap.objs.size := by rw [hs₇.1, hs₆.1, hs₅.1, hs₄.1, hs₃.1, hs₂.1, hs₁.1]
 have hz₇ : IsZip h₇ z TI TO .ellipsis := hs₇.extBut _ _ D.TOz.symm (hs₆.extBut _ _ D.i3z.symm (hs₅.extBut _ _ D.TOz.symm (hs₄.extBut _ _ D.i2z.symm (hs₃.extBut _ _ D.TOz.symm (hs₂.extBut _ _ D.i1z.symm hz₁)))))
 have hk₇ : ∀ c o, c ≠ z -> c ≠ TO -> c ≠ i1 -> c ≠ i2 -> c ≠ i3 -> s.heap.get? c = some o -> h₇.get? c = some o := fun c o c1 c2 c3 c4 c5 e =>
  hs₇.extBut _ _ c2 (hs₆.extBut _ _ c5 (hs₅.extBut _ _ c2 (hs₄.extBut _ _ c4 (hs₃.extBut _ _ c2 (hs₂.extBut _ _ c3 (hs₁.extBut _ _ c1 e))))))
 have h1₇ : h₇.IsListIter i1 l1 (k1 + 1) := ((((h1₂.extBut hs₃.extBut D.TOi1.symm).extBut hs₄.extBut D.i12).extBut hs₅.extBut D.TOi1.symm).extBut hs₆.extBut D.i13).extBut hs₇.extBut D.TOi1.symm
 have h2₇ : h₇.IsListIter i2 l2 (k2 + 1) := ((h2₄.extBut hs₅.extBut D.TOi2.symm).extBut hs₆.extBut D.i23).extBut hs₇.extBut D.TOi2.symm
 have h3₇ : h₇.IsListIter i3 l3 (k3 + 1) := h3₆.extBut hs₇.extBut D.TOi3.symm
 have hzlt : z < h₇.objs.size := Heap.lt_size hz₇
 show wpAny _ _ (Builtin.SmallTypes.ownedTupleHandOut (.ref z) (.ref h₇.objs.size) >>= _) _ _ _
 refine wpAny_bind ?_
 unfold Builtin.SmallTypes.ownedTupleHandOut
 have hz₈ : IsZip (h₇.push { cls := .type "tuple", data := .seq #[x, y, v] }) z TI TO .ellipsis := Heap.get?_push_of_some _ hz₇
 refine wpAny_bind (wpAny_setField_rec hz₈ (by simp) fun h₉ hz₉ hs₉ => ?_)
 replace hz₉ : IsZip h₉ z TI TO (rawInt h₇.objs.size) := hz₉
 refine wpAny_setField_rec hz₉ (by simp) fun h₀ hz₀ hs₀ => ?_
 replace hz₀ : IsZip h₀ z TI TO (rawInt h₇.objs.size) := hz₀
 have up : ∀ c o, c ≠ z -> h₇.get? c = some o -> h₀.get? c = some o := fun c o c1 e => hs₀.extBut _ _ c1 (hs₉.extBut _ _ c1 (Heap.get?_push_of_some _ e))
 have hT₀ : j6 h₀ h₇.objs.size x y v := hs₀.extBut _ _ (Nat.ne_of_gt hzlt) (hs₉.extBut _ _ (Nat.ne_of_gt hzlt) (Heap.get?_push_size _ rfl))
 have hz0 : h₀.objs.size = h₇.objs.size + 1 := by rw [hs₀.1, hs₉.1, Heap.size_push]
 rw [hsz] at hz₀ hT₀ hz0
 refine wpAny_pure ⟨_, rfl, ?_⟩
 show Q (.ref h₇.objs.size) _
 rw [hsz]
 exact hQ h₀ hz₀ (up _ _ D.TOz hTO₇) (h1₇.at fun o e => up _ o D.i1z e) (h2₇.at fun o e => up _ o D.i2z e) (h3₇.at fun o e => up _ o D.i3z e) hT₀ hz0 fun c o c1 c2 c3 c4 c5 e => up c o c1 (hk₇ c o c1 c2 c3 c4 c5 e)
theorem C3 {z TI TO i1 i2 i3 l1 l2 l3 : Addr} {k1 k2 k3 : Nat} {xs ys zs : Array Value} {a b c : Value} {Q : Fin -> Shared -> Prop} (hh : A.handled = none) (D : Zip3 z TI TO i1 i2 i3) (A1 : Apart3 z TO i1 i2 i3 l1) (A2 : Apart3 z TO i1 i2 i3 l2) (A3 : Apart3 z TO i1 i2 i3 l3)
  (hz : IsZip s.heap z TI TO .none) (hTI : j6 s.heap TI (.ref i1) (.ref i2) (.ref i3)) (hTO : j6 s.heap TO a b c)
  (h1 : s.heap.IsListIter i1 l1 k1) (h2 : s.heap.IsListIter i2 l2 k2) (h3 : s.heap.IsListIter i3 l3 k3) (hl1 : s.heap.IsList l1 xs) (hl2 : s.heap.IsList l2 ys) (hl3 : s.heap.IsList l3 zs) (hend : xs[k1]? = none \/ ys[k2]? = none \/ zs[k3]? = none)
  (hE : ∀ h' e, (∀ c o, c ≠ z -> c ≠ TO -> c ≠ i1 -> c ≠ i2 -> c ≠ i3 -> s.heap.get? c = some o -> h'.get? c = some o) -> (∃ o, h'.get? e = some o /\ o.cls = .type "StopIteration") -> E (.ref e) { s with heap := h' }) :
  wpAny (model prog w) A (Builtin.«zip.__next__» ⟨[.ref z], []⟩) Q E s := by
 show wpAny _ _ (field (.ref z) 2 >>= _) _ _ _
 refine wpAny_bind (wpAny_field hz rfl (x := .bool false) rfl ?_)
 show wpAny _ _ (field (.ref z) 3 >>= _) _ _ _
 refine wpAny_bind (wpAny_field hz rfl (x := .ref TI) rfl ?_)
 refine wpAny_bind (wpAny_seqItems hTI rfl ?_)
 show wpAny _ _ (Builtin.SmallTypes.ownedTupleIsFree (.ref z) >>= _) _ _ _
 refine wpAny_bind ?_
 unfold Builtin.SmallTypes.ownedTupleIsFree
 refine wpAny_bind (wpAny_field hz rfl (x := .none) rfl (wpAny_pure ?_))
 simp only [if_true]
 refine wpAny_bind (wpAny_rule ?_)
 refine wpAny_bind (wpAny_field hz rfl (x := .ref TO) rfl ?_)
 refine wpAny_bind (wpAny_setField_rec hz (by simp) fun h₁ hz₁ hs₁ => ?_)
 replace hz₁ : IsZip h₁ z TI TO .ellipsis := hz₁
 refine wpAny_bind ?_
 simp only [zipIdx_cons, zipIdx_nil, forIn_cons, forIn_nil]
 refine wpAny_bind (wpAny_bind (wpAny_onRaise ?_))
 show wpAny _ _ (Builtin.SmallTypes.nextOf (.ref i1) >>= _) _ _ _
 cases hx : xs[k1]? with
 | none =>
  refine wpAny_bind (wpAny_nextOf_list_end hh (h1.extBut hs₁.extBut D.i1z) (hl1.extBut hs₁.extBut A1.lz) hx fun h₂ e hs₂ he => ?_)
  obtain ⟨oe, hoe, hce⟩ := he
  have hz₂ : IsZip h₂ z TI TO .ellipsis := hs₂ _ _ D.i1z.symm hz₁
  have hez : e ≠ z := fun x => by subst x; rw [hz₂] at hoe; cases hoe; simp at hce
  refine wpAny_setField_rec hz₂ (by simp) fun h₃ _ hs₃ => hE h₃ e (fun c o c1 _ c3 _ _ x => hs₃.extBut _ _ c1 (hs₂ _ _ c3 (hs₁.extBut _ _ c1 x))) ⟨oe, hs₃.extBut _ _ hez hoe, hce⟩
 | some x =>
  refine wpAny_bind (wpAny_nextOf_list_item (h1.extBut hs₁.extBut D.i1z) (hl1.extBut hs₁.extBut A1.lz) hx fun h₂ h1₂ hs₂ => wpAny_pure ?_)
  have hTO₂ : j6 h₂ TO a b c := hs₂.extBut _ _ D.TOi1 (hs₁.extBut _ _ D.TOz hTO)
  refine wpAny_bind (wpAny_seqItems hTO₂ rfl ?_)
  refine wpAny_bind (e9 hTO₂ fun h₃ hTO₃ hs₃ => ?_)
  replace hTO₃ : j6 h₃ TO x b c := hTO₃
  refine wpAny_bind (wpAny_letGo (wpAny_pure ?_))
  refine wpAny_bind (wpAny_bind (wpAny_onRaise ?_))
  show wpAny _ _ (Builtin.SmallTypes.nextOf (.ref i2) >>= _) _ _ _
  cases hy : ys[k2]? with
  | none =>
   refine wpAny_bind (wpAny_nextOf_list_end hh (((h2.extBut hs₁.extBut D.i2z).extBut hs₂.extBut D.i12.symm).extBut hs₃.extBut D.TOi2.symm)
    (((hl2.extBut hs₁.extBut A2.lz).extBut hs₂.extBut A2.l1).extBut hs₃.extBut A2.lTO) hy fun h₄ e hs₄ he => ?_)
   obtain ⟨oe, hoe, hce⟩ := he
   have hz₄ : IsZip h₄ z TI TO .ellipsis := hs₄ _ _ D.i2z.symm (hs₃.extBut _ _ D.TOz.symm (hs₂.extBut _ _ D.i1z.symm hz₁))
   have hez : e ≠ z := fun x => by subst x; rw [hz₄] at hoe; cases hoe; simp at hce
   refine wpAny_setField_rec hz₄ (by simp) fun h₅ _ hs₅ => hE h₅ e (fun c o c1 c2 c3 c4 _ x => hs₅.extBut _ _ c1 (hs₄ _ _ c4 (hs₃.extBut _ _ c2 (hs₂.extBut _ _ c3 (hs₁.extBut _ _ c1 x))))) ⟨oe, hs₅.extBut _ _ hez hoe, hce⟩
  | some y =>
   have hv : zs[k3]? = none := by
    rcases hend with h | h | h
    ·rw [hx] at h; cases h
    ·rw [hy] at h; cases h
    ·exact h
   refine wpAny_bind (wpAny_nextOf_list_item (((h2.extBut hs₁.extBut D.i2z).extBut hs₂.extBut D.i12.symm).extBut hs₃.extBut D.TOi2.symm)
    (((hl2.extBut hs₁.extBut A2.lz).extBut hs₂.extBut A2.l1).extBut hs₃.extBut A2.lTO) hy fun h₄ h2₄ hs₄ => wpAny_pure ?_)
   have hTO₄ : j6 h₄ TO x b c := hs₄.extBut _ _ D.TOi2 hTO₃
   refine wpAny_bind (wpAny_seqItems hTO₄ rfl ?_)
   refine wpAny_bind (e9 hTO₄ fun h₅ hTO₅ hs₅ => ?_)
   replace hTO₅ : j6 h₅ TO x y c := hTO₅
   refine wpAny_bind (wpAny_letGo (wpAny_pure ?_))
   refine wpAny_bind (wpAny_bind (wpAny_onRaise ?_))
   show wpAny _ _ (Builtin.SmallTypes.nextOf (.ref i3) >>= _) _ _ _
   refine wpAny_bind (wpAny_nextOf_list_end hh (((((h3.extBut hs₁.extBut D.i3z).extBut hs₂.extBut D.i13.symm).extBut hs₃.extBut D.TOi3.symm).extBut hs₄.extBut D.i23.symm).extBut hs₅.extBut D.TOi3.symm)
    (((((hl3.extBut hs₁.extBut A3.lz).extBut hs₂.extBut A3.l1).extBut hs₃.extBut A3.lTO).extBut hs₄.extBut A3.l2).extBut hs₅.extBut A3.lTO) hv fun h₆ e hs₆ he => ?_)
   obtain ⟨oe, hoe, hce⟩ := he
   have hz₆ : IsZip h₆ z TI TO .ellipsis := hs₆ _ _ D.i3z.symm (hs₅.extBut _ _ D.TOz.symm (hs₄.extBut _ _ D.i2z.symm (hs₃.extBut _ _ D.TOz.symm (hs₂.extBut _ _ D.i1z.symm hz₁))))
   have hez : e ≠ z := fun x => by subst x; rw [hz₆] at hoe; cases hoe; simp at hce
   refine wpAny_setField_rec hz₆ (by simp) fun h₇ _ hs₇ => hE h₇ e (fun c o c1 c2 c3 c4 c5 x => hs₇.extBut _ _ c1 (hs₆ _ _ c5 (hs₅.extBut _ _ c2 (hs₄.extBut _ _ c4 (hs₃.extBut _ _ c2 (hs₂.extBut _ _ c3 (hs₁.extBut _ _ c1 x))))))) ⟨oe, hs₇.extBut _ _ hez hoe, hce⟩
theorem N8 {z TI TO i1 i2 i3 l1 l2 l3 : Addr} {k1 k2 k3 : Nat} {xs ys zs : Array Value} {x y v a b c : Value} {Q : Option Value -> Shared -> Prop} (D : Zip3 z TI TO i1 i2 i3) (A1 : Apart3 z TO i1 i2 i3 l1) (A2 : Apart3 z TO i1 i2 i3 l2) (A3 : Apart3 z TO i1 i2 i3 l3)
  (hz : IsZip s.heap z TI TO .none) (hTI : j6 s.heap TI (.ref i1) (.ref i2) (.ref i3)) (hTO : j6 s.heap TO a b c)
  (h1 : s.heap.IsListIter i1 l1 k1) (h2 : s.heap.IsListIter i2 l2 k2) (h3 : s.heap.IsListIter i3 l3 k3) (hl1 : s.heap.IsList l1 xs) (hl2 : s.heap.IsList l2 ys) (hl3 : s.heap.IsList l3 zs) (hx : xs[k1]? = some x) (hy : ys[k2]? = some y) (hv : zs[k3]? = some v)
  (hQ : ∀ h', IsZip h' z TI TO (rawInt s.heap.objs.size) -> j6 h' TO x y v -> h'.IsListIter i1 l1 (k1 + 1) -> h'.IsListIter i2 l2 (k2 + 1) -> h'.IsListIter i3 l3 (k3 + 1) -> j6 h' s.heap.objs.size x y v -> h'.objs.size = s.heap.objs.size + 1 ->
   (∀ c o, c ≠ z -> c ≠ TO -> c ≠ i1 -> c ≠ i2 -> c ≠ i3 -> s.heap.get? c = some o -> h'.get? c = some o) -> Q (some (.ref s.heap.objs.size)) { s with heap := h' }) :
  wpAny (model prog w) A (pyNext (.ref z)) Q E s := by
 have hT : s.TypeIs (.ref z) "zip" := ⟨_, hz, rfl⟩
 unfold pyNext
 exact wpAny_bind (wpAny_attempt (wpAny_callSpecial?_slot (name := Str.ofString "__next__") hT F.slot_zip_next
  (wpAny_call_entry F.slot_zip_next hT F.entry_zip_next
   (J8 D A1 A2 A3 hz hTI hTO h1 h2 h3 hl1 hl2 hl3 hx hy hv fun h' a1 a2 a3 a4 a5 a6 a7 a8 => wpAny_pure (hQ h' a1 a2 a3 a4 a5 a6 a7 a8)) (F.args_zip_next_1 _))))
theorem K3 {z TI TO i1 i2 i3 l1 l2 l3 : Addr} {k1 k2 k3 : Nat} {xs ys zs : Array Value} {a b c : Value} {Q : Option Value -> Shared -> Prop} (hh : A.handled = none) (D : Zip3 z TI TO i1 i2 i3) (A1 : Apart3 z TO i1 i2 i3 l1) (A2 : Apart3 z TO i1 i2 i3 l2) (A3 : Apart3 z TO i1 i2 i3 l3)
  (hz : IsZip s.heap z TI TO .none) (hTI : j6 s.heap TI (.ref i1) (.ref i2) (.ref i3)) (hTO : j6 s.heap TO a b c)
  (h1 : s.heap.IsListIter i1 l1 k1) (h2 : s.heap.IsListIter i2 l2 k2) (h3 : s.heap.IsListIter i3 l3 k3) (hl1 : s.heap.IsList l1 xs) (hl2 : s.heap.IsList l2 ys) (hl3 : s.heap.IsList l3 zs) (hend : xs[k1]? = none \/ ys[k2]? = none \/ zs[k3]? = none)
  (hQ : ∀ h', (∀ c o, c ≠ z -> c ≠ TO -> c ≠ i1 -> c ≠ i2 -> c ≠ i3 -> s.heap.get? c = some o -> h'.get? c = some o) -> Q none { s with heap := h' }) : wpAny (model prog w) A (pyNext (.ref z)) Q E s := by
 have hT : s.TypeIs (.ref z) "zip" := ⟨_, hz, rfl⟩
 unfold pyNext
 refine wpAny_bind (wpAny_attempt (wpAny_callSpecial?_slot (name := Str.ofString "__next__") hT F.slot_zip_next
  (wpAny_call_entry F.slot_zip_next hT F.entry_zip_next (C3 hh D A1 A2 A3 hz hTI hTO h1 h2 h3 hl1 hl2 hl3 hend fun h' e hk he => ?_) (F.args_zip_next_1 _))))
 obtain ⟨o, ho, hc⟩ := he
 refine wpAny_bind (wpAny_isInstance (T := "StopIteration") (b := true) ⟨o, ho, hc⟩ isSubtype_stop ?_)
 exact wpAny_pure (hQ _ hk)
abbrev z3H1 (h : Heap) (l1 : Addr) : Heap := h.push { cls := .type "list_iterator", data := .fields #[.ref l1, .int 0 0] }
abbrev z3H2 (h : Heap) (l1 l2 : Addr) : Heap := (z3H1 h l1).push { cls := .type "list_iterator", data := .fields #[.ref l2, .int 0 0] }
abbrev z3H3 (h : Heap) (l1 l2 l3 : Addr) : Heap := (z3H2 h l1 l2).push { cls := .type "list_iterator", data := .fields #[.ref l3, .int 0 0] }
abbrev z3H4 (h : Heap) (l1 l2 l3 : Addr) : Heap := (z3H3 h l1 l2 l3).push { cls := .type "tuple", data := .seq #[.ref h.objs.size, .ref (z3H1 h l1).objs.size, .ref (z3H2 h l1 l2).objs.size] }
abbrev z3H5 (h : Heap) (l1 l2 l3 : Addr) : Heap := (z3H4 h l1 l2 l3).push { cls := .type "tuple", data := .seq #[.none, .none, .none] }
abbrev z3H6 (h : Heap) (l1 l2 l3 : Addr) : Heap := (z3H5 h l1 l2 l3).push { cls := .type "zip", data := .fields #[.none, .bool false, .bool false, .ref (z3H3 h l1 l2 l3).objs.size, .ref (z3H4 h l1 l2 l3).objs.size] }
theorem G0 (a b c : Value) : checkTypeCall "zip" ⟨[a, b, c], []⟩ = pure () := by kernel_rfl
theorem A4 (a b c : Value) : checkBuiltinCall "zip.__new__" ⟨[.type "zip", a, b, c], []⟩ = pure () := by kernel_rfl
theorem zq5 (a b c d : Value) : argsOk "object.__init__" ⟨[a, b, c, d], []⟩ := by
 unfold argsOk; rw [signature?_of (id := "object.__init__") (n := ['_', '_', 't', 'i', 'n', 'i', '_', '_']) (o := ['t', 'c', 'e', 'j', 'b', 'o']) (by kernel_rfl) F.owner_object]; kernel_rfl
set_option maxHeartbeats 8000000 in
theorem G9 (l1 l2 l3 : Addr) (xs ys zs : Array Value) :
  Meets (Builtin.«zip.__new__» ⟨[.type "zip", .ref l1, .ref l2, .ref l3], []⟩) (fun _ R s => s.heap.IsList l1 xs /\ s.heap.IsList l2 ys /\ s.heap.IsList l3 zs /\
   R (.ok (.ret (.ref (z3H5 s.heap l1 l2 l3).objs.size))) { s with heap := z3H6 s.heap l1 l2 l3 }) :=
 .of_wp fun prog w A R s h => by
  obtain ⟨hp, g, d, tk, os⟩ := s; obtain ⟨hl1, hl2, hl3, h⟩ := h
  have hsub := sub_zip
  have hL1 : Heap.IsList (Shared.heap ⟨hp, g, d, tk, os⟩) l1 xs := hl1
  have hL2 : Heap.IsList (Shared.heap ⟨hp.push { cls := .type "list_iterator", data := .fields #[.ref l1, .int 0 0] }, g, d, tk, os⟩) l2 ys := Heap.IsList.push hl2 _
  have hL3 : Heap.IsList (Shared.heap ⟨(hp.push { cls := .type "list_iterator", data := .fields #[.ref l1, .int 0 0] }).push { cls := .type "list_iterator", data := .fields #[.ref l2, .int 0 0] }, g, d, tk, os⟩) l3 zs := Heap.IsList.push (Heap.IsList.push hl3 _) _
  wp_walk using wpAny_pyIter_list hL1, wpAny_pyIter_list hL2, wpAny_pyIter_list hL3
  exact ⟨_, rfl, h⟩
theorem zj7 {l1 l2 l3 : Addr} {xs ys zs : Array Value} {Q : Value -> Shared -> Prop} (hl1 : s.heap.IsList l1 xs) (hl2 : s.heap.IsList l2 ys) (hl3 : s.heap.IsList l3 zs)
  (h : ∀ h', IsZip h' (s.heap.objs.size + 5) (s.heap.objs.size + 3) (s.heap.objs.size + 4) .none -> j6 h' (s.heap.objs.size + 3) (.ref s.heap.objs.size) (.ref (s.heap.objs.size + 1)) (.ref (s.heap.objs.size + 2)) ->
   j6 h' (s.heap.objs.size + 4) .none .none .none -> h'.IsListIter s.heap.objs.size l1 0 -> h'.IsListIter (s.heap.objs.size + 1) l2 0 -> h'.IsListIter (s.heap.objs.size + 2) l3 0 ->
   (∀ c o, s.heap.get? c = some o -> h'.get? c = some o) -> Q (.ref (s.heap.objs.size + 5)) { s with heap := h' }) :
  wpAny (model prog w) A (call (.type "zip") [.ref l1, .ref l2, .ref l3]) Q E s := by
 refine callType_new F.called_zip (by decide) (G0 _ _ _) (A4 _ _ _) (fun obj => zq5 obj _ _ _) F.entry_zip_new
  (G9 l1 l2 l3 xs ys zs) ⟨hl1, hl2, hl3, ?_⟩
 have z1 : (z3H1 s.heap l1).objs.size = s.heap.objs.size + 1 := Heap.size_push ..
 have z2 : (z3H2 s.heap l1 l2).objs.size = s.heap.objs.size + 2 := by rw [Heap.size_push, z1]
 have z3 : (z3H3 s.heap l1 l2 l3).objs.size = s.heap.objs.size + 3 := by rw [Heap.size_push, z2]
 have z4 : (z3H4 s.heap l1 l2 l3).objs.size = s.heap.objs.size + 4 := by rw [Heap.size_push, z3]
 have z5 : (z3H5 s.heap l1 l2 l3).objs.size = s.heap.objs.size + 5 := by rw [Heap.size_push, z4]
 have g6 : (z3H6 s.heap l1 l2 l3).get? (z3H5 s.heap l1 l2 l3).objs.size = some _ := Heap.get?_push_size _ rfl
 have g5 : (z3H6 s.heap l1 l2 l3).get? (z3H4 s.heap l1 l2 l3).objs.size = some _ := Heap.get?_push_of_some _ (Heap.get?_push_size _ rfl)
 have g4 : (z3H6 s.heap l1 l2 l3).get? (z3H3 s.heap l1 l2 l3).objs.size = some _ := Heap.get?_push_of_some _ (Heap.get?_push_of_some _ (Heap.get?_push_size _ rfl))
 have g3 : (z3H6 s.heap l1 l2 l3).get? (z3H2 s.heap l1 l2).objs.size = some _ := Heap.get?_push_of_some _ (Heap.get?_push_of_some _ (Heap.get?_push_of_some _ (Heap.get?_push_size _ rfl)))
 have g2 : (z3H6 s.heap l1 l2 l3).get? (z3H1 s.heap l1).objs.size = some _ := Heap.get?_push_of_some _ (Heap.get?_push_of_some _ (Heap.get?_push_of_some _ (Heap.get?_push_of_some _ (Heap.get?_push_size _ rfl))))
 have g1 : (z3H6 s.heap l1 l2 l3).get? s.heap.objs.size = some _ := Heap.get?_push_of_some _ (Heap.get?_push_of_some _ (Heap.get?_push_of_some _ (Heap.get?_push_of_some _ (Heap.get?_push_of_some _ (Heap.get?_push_size _ rfl)))))
 show _ /\ _
 rw [z3, z4, z5] at g6
 rw [z4] at g5
 rw [z1, z2, z3] at g4
 rw [z2] at g3
 rw [z1] at g2
 rw [z5]
 exact ⟨⟨_, g6, rfl⟩, h _ g6 g4 g5 ⟨_, g1, rfl, rfl⟩ ⟨_, g2, rfl, rfl⟩ ⟨_, g3, rfl, rfl⟩ fun c o x =>
  Heap.get?_push_of_some _ (Heap.get?_push_of_some _ (Heap.get?_push_of_some _ (Heap.get?_push_of_some _ (Heap.get?_push_of_some _ (Heap.get?_push_of_some _ x)))))⟩
end
def Itz3 (K : W.Frag) (l1 l2 l3 : Addr) : It :=
 ⟨fun i H => ∃ xs ys zs x y z, SqL K H l1 xs /\ SqL K H l2 ys /\ SqL K H l3 zs /\ xs[i]? = some x /\ ys[i]? = some y /\ zs[i]? = some z,
  fun i H v H' => ∃ t x y z, v = .ref t /\ H t = none /\ H' = upd H t (.tup [x, y, z]) /\ (∀ xs, SqL K H l1 xs -> xs[i]? = some x) /\ (∀ ys, SqL K H l2 ys -> ys[i]? = some y) /\ (∀ zs, SqL K H l3 zs -> zs[i]? = some z),
  fun i H => ∃ xs ys zs, SqL K H l1 xs /\ SqL K H l2 ys /\ SqL K H l3 zs /\ (xs.length <= i \/ ys.length <= i \/ zs.length <= i)⟩
theorem W7 {h : Heap} {z TI TO i1 i2 i3 l m1 m2 m3 : Addr} {its : Array Value} {a b c f0 : Value} {k1 k2 k3 : Nat} (hz : IsZip h z TI TO f0) (hTO : j6 h TO a b c) (h1 : h.IsListIter i1 m1 k1) (h2 : h.IsListIter i2 m2 k2) (h3 : h.IsListIter i3 m3 k3)
  (p : h.IsList l its) : Apart3 z TO i1 i2 i3 l := by
 obtain ⟨o1, e1, c1, _⟩ := h1
 obtain ⟨o2, e2, c2, _⟩ := h2
 obtain ⟨o3, e3, c3, _⟩ := h3
 obtain ⟨po, pe, pc, _⟩ := p
 exact ⟨W2 pe hz (by rw [pc]; exact f9 (by decide)), W2 pe hTO (by rw [pc]; exact f9 (by decide)), W2 pe e1 (by rw [pc, c1]; exact f9 (by decide)), W2 pe e2 (by rw [pc, c2]; exact f9 (by decide)), W2 pe e3 (by rw [pc, c3]; exact f9 (by decide))⟩
theorem zi9 {P : Program} {w : World} {K : W.Frag} {es : List Expr} {tk : Nat} {tp : Pos} (z TI TO i1 i2 i3 l1 l2 l3 : Addr) (D : Zip3 z TI TO i1 i2 i3) :
  Turn P w K (.Tuple es tk tp) (Itz3 K l1 l2 l3) [z, TI, TO, i1, i2, i3] z
   (fun i h => IsZip h z TI TO .none /\ j6 h TI (.ref i1) (.ref i2) (.ref i3) /\ (∃ a b c, j6 h TO a b c) /\ h.IsListIter i1 l1 i /\ h.IsListIter i2 l2 i /\ h.IsListIter i3 l3 i) where
 mem := by simp
 obj := fun i h st b hb => by
  obtain ⟨hz, hTI, ⟨a, c, d, hTO⟩, ⟨o1, e1, _, d1⟩, ⟨o2, e2, _, d2⟩, ⟨o3, e3, _, d3⟩⟩ := st
  simp only [mem_cons, not_mem_nil, or_false] at hb
  rcases hb with rfl | rfl | rfl | rfl | rfl | rfl
  ·exact ⟨_, hz, fun v q => by cases q⟩
  ·exact ⟨_, hTI, fun v q => by cases q⟩
  ·exact ⟨_, hTO, fun v q => by cases q⟩
  ·exact ⟨_, e1, fun v q => by rw [d1] at q; cases q⟩
  ·exact ⟨_, e2, fun v q => by rw [d2] at q; cases q⟩
  ·exact ⟨_, e3, fun v q => by rw [d3] at q; cases q⟩
 keep := fun i h h' st k => by
  obtain ⟨hz, hTI, ⟨a, c, d, hTO⟩, h1, h2, h3⟩ := st
  exact ⟨k z (by simp) _ hz, k TI (by simp) _ hTI, ⟨a, c, d, k TO (by simp) _ hTO⟩, h1.at fun o e => k i1 (by simp) o e, h2.at fun o e => k i2 (by simp) o e, h3.at fun o e => k i3 (by simp) o e⟩
 item := by
  intro X hP hw hK hc i pins s σ H E I hf st hg
  subst hP hw hK
  obtain ⟨xs, ys, zs, x, y, v, hq1, hq2, hq3, hx, hy, hv⟩ := hg
  obtain ⟨its1, rv1, p1, _⟩ := I.list hq1
  obtain ⟨its2, rv2, p2, _⟩ := I.list hq2
  obtain ⟨its3, rv3, p3, _⟩ := I.list hq3
  obtain ⟨u1, hu1, ru1⟩ := rv1.get hx
  obtain ⟨u2, hu2, ru2⟩ := rv2.get hy
  obtain ⟨u3, hu3, ru3⟩ := rv3.get hv
  obtain ⟨hz, hTI, ⟨a, b, c, hTO⟩, h1, h2, h3⟩ := st
  refine N8 D (W7 hz hTO h1 h2 h3 p1.isList) (W7 hz hTO h1 h2 h3 p2.isList) (W7 hz hTO h1 h2 h3 p3.isList) hz hTI hTO h1 h2 h3 p1.isList p2.isList p3.isList (x := u1) (y := u2) (v := u3) (by simpa using hu1) (by simpa using hu2) (by simpa using hu3) fun h' a1 a2 a3 a4 a4' a5 a6 hk => ?_
  refine ⟨_, rfl, ?_⟩
  refine wpAny_letOwnedTupleGo_zip a1 fun h'' hz'' hs'' => ?_
  have hzs : z < s.heap.objs.size := Heap.lt_size hz
  have kk : ∀ c o, c ∉ [z, TI, TO, i1, i2, i3] -> s.heap.get? c = some o -> h''.get? c = some o := fun c o hc e => by
   simp only [mem_cons, not_mem_nil, or_false, not_or] at hc
   exact hs''.extBut _ _ hc.1 (hk c o hc.1 hc.2.2.1 hc.2.2.2.1 hc.2.2.2.2.1 hc.2.2.2.2.2 e)
  have hT : h''.get? s.heap.objs.size = some { cls := .type "tuple", data := .seq #[u1, u2, u3] } := hs''.extBut _ _ (Nat.ne_of_gt hzs) a5
  have I2 : Inv X pins σ (upd H s.heap.objs.size (.tup [x, y, v])) { s with heap := h'', toks := s.toks } :=
   I.turnedN (T := s.heap.objs.size) (o := .tup [x, y, v]) kk hf (Nat.le_refl _) ⟨by show 3 <= sizeLine; decide, [u1, u2, u3], .cons ru1 (.cons ru2 (.cons ru3 .nil)), ⟨_, hT, rfl, _, rfl⟩⟩
  refine ⟨.ref s.heap.objs.size, _, I2, rfl, ⟨_, x, y, v, rfl, I.fresh, rfl, fun zs hzs' => by rw [I.list_inj hzs' hq1]; exact hx, fun zs hzs' => by rw [I.list_inj hzs' hq2]; exact hy, fun zs hzs' => by rw [I.list_inj hzs' hq3]; exact hv⟩,
   ⟨hz'', hs''.extBut _ _ D.TIz (hk _ _ D.TIz D.TITO D.TIi1 D.TIi2 D.TIi3 hTI), ⟨_, _, _, hs''.extBut _ _ D.TOz a2⟩, a3.extBut hs''.extBut D.i1z, a4.extBut hs''.extBut D.i2z, a4'.extBut hs''.extBut D.i3z⟩, fun c hc' => ?_⟩
  have hlt : c < s.heap.objs.size := by
   obtain ⟨o1, e1, _⟩ := h1
   obtain ⟨o2, e2, _⟩ := h2
   obtain ⟨o3, e3, _⟩ := h3
   simp only [mem_cons, not_mem_nil, or_false] at hc'
   rcases hc' with rfl | rfl | rfl | rfl | rfl | rfl
   ·exact hzs
   ·exact Heap.lt_size hTI
   ·exact Heap.lt_size hTO
   ·exact Heap.lt_size e1
   ·exact Heap.lt_size e2
   ·exact Heap.lt_size e3
  rw [w8 (Nat.ne_of_lt hlt)]
  exact (hf c hc').1
 done := by
  intro X hP hw hK hc i pins s σ H E I hf st hg
  subst hP hw hK
  obtain ⟨xs, ys, zs, hq1, hq2, hq3, hl⟩ := hg
  obtain ⟨its1, rv1, p1, _⟩ := I.list hq1
  obtain ⟨its2, rv2, p2, _⟩ := I.list hq2
  obtain ⟨its3, rv3, p3, _⟩ := I.list hq3
  obtain ⟨hz, hTI, ⟨a, b, c, hTO⟩, h1, h2, h3⟩ := st
  have l1' := rv1.length
  have l2' := rv2.length
  have l3' := rv3.length
  refine K3 (I.ok.hd hc) D (W7 hz hTO h1 h2 h3 p1.isList) (W7 hz hTO h1 h2 h3 p2.isList) (W7 hz hTO h1 h2 h3 p3.isList) hz hTI hTO h1 h2 h3 p1.isList p2.isList p3.isList ?_ fun h' hk => ⟨rfl, ?_⟩
  ·rcases hl with q | q | q
   ·exact .inl (by simp; omega)
   ·exact .inr (.inl (by simp; omega))
   ·exact .inr (.inr (by simp; omega))
  exact I.turnedL (t' := s.toks) (fun c o hc e => by
   simp only [mem_cons, not_mem_nil, or_false, not_or] at hc
   exact hk c o hc.1 hc.2.2.1 hc.2.2.2.1 hc.2.2.2.2.1 hc.2.2.2.2.2 e) hf
 self := fun _ _ _ _ _ st h => wpAny_pyIter_zip st.1 h
section
variable {X : Cx}
def xx6 (K : W.Frag) (ta : TA) : TI := fun σ H R => ta σ H fun vs H1 => ∃ a b c xs ys zs, vs = [.ref a, .ref b, .ref c] /\ SqL K H1 a xs /\ SqL K H1 b ys /\ SqL K H1 c zs /\ R (Itz3 K a b c) H1
theorem yp5 {a b c : Expr} {ta : TA} {p pos : Pos} {es : List Expr} {tk : Nat} {tp : Pos} (hg : Gl X "zip") (hm : X.mg "zip" = none) (ha : PA X [a, b, c] ta) (hs : starEach [a, b, c] X.env = (false, eval a X.env) :: starEach [b, c] X.env := by rfl) (hs2 : ∀ pos, ((backTo pos (starEach [b, c] X.env)).any fun x => x.1) = false := by intro _; rfl) :
  PI X (.Tuple es tk tp) (.Call (.Name "zip" p) [a, b, c] [] pos) (xx6 X.K ta) := by
 intro pins s σ H R I h
 refine Call_ (N2 I hg hm boot_zip (PyProof.Rows.callWith_type1 (thn (ha pos pins s σ H _ I h) fun us s1 hpat => ?_) hs (hs2 _)))
 obtain ⟨vs, H1, I1, r1, q1⟩ := hpat
 obtain ⟨l1, l2, l3, xs, ys, zs, e, q1, q2, q3, q⟩ := q1
 subst e
 cases r1 with
 | cons r rr =>
  cases rr with
  | cons r' rr =>
   cases rr with
   | cons r'' rr =>
   cases rr
   cases r
   cases r'
   cases r''
   obtain ⟨its1, rv1, p1, _⟩ := I1.list q1
   obtain ⟨its2, rv2, p2, _⟩ := I1.list q2
   obtain ⟨its3, rv3, p3, _⟩ := I1.list q3
   refine zj7 p1.isList p2.isList p3.isList fun h' hz hTI hTO hi1 hi2 hi3 hk => ?_
   have I2 : Inv X pins σ H1 { s1 with heap := h', toks := s1.toks } := I1.kept hk
   refine wpAny_pyIter_zip (s := { s1 with heap := h' }) hz ?_
   refine ⟨_, [s1.heap.objs.size + 5, s1.heap.objs.size + 3, s1.heap.objs.size + 4, s1.heap.objs.size, s1.heap.objs.size + 1, s1.heap.objs.size + 2], _, _, H1, rfl, I2, zi9 _ _ _ _ _ _ l1 l2 l3 (yz4 _),
    ⟨hz, hTI, ⟨_, _, _, hTO⟩, hi1, hi2, hi3⟩, fun b hb => ?_, q⟩
   have hb' : s1.heap.objs.size <= b := by
    simp only [mem_cons, not_mem_nil, or_false] at hb
    rcases hb with rfl | rfl | rfl | rfl | rfl | rfl
    ·exact Nat.le_add_right _ 5
    ·exact Nat.le_add_right _ 3
    ·exact Nat.le_add_right _ 4
    ·exact Nat.le_refl _
    ·exact Nat.le_add_right _ 1
    ·exact Nat.le_add_right _ 2
   exact I1.fpOk hb' (I1.hok.fresh hb')
end
def Ite (K : W.Frag) (l : Addr) : It :=
 ⟨fun i H => ∃ xs x, SqL K H l xs /\ xs[i]? = some x,
  fun i H v H' => ∃ t x, v = .ref t /\ H t = none /\ H' = upd H t (.tup [.int i, x]) /\ (∀ xs, SqL K H l xs -> xs[i]? = some x),
  fun i H => ∃ xs, SqL K H l xs /\ xs.length <= i⟩
theorem zx0 {P : Program} {w : World} {K : W.Frag} {es : List Expr} {tk : Nat} {tp : Pos} (e it l : Addr) (hne : e ≠ it) :
  Turn P w K (.Tuple es tk tp) (Ite K l) [e, it] e (fun i h => (∃ old, IsEnum h e it (i : Nat) old) /\ h.IsListIter it l i) where
 mem := by simp
 obj := fun i h st b hb => by
  obtain ⟨⟨old, he⟩, ⟨o1, e1, _, d1⟩⟩ := st
  simp only [mem_cons, not_mem_nil, or_false] at hb
  rcases hb with rfl | rfl
  ·exact ⟨_, he, fun v q => by cases q⟩
  ·exact ⟨_, e1, fun v q => by rw [d1] at q; cases q⟩
 keep := fun i h h' st k => by
  obtain ⟨⟨old, he⟩, h1⟩ := st
  exact ⟨⟨old, k e (by simp) _ he⟩, h1.at fun o q => k it (by simp) o q⟩
 item := by
  intro X hP hw hK hc i pins s σ H E I hf st hg
  subst hP hw hK
  obtain ⟨xs, x, hq1, hx⟩ := hg
  obtain ⟨its1, rv1, p1, _⟩ := I.list hq1
  obtain ⟨u1, hu1, ru1⟩ := rv1.get hx
  obtain ⟨⟨old, he⟩, h1⟩ := st
  refine wpAny_pyNext_enum_item he h1 p1.isList (x := u1) (by simpa using hu1) hne fun h' a1 a2 a3 a4 hk => ?_
  refine ⟨_, rfl, ?_⟩
  refine wpAny_letOwnedTupleGo_enum a1 fun h'' he'' hs'' => ?_
  have hzs : e < s.heap.objs.size := Heap.lt_size he
  have kk : ∀ c o, c ∉ [e, it] -> s.heap.get? c = some o -> h''.get? c = some o := fun c o hc q => by
   simp only [mem_cons, not_mem_nil, or_false, not_or] at hc
   exact hs''.extBut _ _ hc.1 (hk c o hc.1 hc.2 q)
  have hT : h''.get? s.heap.objs.size = some { cls := .type "tuple", data := .seq #[.int i s.toks, u1] } := hs''.extBut _ _ (Nat.ne_of_gt hzs) a3
  have I2 : Inv X pins σ (upd H s.heap.objs.size (.tup [.int i, x])) { s with heap := h'', toks := s.toks + 1 } :=
   I.turnedN (T := s.heap.objs.size) (o := .tup [.int i, x]) kk hf (Nat.le_refl _) ⟨by show 2 <= sizeLine; decide, [.int i s.toks, u1], .cons ⟨_, rfl⟩ (.cons ru1 .nil), ⟨_, hT, rfl, _, rfl⟩⟩
  refine ⟨.ref s.heap.objs.size, _, I2, rfl, ⟨_, x, rfl, I.fresh, rfl, fun zs hzs' => by rw [I.list_inj hzs' hq1]; exact hx⟩,
   ⟨⟨_, he''⟩, a2.extBut hs''.extBut hne.symm⟩, fun c hc' => ?_⟩
  have hlt : c < s.heap.objs.size := by
   obtain ⟨o1, e1, _⟩ := h1
   simp only [mem_cons, not_mem_nil, or_false] at hc'
   rcases hc' with rfl | rfl
   ·exact hzs
   ·exact Heap.lt_size e1
  rw [w8 (Nat.ne_of_lt hlt)]
  exact (hf c hc').1
 done := by
  intro X hP hw hK hc i pins s σ H E I hf st hg
  subst hP hw hK
  obtain ⟨xs, hq1, hl⟩ := hg
  obtain ⟨its1, rv1, p1, _⟩ := I.list hq1
  obtain ⟨⟨old, he⟩, h1⟩ := st
  have l1' := rv1.length
  refine wpAny_pyNext_enum_end (I.ok.hd hc) he h1 p1.isList (by simp; omega) fun h' hk => ⟨rfl, ?_⟩
  exact I.turnedL (t' := s.toks) (fun c o hc q => by
   simp only [mem_cons, not_mem_nil, or_false, not_or] at hc
   exact hk c o hc.2 q) hf
 self := fun A i s Q E st h => by
  obtain ⟨⟨old, he⟩, h1⟩ := st
  have hT : s.TypeIs (.ref e) "enumerate" := ⟨_, he, rfl⟩
  refine wpAny_pyIter_slot hT F.slot_enumerate_iter (wpAny_call_entry F.slot_enumerate_iter hT F.entry_enumerate_iter ?_ (F.args_enumerate_iter_1 _))
  show wpAny _ _ (ret (.ref e)) _ _ s
  exact wpAny_pure ⟨_, rfl, "enumerate", _, hT, F.slot_enumerate_next.lookup, h⟩
section
variable {X : Cx}
def xw1 (K : W.Frag) (ta : TA) : TI := fun σ H R => ta σ H fun vs H1 => ∃ a xs, vs = [.ref a] /\ SqL K H1 a xs /\ R (Ite K a) H1
theorem yp8 {a : Expr} {ta : TA} {p pos : Pos} {es : List Expr} {tk : Nat} {tp : Pos} (hg : Gl X "enumerate") (hm : X.mg "enumerate" = none) (ha : PA X [a] ta) (hs : starEach [a] X.env = [(false, eval a X.env)] := by rfl) :
  PI X (.Tuple es tk tp) (.Call (.Name "enumerate" p) [a] [] pos) (xw1 X.K ta) := by
 intro pins s σ H R I h
 refine Call_ (N2 I hg hm boot_enumerate (PyProof.Rows.callWith_type1 (thn (ha pos pins s σ H _ I h) fun us s1 hpat => ?_) hs rfl))
 obtain ⟨vs, H1, I1, r1, q1⟩ := hpat
 obtain ⟨l, xs, e, q1, q⟩ := q1
 subst e
 cases r1 with
 | cons r rr =>
  cases rr
  cases r
  obtain ⟨its1, rv1, p1, _⟩ := I1.list q1
  refine call_enumerate_list p1.isList fun h' he hit hsz hk => ?_
  have I2 : Inv X pins σ H1 { s1 with heap := h', toks := s1.toks } := I1.kept hk
  have hT : ({ s1 with heap := h' } : Shared).TypeIs (.ref (s1.heap.objs.size + 1)) "enumerate" := ⟨_, he, rfl⟩
  refine (zx0 (P := X.prog) (w := X.w) (K := X.K) (es := es) (tk := tk) (tp := tp) (s1.heap.objs.size + 1) s1.heap.objs.size l (Nat.ne_of_gt (Nat.lt_succ_self _))).self X.A 0 { s1 with heap := h' } _ _ ⟨⟨_, he⟩, hit⟩ ?_
  refine ⟨_, [s1.heap.objs.size + 1, s1.heap.objs.size], _, _, H1, rfl, I2, zx0 _ _ l (Nat.ne_of_gt (Nat.lt_succ_self _)), ⟨⟨_, he⟩, hit⟩, fun b hb => ?_, q⟩
  have hb' : s1.heap.objs.size <= b := by
   simp only [mem_cons, not_mem_nil, or_false] at hb
   rcases hb with rfl | rfl
   ·exact Nat.le_succ _
   ·exact Nat.le_refl _
  exact I1.fpOk hb' (I1.hok.fresh hb')
end
end
section
def XAt (a C : Addr) (h : Heap) : Prop := ∃ o vs, h.get? a = some o /\ o.cls = .ref C /\ o.data = .fields vs
def ys6 (K : W.Frag) (C : Addr) : Option Str := match K.lookup C with
 | some ⟨_, _, .cls cd, _⟩ => some cd.name
 | _ => none
inductive D where
 | non | bl (b : Bool) | int (i : Int) | str (x : Str) | lst (ds : List D) | tup (ds : List D) | exc (c : Str)
 | ptr (a : Addr) | obj (c : Str) (ns : List Str) (ds : List D)
mutual
inductive Rep (K : W.Frag) (F : Hp) : V -> D -> Prop
 | non : Rep K F .non .non
 | bl (b : Bool) : Rep K F (.bl b) (.bl b)
 | int (i : Int) : Rep K F (.int i) (.int i)
 | str (x : Str) : Rep K F (.str x) (.str x)
 | lst {a : Addr} {xs : List V} {ds : List D} : SqL K F a xs -> Reps K F xs ds -> Rep K F (.ref a) (.lst ds)
 | tup {a : Addr} {xs : List V} {ds : List D} : SqT K F a xs -> Reps K F xs ds -> Rep K F (.ref a) (.tup ds)
 | exc {a C : Addr} {c : Str} : (W.nsIn K mainGlobals c = some (some (.ref C)) /\ ys6 K C = some c) -> F a = some (.ext (XAt a C)) -> Rep K F (.ref a) (.exc c)
 | ptr (a : Addr) : Rep K F (.ref a) (.ptr a)
 | obj {a dx C : Addr} {c : Str} {ns : List Str} {xs : List V} {ds : List D} : W.nsIn K mainGlobals c = some (some (.ref C)) -> ns.length = xs.length -> F a = some (.ins C dx (ns.zip xs)) -> F dx = some (.own a) -> Reps K F xs ds -> Rep K F (.ref a) (.obj c ns ds)
inductive Reps (K : W.Frag) (F : Hp) : List V -> List D -> Prop
 | nil : Reps K F [] []
 | cons {v : V} {d : D} {vs : List V} {ds : List D} : Rep K F v d -> Reps K F vs ds -> Reps K F (v :: vs) (d :: ds)
end
theorem Same.seqT {K : W.Frag} {H H' : Hp} {a : Addr} {xs : List V} (e : Same H H') (h : SqT K H a xs) : SqT K H' a xs := by
 rcases h with (h | ⟨o, h⟩) | h
 ·exact .inl (.inl (e _ _ h))
 ·exact .inl (.inr ⟨o, e _ _ h⟩)
 ·exact .inr h
section
variable {K : W.Frag} {F F' : Hp}
mutual
theorem Rep.mono (e : Same F F') : ∀ {v : V} {d : D}, Rep K F v d -> Rep K F' v d
 | _, _, .non => .non
 | _, _, .bl b => .bl b
 | _, _, .int i => .int i
 | _, _, .str x => .str x
 | _, _, .lst h r => .lst (e.seq h) (Reps.mono e r)
 | _, _, .tup h r => .tup (e.seqT h) (Reps.mono e r)
 | _, _, .exc h r => .exc h (e _ _ r)
 | _, _, .ptr a => .ptr a
 | _, _, .obj c l h h2 r => .obj c l (e _ _ h) (e _ _ h2) (Reps.mono e r)
theorem Reps.mono (e : Same F F') : ∀ {vs : List V} {ds : List D}, Reps K F vs ds -> Reps K F' vs ds
 | _, _, .nil => .nil
 | _, _, .cons h r => .cons (Rep.mono e h) (Reps.mono e r)
end
theorem Reps.length : ∀ {vs : List V} {ds : List D}, Reps K F vs ds -> vs.length = ds.length
 | _, _, .nil => rfl
 | _, _, .cons _ r => congrArg (· + 1) (Reps.length r)
theorem Reps.get : ∀ {vs : List V} {ds : List D} {i : Nat} {d : D}, Reps K F vs ds -> ds[i]? = some d -> ∃ v, vs[i]? = some v /\ Rep K F v d
 | _, _, _, _, .nil, e => by simp at e
 | _, _, 0, _, .cons h _, e => by simp at e; subst e; exact ⟨_, rfl, h⟩
 | _, _, i + 1, d, .cons _ r, e => by
  obtain ⟨v, h1, h2⟩ := Reps.get (i := i) (d := d) r (by simpa using e)
  exact ⟨v, by simpa using h1, h2⟩
theorem Reps.get' : ∀ {vs : List V} {ds : List D} {i : Nat} {v : V}, Reps K F vs ds -> vs[i]? = some v -> ∃ d, ds[i]? = some d /\ Rep K F v d
 | _, _, _, _, .nil, e => by simp at e
 | _, _, 0, _, .cons h _, e => by simp at e; subst e; exact ⟨_, rfl, h⟩
 | _, _, i + 1, d, .cons _ r, e => by
  obtain ⟨v, h1, h2⟩ := Reps.get' (i := i) (v := d) r (by simpa using e)
  exact ⟨v, by simpa using h1, h2⟩
theorem Reps.append : ∀ {vs ws : List V} {ds es : List D}, Reps K F vs ds -> Reps K F ws es -> Reps K F (vs ++ ws) (ds ++ es)
 | _, _, _, _, .nil, s => s
 | _, _, _, _, .cons h r, s => .cons h (Reps.append r s)
theorem Reps.take : ∀ {vs : List V} {ds : List D} (n : Nat), Reps K F vs ds -> Reps K F (vs.take n) (ds.take n)
 | _, _, 0, _ => .nil
 | _, _, _ + 1, .nil => .nil
 | _, _, n + 1, .cons h r => .cons h (Reps.take n r)
theorem Reps.drop : ∀ {vs : List V} {ds : List D} (n : Nat), Reps K F vs ds -> Reps K F (vs.drop n) (ds.drop n)
 | _, _, 0, r => r
 | _, _, _ + 1, .nil => .nil
 | _, _, n + 1, .cons _ r => Reps.drop n r
theorem Reps.set {v : V} {d : D} (h : Rep K F v d) : ∀ {vs : List V} {ds : List D} (i : Nat), Reps K F vs ds -> Reps K F (vs.set i v) (ds.set i d)
 | _, _, _, .nil => .nil
 | _, _, 0, .cons _ r => .cons h r
 | _, _, i + 1, .cons q r => .cons q (Reps.set h i r)
theorem Reps.reverse {vs : List V} {ds : List D} (h : Reps K F vs ds) : Reps K F vs.reverse ds.reverse := by
 induction vs generalizing ds with
 | nil => cases h; exact .nil
 | cons v vs ih =>
  cases h with
  | cons h r => rw [reverse_cons, reverse_cons]; exact (ih r).append (.cons h .nil)
end
structure Ext (F H F' H' : Hp) : Prop where
 ff : Same F F'
 hh : Same H H'
 fh : Same F' H'
 new : ∀ b, F b = none -> F' b ≠ none -> H b = none
 nf : ∀ b o u, F' b = some (.frz o u) -> F b = some (.frz o u)
theorem Ext.refl {F H : Hp} (h : Same F H) : Ext F H F H := ⟨Same.refl _, Same.refl _, h, fun b e n => absurd e n, fun _ _ _ z => z⟩
theorem Ext.trans {F H F1 H1 F2 H2 : Hp} (a : Ext F H F1 H1) (b : Ext F1 H1 F2 H2) : Ext F H F2 H2 :=
 ⟨a.ff.trans b.ff, a.hh.trans b.hh, b.fh, fun c e n => by
  by_cases h : F1 c = none
  ·exact a.hh.free (b.new c h n)
  ·exact a.new c e h, fun c o u z => a.nf c o u (b.nf c o u z)⟩
theorem Same.put {F H : Hp} {p : Addr} {o : HO} (h : Same F H) (hp : F p = none) : Same F (upd H p o) := fun b u e => by
 rw [w8 (t8 e hp)]; exact h b u e
theorem Same.put2 {F H : Hp} {p : Addr} {o : HO} (h : Same F H) : Same (upd F p o) (upd H p o) := fun b u e => by
 by_cases hb : b = p
 ·subst hb; rw [w9] at e ⊢; exact e
 ·rw [w8 hb] at e ⊢; exact h b u e
theorem Ext.laid {F H : Hp} {p : Addr} {o : HO} (h : Same F H) (hp : H p = none) (hz : ∀ a u, o ≠ .frz a u := by intro _ _ z; cases z) : Ext F H (upd F p o) (upd H p o) :=
 ⟨(Same.refl F).put (h.free hp), (Same.refl H).put hp, h.put2, fun b e n => by
  by_cases hb : b = p
  ·subst hb; exact hp
  ·rw [w8 hb] at n; exact absurd e n, fun b a u z => by
  by_cases hb : b = p
  ·subst hb; rw [w9] at z; exact absurd (Option.some.inj z) (hz a u)
  ·rw [w8 hb] at z; exact z⟩
theorem Ext.own {F H : Hp} {p : Addr} {o : HO} (h : Same F H) (hp : H p = none) : Ext F H F (upd H p o) :=
 ⟨Same.refl F, (Same.refl H).put hp, h.put (h.free hp), fun b e n => absurd e n, fun _ _ _ z => z⟩
theorem Ext.freeze {F H F' H' : Hp} {p : Addr} {o : HO} (a : Ext F H F' H') (hp' : F' p = none) (hp : H p = none) (ho : H' p = some o) (hz : ∀ a u, o ≠ .frz a u := by intro _ _ z; cases z) : Ext F H (upd F' p o) H' :=
 ⟨a.ff.put (a.ff.free hp'), a.hh, fun b u e => by
   by_cases hb : b = p
   ·subst hb; rw [w9] at e; cases e; exact ho
   ·rw [w8 hb] at e; exact a.fh b u e, fun b e n => by
   by_cases hb : b = p
   ·subst hb; exact hp
   ·rw [w8 hb] at n; exact a.new b e n, fun b c u z => by
   by_cases hb : b = p
   ·subst hb; rw [w9] at z; exact absurd (Option.some.inj z) (hz c u)
   ·rw [w8 hb] at z; exact a.nf b c u z⟩
inductive S where
 | sh (d : D) | own (ds : List D) | ob (p : Addr) (ds : List D)
abbrev Ro := List (Option S)
structure Rl (K : W.Frag) (F0 H0 F H : Hp) (σ : St) (ρ : Ro) : Prop where
 ext : Ext F0 H0 F H
 len : σ.length = ρ.length
 sh : ∀ (i : Nat) d, ρ[i]? = some (some (.sh d)) -> ∃ v, σ[i]? = some (some v) /\ Rep K F v d
 own : ∀ (i : Nat) ds, ρ[i]? = some (some (.own ds)) -> ∃ p xs, σ[i]? = some (some (.ref p)) /\ F p = none /\ H p = some (.lst xs) /\ Reps K F xs ds /\ H0 p = none
 inj : ∀ (i j : Nat) p ds es, i ≠ j -> ρ[i]? = some (some (.own ds)) -> ρ[j]? = some (some (.own es)) -> σ[i]? = some (some (.ref p)) -> σ[j]? = some (some (.ref p)) -> False
 ob : ∀ (i : Nat) p ds, ρ[i]? = some (some (.ob p ds)) -> σ[i]? = some (some (.ref p)) /\ F p = none /\ H0 p = none /\ ∃ xs, H p = some (.lst xs) /\ Reps K F xs ds
 obn : ∀ (i j : Nat) p ds es, ρ[i]? = some (some (.ob p ds)) -> ρ[j]? = some (some (.own es)) -> σ[j]? = some (some (.ref p)) -> False
 ob1 : ∀ (i j : Nat) p q ds es, ρ[i]? = some (some (.ob p ds)) -> ρ[j]? = some (some (.ob q es)) -> i = j
def nob : Option S -> Prop
 | some (.ob _ _) => False
 | _ => True
theorem Z6 {ρ : Ro} {i j : Nat} {x : Option S} {p : Addr} {ds : List D} (e : (ρ.set i x)[j]? = some (some (.ob p ds))) (hx : nob x := by exact True.intro) : i ≠ j /\ ρ[j]? = some (some (.ob p ds)) := by
 by_cases hj : i = j
 ·subst hj
  rcases Nat.lt_or_ge i ρ.length with z | z
  ·rw [getElem?_set_self z] at e; cases e; exact hx.elim
  ·rw [getElem?_eq_none (by simpa using z)] at e; cases e
 ·rw [getElem?_set_ne hj] at e; exact ⟨hj, e⟩
section
variable {K : W.Frag} {F0 H0 F H F' H' : Hp} {σ : St} {ρ : Ro}
theorem Rl.fh (r : Rl K F0 H0 F H σ ρ) : Same F H := r.ext.fh
theorem Rl.go (r : Rl K F0 H0 F H σ ρ) (e : Ext F H F' H') : Rl K F0 H0 F' H' σ ρ where
 ext := r.ext.trans e
 len := r.len
 sh := fun i d h => let ⟨v, a, b⟩ := r.sh i d h; ⟨v, a, b.mono e.ff⟩
 own := fun i ds h => by
  obtain ⟨p, xs, a, b, c, d, z⟩ := r.own i ds h
  refine ⟨p, xs, a, ?_, e.hh _ _ c, d.mono e.ff, z⟩
  cases q : F' p with
  | none => rfl
  | some o => have := e.new p b (by rw [q]; simp); rw [this] at c; cases c
 inj := r.inj
 ob := fun i p ds h => by
  obtain ⟨a, b, c, xs, d, z⟩ := r.ob i p ds h
  refine ⟨a, ?_, c, xs, e.hh _ _ d, z.mono e.ff⟩
  cases q : F' p with
  | none => rfl
  | some o => have := e.new p b (by rw [q]; simp); rw [this] at d; cases d
 obn := r.obn
 ob1 := r.ob1
theorem Rl.set (r : Rl K F0 H0 F H σ ρ) {i : Nat} {v : V} {d : D} (h : Rep K F v d) : Rl K F0 H0 F H (σ.set i (some v)) (ρ.set i (some (.sh d))) where
 ext := r.ext
 len := by simp [r.len]
 sh := fun j d' e => by
  by_cases hj : i = j
  ·subst hj
   have hl : i < ρ.length := by
    rcases Nat.lt_or_ge i ρ.length with z | z
    ·exact z
    ·rw [getElem?_eq_none (by simpa using z)] at e; cases e
   rw [getElem?_set_self hl] at e
   cases e
   exact ⟨v, by rw [getElem?_set_self (by rw [r.len]; exact hl)], h⟩
  ·rw [getElem?_set_ne hj] at e ⊢
   exact r.sh j d' e
 own := fun j ds e => by
  by_cases hj : i = j
  ·subst hj
   have hl : i < ρ.length := by
    rcases Nat.lt_or_ge i ρ.length with z | z
    ·exact z
    ·rw [getElem?_eq_none (by simpa using z)] at e; cases e
   rw [getElem?_set_self hl] at e
   cases e
  ·rw [getElem?_set_ne hj] at e ⊢
   exact r.own j ds e
 inj := fun j k p ds es hjk e1 e2 e3 e4 => by
  have n1 : i ≠ j := fun z => by
   subst z
   have hl : i < ρ.length := by
    rcases Nat.lt_or_ge i ρ.length with z | z
    ·exact z
    ·rw [getElem?_eq_none (by simpa using z)] at e1; cases e1
   rw [getElem?_set_self hl] at e1; cases e1
  have n2 : i ≠ k := fun z => by
   subst z
   have hl : i < ρ.length := by
    rcases Nat.lt_or_ge i ρ.length with z | z
    ·exact z
    ·rw [getElem?_eq_none (by simpa using z)] at e2; cases e2
   rw [getElem?_set_self hl] at e2; cases e2
  rw [getElem?_set_ne n1] at e1 e3
  rw [getElem?_set_ne n2] at e2 e4
  exact r.inj j k p ds es hjk e1 e2 e3 e4
 ob := fun j p ds e => by
  obtain ⟨n, e⟩ := Z6 e
  rw [getElem?_set_ne n]; exact r.ob j p ds e
 obn := fun j k p ds es e1 e2 e3 => by
  obtain ⟨n, e1⟩ := Z6 e1
  have n2 : i ≠ k := fun z => by
   subst z
   have hl : i < ρ.length := by
    rcases Nat.lt_or_ge i ρ.length with z | z
    ·exact z
    ·rw [getElem?_eq_none (by simpa using z)] at e2; cases e2
   rw [getElem?_set_self hl] at e2; cases e2
  rw [getElem?_set_ne n2] at e2 e3
  exact r.obn j k p ds es e1 e2 e3
 ob1 := fun j k p q ds es e1 e2 => r.ob1 j k p q ds es (Z6 e1).2 (Z6 e2).2
theorem Rl.setOwn (r : Rl K F0 H0 F H σ ρ) {i : Nat} {p : Addr} {xs : List V} {ds : List D} (hF : F p = none) (hH : H p = some (.lst xs)) (h : Reps K F xs ds) (h0 : H0 p = none)
  (fr : ∀ (j : Nat) es, i ≠ j -> ρ[j]? = some (some (.own es)) -> σ[j]? = some (some (.ref p)) -> False) (fo : ∀ (j : Nat) q es, ρ[j]? = some (some (.ob q es)) -> q ≠ p) : Rl K F0 H0 F H (σ.set i (some (.ref p))) (ρ.set i (some (.own ds))) where
 ext := r.ext
 len := by simp [r.len]
 sh := fun j d' e => by
  by_cases hj : i = j
  ·subst hj
   have hl : i < ρ.length := by
    rcases Nat.lt_or_ge i ρ.length with z | z
    ·exact z
    ·rw [getElem?_eq_none (by simpa using z)] at e; cases e
   rw [getElem?_set_self hl] at e
   cases e
  ·rw [getElem?_set_ne hj] at e ⊢
   exact r.sh j d' e
 own := fun j es e => by
  by_cases hj : i = j
  ·subst hj
   have hl : i < ρ.length := by
    rcases Nat.lt_or_ge i ρ.length with z | z
    ·exact z
    ·rw [getElem?_eq_none (by simpa using z)] at e; cases e
   rw [getElem?_set_self hl] at e
   cases e
   exact ⟨p, xs, by rw [getElem?_set_self (by rw [r.len]; exact hl)], hF, hH, h, h0⟩
  ·rw [getElem?_set_ne hj] at e ⊢
   exact r.own j es e
 inj := fun j k q es es' hjk e1 e2 e3 e4 => by
  by_cases n1 : i = j
  ·subst n1
   rw [getElem?_set_ne hjk] at e2 e4
   have hl : i < σ.length := by
    rcases Nat.lt_or_ge i σ.length with z | z
    ·exact z
    ·rw [getElem?_eq_none (by simpa using z)] at e3; cases e3
   rw [getElem?_set_self hl] at e3
   cases e3
   exact fr k es' hjk e2 e4
  ·rw [getElem?_set_ne n1] at e1 e3
   by_cases n2 : i = k
   ·subst n2
    have hl : i < σ.length := by
     rcases Nat.lt_or_ge i σ.length with z | z
     ·exact z
     ·rw [getElem?_eq_none (by simpa using z)] at e4; cases e4
    rw [getElem?_set_self hl] at e4
    cases e4
    exact fr j es n1 e1 e3
   ·rw [getElem?_set_ne n2] at e2 e4
    exact r.inj j k q es es' hjk e1 e2 e3 e4
 ob := fun j q es e => by
  obtain ⟨n, e⟩ := Z6 e
  rw [getElem?_set_ne n]; exact r.ob j q es e
 obn := fun j k q es es' e1 e2 e3 => by
  obtain ⟨n, e1⟩ := Z6 e1
  by_cases n2 : i = k
  ·subst n2
   have hl : i < σ.length := by
    rcases Nat.lt_or_ge i σ.length with z | z
    ·exact z
    ·rw [getElem?_eq_none (by simpa using z)] at e3; cases e3
   rw [getElem?_set_self hl] at e3
   cases e3
   exact fo j p es e1 rfl
  ·rw [getElem?_set_ne n2] at e2 e3
   exact r.obn j k q es es' e1 e2 e3
 ob1 := fun j k p q ds es e1 e2 => r.ob1 j k p q ds es (Z6 e1).2 (Z6 e2).2
theorem Rl.freeze (r : Rl K F0 H0 F H σ ρ) {i : Nat} {ds : List D} (h : ρ[i]? = some (some (.own ds))) : ∃ F', Rl K F0 H0 F' H σ (ρ.set i (some (.sh (.lst ds)))) /\ Same F F' := by
 obtain ⟨p, xs, a, b, c, d, z⟩ := r.own i ds h
 have hl : i < ρ.length := (List.getElem?_eq_some_iff.mp h).1
 have e : Ext F0 H0 (upd F p (.lst xs)) H := r.ext.freeze b z c
 have ff : Same F (upd F p (.lst xs)) := (Same.refl F).put b
 refine ⟨upd F p (.lst xs), ⟨e, by simp [r.len], fun j d' q => ?_, fun j es q => ?_, fun j k q es es' hjk e1 e2 e3 e4 => ?_, fun j q es e1 => ?_, fun j k q es es' e1 e2 e3 => ?_, fun j k q q' es es' e1 e2 => r.ob1 j k q q' es es' (Z6 e1).2 (Z6 e2).2⟩, ff⟩
 ·by_cases hj : i = j
  ·subst hj
   rw [getElem?_set_self hl] at q
   cases q
   exact ⟨_, a, .lst (SqL.of w9) (d.mono ff)⟩
  ·rw [getElem?_set_ne hj] at q
   obtain ⟨v, v1, v2⟩ := r.sh j d' q
   exact ⟨v, v1, v2.mono ff⟩
 ·by_cases hj : i = j
  ·subst hj
   rw [getElem?_set_self hl] at q
   cases q
  ·rw [getElem?_set_ne hj] at q
   obtain ⟨p', xs', a', b', c', d', z'⟩ := r.own j es q
   have hp : p' ≠ p := fun w => r.inj i j p ds es hj h q a (by rw [<- w]; exact a')
   exact ⟨p', xs', a', by rw [w8 hp]; exact b', c', d'.mono ff, z'⟩
 ·have n1 : i ≠ j := fun w => by subst w; rw [getElem?_set_self hl] at e1; cases e1
  have n2 : i ≠ k := fun w => by subst w; rw [getElem?_set_self hl] at e2; cases e2
  rw [getElem?_set_ne n1] at e1
  rw [getElem?_set_ne n2] at e2
  exact r.inj j k q es es' hjk e1 e2 e3 e4
 ·obtain ⟨n, e1⟩ := Z6 e1
  obtain ⟨o1, o2, o3, zs, o4, o5⟩ := r.ob j q es e1
  have hp : q ≠ p := fun w => r.obn j i q es ds e1 h (by rw [w]; exact a)
  exact ⟨o1, by rw [w8 hp]; exact o2, o3, zs, o4, o5.mono ff⟩
 ·obtain ⟨n, e1⟩ := Z6 e1
  have n2 : i ≠ k := fun w => by subst w; rw [getElem?_set_self hl] at e2; cases e2
  rw [getElem?_set_ne n2] at e2
  exact r.obn j k q es es' e1 e2 e3
theorem Rl.write (r : Rl K F0 H0 F H σ ρ) {i : Nat} {p : Addr} {ys : List V} {ds es : List D} (h : ρ[i]? = some (some (.own ds))) (hp : σ[i]? = some (some (.ref p))) (hy : Reps K F ys es) :
  Rl K F0 H0 F (upd H p (.lst ys)) σ (ρ.set i (some (.own es))) := by
 obtain ⟨p', xs', a, b, c, d, z⟩ := r.own i ds h
 rw [hp] at a; cases a
 have hl : i < ρ.length := (List.getElem?_eq_some_iff.mp h).1
 refine ⟨⟨r.ext.ff, r.ext.hh.put z, r.ext.fh.put b, r.ext.new, r.ext.nf⟩, by simp [r.len], fun j d' q => ?_, fun j fs q => ?_, fun j k q fs fs' hjk e1 e2 e3 e4 => ?_, fun j q fs e1 => ?_, fun j k q fs fs' e1 e2 e3 => ?_, fun j k q q' es es' e1 e2 => r.ob1 j k q q' es es' (Z6 e1).2 (Z6 e2).2⟩
 ·by_cases hj : i = j
  ·subst hj
   rw [getElem?_set_self hl] at q
   cases q
  ·rw [getElem?_set_ne hj] at q
   exact r.sh j d' q
 ·by_cases hj : i = j
  ·subst hj
   rw [getElem?_set_self hl] at q
   cases q
   exact ⟨p, ys, hp, b, w9, hy, z⟩
  ·rw [getElem?_set_ne hj] at q
   obtain ⟨p2, xs2, a2, b2, c2, d2, z2⟩ := r.own j fs q
   have hpp : p2 ≠ p := fun w => r.inj i j p ds fs hj h q hp (by rw [<- w]; exact a2)
   exact ⟨p2, xs2, a2, b2, by rw [w8 hpp]; exact c2, d2, z2⟩
 ·have back : ∀ (m : Nat) gs, (ρ.set i (some (S.own es)))[m]? = some (some (.own gs)) -> ∃ gs', ρ[m]? = some (some (.own gs')) := fun m gs e => by
   by_cases hm : i = m
   ·subst hm; exact ⟨ds, h⟩
   ·rw [getElem?_set_ne hm] at e; exact ⟨gs, e⟩
  obtain ⟨g1, e1⟩ := back j fs e1
  obtain ⟨g2, e2⟩ := back k fs' e2
  exact r.inj j k q g1 g2 hjk e1 e2 e3 e4
 ·obtain ⟨n, e1⟩ := Z6 e1
  obtain ⟨o1, o2, o3, zs, o4, o5⟩ := r.ob j q fs e1
  have hpp : q ≠ p := fun w => r.obn j i q fs ds e1 h (by rw [w]; exact hp)
  exact ⟨o1, o2, o3, zs, by rw [w8 hpp]; exact o4, o5⟩
 ·obtain ⟨n, e1⟩ := Z6 e1
  by_cases n2 : i = k
  ·subst n2; exact r.obn j i q fs ds e1 h e3
  ·rw [getElem?_set_ne n2] at e2
   exact r.obn j k q fs fs' e1 e2 e3
theorem Rl.writeB (r : Rl K F0 H0 F H σ ρ) {i : Nat} {p : Addr} {ys : List V} {ds es : List D} (h : ρ[i]? = some (some (.ob p ds))) (hy : Reps K F ys es) :
  Rl K F0 H0 F (upd H p (.lst ys)) σ (ρ.set i (some (.ob p es))) := by
 obtain ⟨a, b, z, xs', c, d⟩ := r.ob i p ds h
 have hl : i < ρ.length := (List.getElem?_eq_some_iff.mp h).1
 have back : ∀ (j : Nat) q fs, (ρ.set i (some (S.ob p es)))[j]? = some (some (.ob q fs)) -> j = i /\ q = p /\ fs = es := fun j q fs e => by
  by_cases hj : i = j
  ·subst hj; rw [getElem?_set_self hl] at e; cases e; exact ⟨rfl, rfl, rfl⟩
  ·rw [getElem?_set_ne hj] at e; exact absurd (r.ob1 i j p q ds fs h e) hj
 have other : ∀ (j : Nat) fs, (ρ.set i (some (S.ob p es)))[j]? = some (some (.own fs)) -> i ≠ j /\ ρ[j]? = some (some (.own fs)) := fun j fs e => by
  by_cases hj : i = j
  ·subst hj; rw [getElem?_set_self hl] at e; cases e
  ·rw [getElem?_set_ne hj] at e; exact ⟨hj, e⟩
 refine ⟨⟨r.ext.ff, r.ext.hh.put z, r.ext.fh.put b, r.ext.new, r.ext.nf⟩, by simp [r.len], fun j d' q => ?_, fun j fs q => ?_, fun j k q fs fs' hjk e1 e2 e3 e4 => r.inj j k q fs fs' hjk (other j fs e1).2 (other k fs' e2).2 e3 e4, fun j q fs e1 => ?_, fun j k q fs fs' e1 e2 e3 => ?_, fun j k q q' fs fs' e1 e2 => ?_⟩
 ·by_cases hj : i = j
  ·subst hj; rw [getElem?_set_self hl] at q; cases q
  ·rw [getElem?_set_ne hj] at q; exact r.sh j d' q
 ·obtain ⟨n, e⟩ := other j fs q
  obtain ⟨p2, xs2, a2, b2, c2, d2, z2⟩ := r.own j fs e
  have hpp : p2 ≠ p := fun w => r.obn i j p ds fs h e (by rw [<- w]; exact a2)
  exact ⟨p2, xs2, a2, b2, by rw [w8 hpp]; exact c2, d2, z2⟩
 ·obtain ⟨e2, e3, e4⟩ := back j q fs e1
  subst e2 e3 e4
  exact ⟨a, b, z, ys, w9, hy⟩
 ·obtain ⟨e4, e5, _⟩ := back j q fs e1
  subst e4 e5
  exact r.obn j k q ds fs' h (other k fs' e2).2 e3
 ·rw [(back j q fs e1).1, (back k q' fs' e2).1]
end
theorem Rep.n' {K : W.Frag} {F : Hp} {x : V} (r : Rep K F x .non) : x = .non := by cases r; rfl
theorem Rep.b' {K : W.Frag} {F : Hp} {x : V} {i : Bool} (r : Rep K F x (.bl i)) : x = .bl i := by cases r; rfl
theorem Rep.i' {K : W.Frag} {F : Hp} {x : V} {i : Int} (r : Rep K F x (.int i)) : x = .int i := by cases r; rfl
theorem Rep.s' {K : W.Frag} {F : Hp} {x : V} {i : Str} (r : Rep K F x (.str i)) : x = .str i := by cases r; rfl
theorem Rep.l' {K : W.Frag} {F : Hp} {x : V} {ds : List D} (r : Rep K F x (.lst ds)) : ∃ a xs, x = .ref a /\ SqL K F a xs /\ Reps K F xs ds := by cases r with | lst s r => exact ⟨_, _, rfl, s, r⟩
theorem Rep.t' {K : W.Frag} {F : Hp} {x : V} {ds : List D} (r : Rep K F x (.tup ds)) : ∃ a xs, x = .ref a /\ SqT K F a xs /\ Reps K F xs ds := by cases r with | tup s r => exact ⟨_, _, rfl, s, r⟩
end
section
abbrev ME := Ro -> Option D
abbrev ML := Ro -> Option (List D)
abbrev MB := Ro -> Option Bool
def TD (K : W.Frag) (m : ME) : TE := fun σ H Q => ∃ F0 H0 F ρ d, Rl K F0 H0 F H σ ρ /\ m ρ = some d /\ ∀ v F' H', Ext F H F' H' -> Rep K F' v d -> Q v H'
def TF (K : W.Frag) (m : ML) : TE := fun σ H Q => ∃ F0 H0 F ρ ds, Rl K F0 H0 F H σ ρ /\ m ρ = some ds /\ ∀ p xs F' H', Ext F H F' H' -> H p = none -> F' p = none -> H' p = some (.lst xs) -> Reps K F' xs ds -> Q (.ref p) H'
def TB (K : W.Frag) (m : ML) : TE := fun σ H Q => ∃ F0 H0 F ρ ds, Rl K F0 H0 F H σ ρ /\ m ρ = some ds /\ ∀ p xs F' H', Ext F H F' H' -> SqL K H' p xs -> Reps K F' xs ds -> Q (.ref p) H'
def TC (K : W.Frag) (c : MB) : TT := fun σ H Q => ∃ F0 H0 F ρ b, Rl K F0 H0 F H σ ρ /\ c ρ = some b /\ ∀ F' H', Ext F H F' H' -> Q b H'
def TAs (K : W.Frag) (m : ML) : TA := fun σ H Q => ∃ F0 H0 F ρ ds, Rl K F0 H0 F H σ ρ /\ m ρ = some ds /\ ∀ vs F' H', Ext F H F' H' -> Reps K F' vs ds -> Q vs H'
def PD (X : Cx) (e : Expr) (m : ME) : Prop := PE X e (TD X.K m)
def PF (X : Cx) (e : Expr) (m : ML) : Prop := PE X e (TF X.K m)
def PB (X : Cx) (e : Expr) (m : ML) : Prop := PE X e (TB X.K m)
def PC' (X : Cx) (e : Expr) (c : MB) : Prop := PT X e (TC X.K c)
def PCw (X : Cx) (e : Expr) (c : MB) : Prop := PW X e (TC X.K c)
def PAs (X : Cx) (es : List Expr) (m : ML) : Prop := PA X es (TAs X.K m)
section
variable {X : Cx} {a b c e : Expr} {ma mb : ME} {pos : Pos}
theorem PE.imp {t t' : TE} (h : PE X e t) (i : ∀ σ H Q, t' σ H Q -> t σ H Q) : PE X e t' := fun pins s σ H Q I q => h pins s σ H Q I (i σ H Q q)
theorem PT.imp {t t' : TT} (h : PT X e t) (i : ∀ σ H Q, t' σ H Q -> t σ H Q) : PT X e t' := fun pins s σ H Q I q => h pins s σ H Q I (i σ H Q q)
theorem PW.imp {t t' : TT} (h : PW X e t) (i : ∀ σ H Q, t' σ H Q -> t σ H Q) : PW X e t' := fun w pins s σ H Q I q => h w pins s σ H Q I (i σ H Q q)
theorem PA.imp {es : List Expr} {t t' : TA} (h : PA X es t) (i : ∀ σ H Q, t' σ H Q -> t σ H Q) : PA X es t' := fun pos pins s σ H Q I q => h pos pins s σ H Q I (i σ H Q q)
def mvar (i : Nat) : ME := fun ρ => match ρ[i]? with | some (some (.sh d)) => some d | _ => none
def bvar (i : Nat) : ML := fun ρ => match ρ[i]? with | some (some (.sh (.lst ds))) => some ds | some (some (.own ds)) => some ds | some (some (.ob _ ds)) => some ds | _ => none
def mc (d : D) : ME := fun _ => some d
theorem z6 (i : Nat) {x : Str} {pos : Pos} (h : PE X (.Name x pos) (tVar i)) : PD X (.Name x pos) (mvar i) := h.imp fun σ H Q hpat => by
 obtain ⟨F0, H0, F, ρ, d, r, e, q⟩ := hpat
 unfold mvar at e
 split at e
 ·rename_i h'
  cases e
  obtain ⟨v, e1, e2⟩ := r.sh i _ h'
  exact ⟨v, e1, q v F H (.refl r.fh) e2⟩
 ·cases e
theorem w4 (i : Nat) {x : Str} {pos : Pos} (h : PE X (.Name x pos) (tVar i)) : PB X (.Name x pos) (bvar i) := h.imp fun σ H Q hpat => by
 obtain ⟨F0, H0, F, ρ, d, r, e, q⟩ := hpat
 unfold bvar at e
 split at e
 ·rename_i ds h'
  cases e
  obtain ⟨v, e1, e2⟩ := r.sh i _ h'
  cases e2 with
  | lst s rs => exact ⟨_, e1, q _ _ F H (.refl r.fh) (r.fh.seq s) rs⟩
 ·rename_i ds h'
  cases e
  obtain ⟨p, xs, e1, e2, e3, e4, _⟩ := r.own i _ h'
  exact ⟨_, e1, q _ _ F H (.refl r.fh) (SqL.of e3) e4⟩
 ·rename_i p ds h'
  cases e
  obtain ⟨e1, e2, _, xs, e3, e4⟩ := r.ob i p _ h'
  exact ⟨_, e1, q _ _ F H (.refl r.fh) (SqL.of e3) e4⟩
 ·cases e
theorem y8 {i : Int} {j pos} : PD X (.Constant (.int i) j pos) (mc (.int i)) := pe_int.imp fun σ H Q hpat => by
 obtain ⟨F0, H0, F, ρ, d, r, e, q⟩ := hpat
 cases e; exact q _ F H (.refl r.fh) (.int i)
theorem G5 {b : Bool} {j pos} : PD X (.Constant (.bool b) j pos) (mc (.bl b)) := pe_bl.imp fun σ H Q hpat => by
 obtain ⟨F0, H0, F, ρ, d, r, e, q⟩ := hpat
 cases e; exact q _ F H (.refl r.fh) (.bl b)
theorem zf9 {j pos} : PD X (.Constant .none j pos) (mc .non) := pe_non.imp fun σ H Q hpat => by
 obtain ⟨F0, H0, F, ρ, d, r, e, q⟩ := hpat
 cases e; exact q _ F H (.refl r.fh) .non
theorem yt2 {x : Str} {j pos} : PD X (.Constant (.str x) j pos) (mc (.str x)) := pe_str.imp fun σ H Q hpat => by
 obtain ⟨F0, H0, F, ρ, d, r, e, q⟩ := hpat
 cases e; exact q _ F H (.refl r.fh) (.str x)
def mlst (m : ML) : ME := fun ρ => (m ρ).map .lst
def l9 (m : ME) : ML := fun ρ => match m ρ with | some (.lst ds) => some ds | _ => none
theorem i6 {m : ML} (h : PF X e m) : PD X e (mlst m) := h.imp fun σ H Q hpat => by
 obtain ⟨F0, H0, F, ρ, d, r, e, q⟩ := hpat
 unfold mlst at e
 cases hm : m ρ with
 | none => rw [hm] at e; cases e
 | some ds =>
  rw [hm] at e; cases e
  refine ⟨F0, H0, F, ρ, ds, r, hm, fun p xs F' H' x hp hF hH rs => ?_⟩
  exact q _ (upd F' p (.lst xs)) H' (x.freeze hF hp hH) (.lst (SqL.of w9) (rs.mono ((Same.refl F').put hF)))
theorem G4 (h : PD X e ma) : PB X e (l9 ma) := h.imp fun σ H Q hpat => by
 obtain ⟨F0, H0, F, ρ, d, r, e, q⟩ := hpat
 unfold l9 at e
 split at e
 ·rename_i ds hm
  cases e
  refine ⟨F0, H0, F, ρ, _, r, hm, fun v F' H' x rv => ?_⟩
  cases rv with
  | lst s rs => exact q _ _ F' H' x (x.fh.seq s) rs
 ·cases e
theorem t9 {m : ML} (h : PF X e m) : PB X e m := h.imp fun σ H Q ⟨F0, H0, F, ρ, d, r, e, q⟩ =>
 ⟨F0, H0, F, ρ, d, r, e, fun p xs F' H' x hp hF hH rs => q p xs F' H' x (SqL.of hH) rs⟩
@[irreducible] def m2 (f : D -> D -> Option D) (x y : ME) : ME := fun ρ => (x ρ).bind fun d => (y ρ).bind fun e => f d e
def OpD (K : W.Frag) (r : R2) (f : D -> D -> Option D) : Prop := ∀ (F H : Hp) (x y : V) (d e g : D) (Q : VK), Same F H -> Rep K F x d -> Rep K F y e -> f d e = some g -> (∀ v F' H', Ext F H F' H' -> Rep K F' v g -> Q v H') -> r x y H Q
theorem yn7 {f : D -> D -> Option D} {ρ : Ro} {g : D} (h : m2 f ma mb ρ = some g) : ∃ d e, ma ρ = some d /\ mb ρ = some e /\ f d e = some g := by
 unfold m2 at h
 cases h1 : ma ρ with
 | none => rw [h1] at h; cases h
 | some d =>
  cases h2 : mb ρ with
  | none => rw [h1, h2] at h; cases h
  | some e => rw [h1, h2] at h; exact ⟨d, e, rfl, rfl, h⟩
theorem op_d {r : R2} {f : D -> D -> Option D} (hf : OpD X.K r f) {σ : St} {H : Hp} {Q : VK} (h : TD X.K (m2 f ma mb) σ H Q) : tOp r (TD X.K ma) (TD X.K mb) σ H Q := by
 obtain ⟨F0, H0, F, ρ, g, rl, e, q⟩ := h
 obtain ⟨d, e', h1, h2, h3⟩ := yn7 e
 refine ⟨F0, H0, F, ρ, d, rl, h1, fun x F1 H1 x1 r1 => ⟨F0, H0, F1, ρ, e', rl.go x1, h2, fun y F2 H2 x2 r2 => ?_⟩⟩
 exact hf F2 H2 x y d e' g Q x2.fh (r1.mono x2.ff) r2 h3 fun v F' H' x3 => q v F' H' ((x1.trans x2).trans x3)
theorem zw4 {op : Operator} {r : R2} {f : D -> D -> Option D} (ho : OpR X (binaryOp op) r) (hf : OpD X.K r f) (ha : PD X a ma) (hb : PD X b mb) : PD X (.BinOp a op b pos) (m2 f ma mb) := (yp9 ho ha hb).imp fun _ _ _ h => op_d hf h
theorem V9 {op : CmpOp} {r : R2} {f : D -> D -> Option D} (ho : OpR X (compareOp op) r) (hf : OpD X.K r f) (ha : PD X a ma) (hb : PD X b mb) (hm : behindInMarks op b = false) : PD X (.Compare a [op] [b] pos) (m2 f ma mb) := (yo2 ho ha hb hm).imp fun _ _ _ h => op_d hf h
def l6 (m : ME) : MB := fun ρ => match m ρ with | some (.bl b) => some b | _ => none
theorem f6 {op : CmpOp} {r : R2} {f : D -> D -> Option D} (ho : OpR X (compareOp op) r) (hf : OpD X.K r f) (ha : PD X a ma) (hb : PD X b mb) (hm : behindInMarks op b = false) : PC' X (.Compare a [op] [b] pos) (l6 (m2 f ma mb)) := (zg4 ho ha hb hm).imp fun σ H Q hpat => by
 obtain ⟨F0, H0, F, ρ, g, rl, e, q⟩ := hpat
 unfold l6 at e
 split at e
 ·rename_i k hk
  cases e
  refine op_d hf ⟨F0, H0, F, ρ, .bl g, rl, hk, fun v F' H' x r => ?_⟩
  cases r
  exact ⟨_, rfl, q F' H' x⟩
 ·cases e
def int2 (g : Int -> Int -> Option D) : D -> D -> Option D
 | .int i, .int j => g i j
 | _, _ => none
theorem zp9 {g : Int -> Int -> Option D} {d e w : D} (h : int2 g d e = some w) : ∃ i j, d = .int i /\ e = .int j /\ g i j = some w := by
 cases d with
 | int i =>
  cases e with
  | int j => exact ⟨i, j, rfl, rfl, h⟩
  | _ => cases h
 | _ => cases h
theorem P6 {K : W.Frag} {g : Int -> Int -> V} {g' : Int -> Int -> D} (hg : ∀ F i j, Rep K F (g i j) (g' i j)) : OpD K (rI0 g) (int2 fun i j => some (g' i j)) := by
 intro F H x y d e w Q s r1 r2 h q
 obtain ⟨i, j, rfl, rfl, h'⟩ := zp9 h
 clear h
 cases h'
 exact ⟨i, j, r1.i', r2.i', q _ F H (.refl s) (hg F i j)⟩
theorem zw6 {K : W.Frag} {C : Int -> Int -> Prop} {ok : Int -> Int -> Bool} {g : Int -> Int -> V} {g' : Int -> Int -> D} (hC : ∀ i j, ok i j = true -> C i j) (hg : ∀ F i j, Rep K F (g i j) (g' i j)) :
  OpD K (rI C g) (int2 fun i j => if ok i j = true then some (g' i j) else none) := by
 intro F H x y d e w Q s r1 r2 h q
 obtain ⟨i, j, rfl, rfl, h'⟩ := zp9 h
 clear h
 by_cases hk : ok i j = true
 ·rw [if_pos hk] at h'
  cases h'
  exact ⟨i, j, r1.i', r2.i', hC i j hk, q _ F H (.refl s) (hg F i j)⟩
 ·rw [if_neg hk] at h'
  cases h'
def subD : D -> D -> Option D := int2 fun i j => some (.int (i - j))
def S5 (i j : Int) : Bool := (decide (-(2 ^ 64) < i) && decide (i < 2 ^ 64)) || (decide (-(2 ^ 64) < j) && decide (j < 2 ^ 64))
def mulD : D -> D -> Option D := int2 fun i j => if S5 i j = true then some (.int (i * j)) else none
def N3 (_ j : Int) : Bool := decide (0 < j) && decide (j < 1073741824)
def U3 : D -> D -> Option D := int2 fun i j => if N3 i j = true then some (.int (i / j)) else none
def G8 (_ j : Int) : Bool := decide (0 < j)
def modD : D -> D -> Option D := int2 fun i j => if G8 i j = true then some (.int (i % j)) else none
def B6 (i j : Int) : Bool := decide (0 <= j) && decide (j <= 1000000) && decide (i.natAbs < 2 ^ 64)
def powD : D -> D -> Option D := int2 fun i j => if B6 i j = true then some (.int (i ^ j.toNat)) else none
def zh4 (_ j : Int) : Bool := decide (0 <= j)
def shrD : D -> D -> Option D := int2 fun i j => if zh4 i j = true then some (.int (i / 2 ^ j.toNat)) else none
def andD : D -> D -> Option D := int2 fun i j => some (.int (Builtin.bitAnd i j))
def ltD : D -> D -> Option D := int2 fun i j => some (.bl (decide (i < j)))
def leD : D -> D -> Option D := int2 fun i j => some (.bl (decide (i <= j)))
def gtD : D -> D -> Option D := int2 fun i j => some (.bl (decide (j < i)))
def geD : D -> D -> Option D := int2 fun i j => some (.bl (decide (j <= i)))
theorem yo6 {K : W.Frag} : OpD K (rI0 fun i j => .int (i - j)) subD := P6 fun F i j => .int _
theorem yo9 {K : W.Frag} : OpD K (rI CMul fun i j => .int (i * j)) mulD := zw6 (fun i j h => by
 unfold S5 at h
 simp only [Bool.or_eq_true, Bool.and_eq_true, decide_eq_true_eq] at h
 exact h) fun F i j => .int _
theorem yx7 {K : W.Frag} : OpD K (rI CDiv fun i j => .int (i / j)) U3 := zw6 (fun i j h => by
 unfold N3 at h
 simp only [Bool.and_eq_true, decide_eq_true_eq] at h
 exact h) fun F i j => .int _
theorem yn0 {K : W.Frag} : OpD K (rI (fun _ j => 0 < j) fun i j => .int (i % j)) modD := zw6 (fun i j h => of_decide_eq_true h) fun F i j => .int _
theorem yo8 {K : W.Frag} : OpD K (rI CPow fun i j => .int (i ^ j.toNat)) powD := zw6 (fun i j h => by
 unfold B6 at h
 simp only [Bool.and_eq_true, decide_eq_true_eq] at h
 exact ⟨h.1.1, h.1.2, h.2⟩) fun F i j => .int _
theorem yo7 {K : W.Frag} : OpD K (rI (fun _ j => 0 <= j) fun i j => .int (i / 2 ^ j.toNat)) shrD := zw6 (fun i j h => of_decide_eq_true h) fun F i j => .int _
theorem yn2 {K : W.Frag} : OpD K (rI0 fun i j => .int (Builtin.bitAnd i j)) andD := P6 fun F i j => .int _
theorem O7 {K : W.Frag} : OpD K (rI0 fun i j => .bl (decide (i < j))) ltD := P6 fun F i j => .bl _
theorem yg9 {K : W.Frag} : OpD K (rI0 fun i j => .bl (decide (i <= j))) leD := P6 fun F i j => .bl _
theorem O8 {K : W.Frag} : OpD K (rI0 fun i j => .bl (decide (j < i))) gtD := P6 fun F i j => .bl _
theorem E9 {K : W.Frag} : OpD K (rI0 fun i j => .bl (decide (j <= i))) geD := P6 fun F i j => .bl _
def eqS : D -> D -> Option Bool
 | .non, .non => some true | .non, .int _ => some false | .int _, .non => some false | .non, .bl _ => some false | .bl _, .non => some false | .non, .str _ => some false | .str _, .non => some false
 | .int i, .int j => some (i == j) | .bl i, .bl j => some (i == j) | .str i, .str j => some (i == j)
 | .int _, .str _ => some false | .str _, .int _ => some false | .bl _, .str _ => some false | .str _, .bl _ => some false
 | _, _ => none
def eqSD (d e : D) : Option D := (eqS d e).map .bl
def neSD (d e : D) : Option D := (eqS d e).map fun b => .bl (!b)
def scV : D -> V
 | .bl b => .bl b | .int i => .int i | .str x => .str x | _ => .non
theorem zc9 {d e : D} {k : Bool} (h : eqS d e = some k) : scal (scV d) (scV e) = true /\ decide (scV d = scV e) = k := by
 cases d with
 | non => cases e <;> cases h <;> exact ⟨rfl, rfl⟩
 | bl i =>
  cases e <;> cases h
  ·exact ⟨rfl, rfl⟩
  ·exact ⟨rfl, zb3⟩
  ·exact ⟨rfl, rfl⟩
 | int i =>
  cases e <;> cases h
  ·exact ⟨rfl, rfl⟩
  ·exact ⟨rfl, zr8⟩
  ·exact ⟨rfl, rfl⟩
 | str i =>
  cases e <;> cases h
  ·exact ⟨rfl, rfl⟩
  ·exact ⟨rfl, rfl⟩
  ·exact ⟨rfl, rfl⟩
  ·exact ⟨rfl, zr7⟩
 | _ => cases h
theorem zj4 {d e : D} {k : Bool} (h : eqS d e = some k) {K : W.Frag} {F : Hp} {x : V} (r : Rep K F x d) : x = scV d := by
 cases d with
 | non => exact r.n'
 | bl i => exact r.b'
 | int i => exact r.i'
 | str i => exact r.s'
 | _ => cases h
theorem zr6 (d e : D) (k : Bool) (h : eqS d e = some k) : ∃ k', eqS e d = some k' := by
 cases d with
 | non => cases e <;> cases h <;> exact ⟨_, rfl⟩
 | bl i => cases e <;> cases h <;> exact ⟨_, rfl⟩
 | int i => cases e <;> cases h <;> exact ⟨_, rfl⟩
 | str i => cases e <;> cases h <;> exact ⟨_, rfl⟩
 | _ => cases h
theorem X5 {K : W.Frag} : OpD K rEq eqSD := by
 intro F H x y d e w Q s r1 r2 h q
 unfold eqSD at h
 cases hk : eqS d e with
 | none => rw [hk] at h; cases h
 | some k =>
  rw [hk] at h
  cases h
  obtain ⟨k', hk'⟩ := zr6 d e k hk
  obtain ⟨h1, h2⟩ := zc9 hk
  rw [zj4 hk r1, zj4 hk' r2]
  refine ⟨h1, ?_⟩
  rw [h2]
  exact q _ F H (.refl s) (.bl _)
theorem ze0 {K : W.Frag} : OpD K rNe neSD := by
 intro F H x y d e w Q s r1 r2 h q
 unfold neSD at h
 cases hk : eqS d e with
 | none => rw [hk] at h; cases h
 | some k =>
  rw [hk] at h
  cases h
  obtain ⟨k', hk'⟩ := zr6 d e k hk
  obtain ⟨h1, h2⟩ := zc9 hk
  rw [zj4 hk r1, zj4 hk' r2]
  refine ⟨h1, ?_⟩
  rw [h2]
  exact q _ F H (.refl s) (.bl _)
def m1 (f : D -> Option D) (x : ME) : ME := fun ρ => (x ρ).bind f
def negD : D -> Option D
 | .int i => some (.int (-i))
 | _ => none
theorem zd7 {f : D -> Option D} {ρ : Ro} {g : D} (h : m1 f ma ρ = some g) : ∃ d, ma ρ = some d /\ f d = some g := by
 unfold m1 at h
 cases h1 : ma ρ with
 | none => rw [h1] at h; cases h
 | some d => rw [h1] at h; exact ⟨d, rfl, h⟩
theorem T8 (ha : PD X a ma) : PD X (.UnaryOp .USub a pos) (m1 negD ma) := (xy2 yj2 ha).imp fun σ H Q hpat => by
 obtain ⟨F0, H0, F, ρ, g, rl, e, q⟩ := hpat
 obtain ⟨d, h1, h2⟩ := zd7 e
 refine ⟨F0, H0, F, ρ, d, rl, h1, fun x F1 H1 x1 r1 => ?_⟩
 cases r1 <;> first | (cases h2; done) | skip
 cases h2
 exact ⟨_, rfl, q _ F1 H1 x1 (.int _)⟩
def notD : D -> Option D
 | .bl b => some (.bl (!b))
 | _ => none
theorem yg6 (ha : PD X a ma) : PD X (.UnaryOp .Not a pos) (m1 notD ma) := (yg0 ha).imp fun σ H Q hpat => by
 obtain ⟨F0, H0, F, ρ, g, rl, e, q⟩ := hpat
 obtain ⟨d, h1, h2⟩ := zd7 e
 refine ⟨F0, H0, F, ρ, d, rl, h1, fun x F1 H1 x1 r1 => ?_⟩
 cases r1 <;> first | (cases h2; done) | skip
 cases h2
 exact ⟨_, rfl, q _ F1 H1 x1 (.bl _)⟩
def mand (x y : ME) : ME := fun ρ => match x ρ with | some (.bl true) => y ρ | some (.bl false) => some (.bl false) | _ => none
theorem yg5 {op} (h : PD X a ma) : PD X (.BoolOp op [a] pos) ma := yt1 h
theorem yg8 {rest : List Expr} (ha : PD X a ma) (hb : PD X (.BoolOp .And (b :: rest) pos) mb) : PD X (.BoolOp .And (a :: b :: rest) pos) (mand ma mb) := (yg3 ha hb).imp fun σ H Q hpat => by
 obtain ⟨F0, H0, F, ρ, g, rl, e, q⟩ := hpat
 unfold mand at e
 split at e
 ·rename_i h1
  refine ⟨F0, H0, F, ρ, _, rl, h1, fun x F1 H1 x1 r1 => ?_⟩
  cases r1
  refine ⟨true, rfl, ?_⟩
  refine iteT ?_
  exact ⟨F0, H0, F1, ρ, g, rl.go x1, e, fun y F2 H2 x2 r2 => q y F2 H2 (x1.trans x2) r2⟩
 ·rename_i h1
  cases e
  refine ⟨F0, H0, F, ρ, _, rl, h1, fun x F1 H1 x1 r1 => ?_⟩
  cases r1
  refine ⟨false, rfl, ?_⟩
  refine iteF ?_
  exact q _ F1 H1 x1 (.bl _)
 ·cases e
def truD : D -> Option Bool
 | .non => some false
 | .bl b => some b
 | .int i => some (i != 0)
 | .str y => if y.length <= sizeLine then some ((y.length : Int) != 0) else none
 | .lst ds => some (!ds.isEmpty)
 | .tup ds => some (!ds.isEmpty)
 | .exc _ => none
 | .ptr _ => none
 | .obj _ _ _ => none
def mtru (m : ME) : MB := fun ρ => (m ρ).bind truD
theorem X4 {K : W.Frag} {F : Hp} {vs : List V} {ds : List D} (h : Reps K F vs ds) : (!ds.isEmpty) = !vs.isEmpty := by cases h <;> rfl
theorem zp4 (ha : PD X a ma) (he : ∀ whole, isTrue a X.env whole = (do let v ← whole; standAt a.pos; holding [v] (truthy v)) := by intro _; rfl) : PC' X a (mtru ma) := (yy3 ha he).imp fun σ H Q hpat => by
 obtain ⟨F0, H0, F, ρ, b, rl, e, q⟩ := hpat
 unfold mtru at e
 cases h1 : ma ρ with
 | none => rw [h1] at e; cases e
 | some d =>
  rw [h1] at e
  refine ⟨F0, H0, F, ρ, d, rl, h1, fun x F1 H1 x1 r1 => ⟨b, ?_, q F1 H1 x1⟩⟩
  cases r1 with
  | non => cases e; rfl
  | bl => cases e; rfl
  | int => cases e; rfl
  | str x =>
   have e : (if x.length <= sizeLine then some ((x.length : Int) != 0) else none) = some b := e
   split at e
   ·rename_i hz
    cases e
    exact ⟨hz, rfl⟩
   ·cases e
  | lst s rs => cases e; exact .inl ⟨_, x1.fh.seq s, X4 rs⟩
  | tup s rs => cases e; exact .inr (.inl ⟨_, x1.fh.seqT s, X4 rs⟩)
  | exc => cases e
  | ptr => cases e
  | obj => cases e
variable {ca cb : MB}
def cand (x y : MB) : MB := fun ρ => match x ρ with | some true => y ρ | some false => some false | none => none
def cor (x y : MB) : MB := fun ρ => match x ρ with | some true => some true | some false => y ρ | none => none
def cnot (x : MB) : MB := fun ρ => (x ρ).map (!·)
theorem pc_w (h : PCw X a ca) : PC' X a ca := h.pt
theorem K4 (h : PC' X a ca) : PCw X (.BoolOp .And [a] pos) ca := yq6 h
theorem zx7 (h : PC' X a ca) : PCw X (.BoolOp .Or [a] pos) ca := yi7 h
theorem K9 {rest : List Expr} (ha : PC' X a ca) (hb : PCw X (.BoolOp .And (b :: rest) pos) cb) : PCw X (.BoolOp .And (a :: b :: rest) pos) (cand ca cb) := (yi8 ha hb).imp fun σ H Q hpat => by
 obtain ⟨F0, H0, F, ρ, g, rl, e, q⟩ := hpat
 unfold cand at e
 split at e
 ·rename_i h1
  refine ⟨F0, H0, F, ρ, _, rl, h1, fun F1 H1 x1 => ?_⟩
  refine iteT ?_
  exact ⟨F0, H0, F1, ρ, g, rl.go x1, e, fun F2 H2 x2 => q F2 H2 (x1.trans x2)⟩
 ·rename_i h1
  cases e
  refine ⟨F0, H0, F, ρ, _, rl, h1, fun F1 H1 x1 => ?_⟩
  refine iteF ?_
  exact q F1 H1 x1
 ·cases e
theorem zw5 {rest : List Expr} (ha : PC' X a ca) (hb : PCw X (.BoolOp .Or (b :: rest) pos) cb) : PCw X (.BoolOp .Or (a :: b :: rest) pos) (cor ca cb) := (xy1 ha hb).imp fun σ H Q hpat => by
 obtain ⟨F0, H0, F, ρ, g, rl, e, q⟩ := hpat
 unfold cor at e
 split at e
 ·rename_i h1
  cases e
  refine ⟨F0, H0, F, ρ, _, rl, h1, fun F1 H1 x1 => ?_⟩
  refine iteT ?_
  exact q F1 H1 x1
 ·rename_i h1
  refine ⟨F0, H0, F, ρ, _, rl, h1, fun F1 H1 x1 => ?_⟩
  refine iteF ?_
  exact ⟨F0, H0, F1, ρ, g, rl.go x1, e, fun F2 H2 x2 => q F2 H2 (x1.trans x2)⟩
 ·cases e
theorem zp5 (ha : PC' X a ca) : PC' X (.UnaryOp .Not a pos) (cnot ca) := (yh0 ha).imp fun σ H Q hpat => by
 obtain ⟨F0, H0, F, ρ, g, rl, e, q⟩ := hpat
 unfold cnot at e
 cases h1 : ca ρ with
 | none => rw [h1] at e; cases e
 | some k =>
  rw [h1] at e; cases e
  exact ⟨F0, H0, F, ρ, k, rl, h1, fun F1 H1 x1 => q F1 H1 x1⟩
def anil : ML := fun _ => some []
@[irreducible] def z7 (x : ME) (r : ML) : ML := fun ρ => (x ρ).bind fun d => (r ρ).bind fun ds => some (d :: ds)
theorem C0 {r : ML} {ρ : Ro} {gs : List D} (h : z7 ma r ρ = some gs) : ∃ d ds, ma ρ = some d /\ r ρ = some ds /\ gs = d :: ds := by
 unfold z7 at h
 cases h1 : ma ρ with
 | none => rw [h1] at h; cases h
 | some d =>
  cases h2 : r ρ with
  | none => rw [h1, h2] at h; cases h
  | some ds => rw [h1, h2] at h; cases h; exact ⟨d, ds, rfl, rfl, rfl⟩
theorem y7 : PAs X [] anil := pa_nil.imp fun σ H Q hpat => by
 obtain ⟨F0, H0, F, ρ, g, rl, e, q⟩ := hpat
 cases e; exact q [] F H (.refl rl.fh) .nil
theorem z0 {es : List Expr} {m : ML} (ha : PD X a ma) (hr : PAs X es m) (hs : starEach (a :: es) X.env = (false, eval a X.env) :: starEach es X.env := by rfl) : PAs X (a :: es) (z7 ma m) := (X0 ha hr hs).imp fun σ H Q hpat => by
 obtain ⟨F0, H0, F, ρ, g, rl, e, q⟩ := hpat
 obtain ⟨d, ds, h1, h2, rfl⟩ := C0 e
 refine ⟨F0, H0, F, ρ, d, rl, h1, fun x F1 H1 x1 r1 => ⟨F0, H0, F1, ρ, ds, rl.go x1, h2, fun xs F2 H2 x2 r2 => ?_⟩⟩
 exact q _ F2 H2 (x1.trans x2) (.cons (r1.mono x2.ff) r2)
@[irreducible] def v0 (m : ML) : ML := fun ρ => match m ρ with | some ds => if ds.length <= sizeLine then some ds else none | none => none
theorem E4 {m : ML} {ρ : Ro} {gs : List D} (h : v0 m ρ = some gs) : m ρ = some gs /\ gs.length <= sizeLine := by
 unfold v0 at h
 cases h1 : m ρ with
 | none => rw [h1] at h; cases h
 | some ds =>
  rw [h1] at h
  have h : (if ds.length <= sizeLine then some ds else none) = some gs := h
  split at h
  ·rename_i hz; cases h; exact ⟨rfl, hz⟩
  ·cases h
theorem u4 {es : List Expr} {m : ML} (h : PAs X es m) : PF X (.List es pos) (v0 m) := (yg1 h).imp fun σ H Q hpat => by
 obtain ⟨F0, H0, F, ρ, g, rl, e, q⟩ := hpat
 obtain ⟨h1, h2⟩ := E4 e
 refine ⟨F0, H0, F, ρ, g, rl, h1, fun vs F1 H1 x1 r1 => ⟨by rw [r1.length]; exact h2, fun p hp => ?_⟩⟩
 exact q p vs F1 _ (x1.trans (Ext.own x1.fh hp)) (x1.hh.free hp) (x1.fh.free hp) w9 r1
def mtup (m : ML) : ME := fun ρ => (v0 m ρ).map .tup
theorem K7 {es : List Expr} {m : ML} {k : Nat} (h : PAs X es m) : PD X (.Tuple es k pos) (mtup m) := (yh7 h).imp fun σ H Q hpat => by
 obtain ⟨F0, H0, F, ρ, g, rl, e, q⟩ := hpat
 unfold mtup at e
 cases h1 : v0 m ρ with
 | none => rw [h1] at e; cases e
 | some ds =>
  rw [h1] at e; cases e
  obtain ⟨h1, h2⟩ := E4 h1
  refine ⟨F0, H0, F, ρ, ds, rl, h1, fun vs F1 H1 x1 r1 => ⟨by rw [r1.length]; exact h2, fun p hp => ?_⟩⟩
  exact q _ _ _ (x1.trans (Ext.laid x1.fh hp)) (.tup (SqT.of w9) (r1.mono ((Same.refl F1).put (x1.fh.free hp))))
def mlen (m : ML) : ME := fun ρ => (m ρ).map fun ds => .int ds.length
@[irreducible] def mix (m : ML) (i : ME) : ME := fun ρ => (m ρ).bind fun ds => (i ρ).bind fun | .int k => atI ds k | _ => none
theorem zn2 {K : W.Frag} {F : Hp} {vs : List V} {ds : List D} {k : Int} {d : D} (r : Reps K F vs ds) (h : atI ds k = some d) : ∃ v, atI vs k = some v /\ Rep K F v d := by
 unfold atI at h ⊢
 rw [r.length]
 cases q : ixN ds.length k with
 | none => rw [q] at h; cases h
 | some j =>
  rw [q] at h
  exact r.get h
theorem j1 {ml : ML} (ha : PB X a ml) (hb : PD X b mb) (hs : zq6 b := by exact fun _ _ => rfl) : PD X (.Subscript a b pos) (mix ml mb) := (G3 V1 ha hb hs).imp fun σ H Q hpat => by
 obtain ⟨F0, H0, F, ρ, g, rl, e, q⟩ := hpat
 unfold mix at e
 cases h1 : ml ρ with
 | none => rw [h1] at e; cases e
 | some ds =>
  cases h2 : mb ρ with
  | none => rw [h1, h2] at e; cases e
  | some i =>
   rw [h1, h2] at e
   refine ⟨F0, H0, F, ρ, ds, rl, h1, fun p xs F1 H1 x1 s1 r1 => ⟨F0, H0, F1, ρ, i, rl.go x1, h2, fun y F2 H2 x2 r2 => ?_⟩⟩
   cases r2 <;> first | (cases e; done) | skip
   rename_i k
   obtain ⟨v, h3, h4⟩ := zn2 (r1.mono x2.ff) (show atI ds k = some g from e)
   exact ⟨p, xs, k, v, rfl, rfl, x2.hh.seq s1, h3, q v F2 H2 (x1.trans x2) h4⟩
theorem yv9 {K : W.Frag} {F : Hp} {vs : List V} {ds : List D} (r : Reps K F vs ds) (lo hi : Option Int) : Reps K F (cutV vs lo hi) ((ds.drop (HT.sIx ds.length 0 lo)).take (HT.sIx ds.length ds.length hi - HT.sIx ds.length 0 lo)) := by
 unfold cutV
 rw [r.length]
 exact (r.drop _).take _
def cutL (ds : List D) (lo hi : Option Int) : List D := (ds.drop (HT.sIx ds.length 0 lo)).take (HT.sIx ds.length ds.length hi - HT.sIx ds.length 0 lo)
abbrev MO := Ro -> Option (Option Int)
def Z0 : MO := fun _ => some none
def d5 (m : ME) : MO := fun ρ => (m ρ).bind fun | .int i => some (some i) | _ => none
def TOs (K : W.Frag) (m : MO) : TO := fun σ H Q => ∃ F0 H0 F ρ i, Rl K F0 H0 F H σ ρ /\ m ρ = some i /\ ∀ F' H', Ext F H F' H' -> Q i H'
def POs (X : Cx) (e : Option Expr) (m : MO) : Prop := PO X e (TOs X.K m)
theorem PO.imp {e : Option Expr} {t t' : TO} (h : PO X e t) (i : ∀ σ H Q, t' σ H Q -> t σ H Q) : PO X e t' := fun pins s σ H Q I q => h pins s σ H Q I (i σ H Q q)
theorem r0 : POs X none Z0 := PO.imp yp4 fun σ H Q hpat => by obtain ⟨F0, H0, F, ρ, i, rl, e, q⟩ := hpat; cases e; exact q F H (.refl rl.fh)
theorem t5 (h : PD X a ma) : POs X (some a) (d5 ma) := PO.imp (yp3 h) fun σ H Q hpat => by
 obtain ⟨F0, H0, F, ρ, i, rl, e, q⟩ := hpat
 unfold d5 at e
 cases h1 : ma ρ with
 | none => rw [h1] at e; cases e
 | some d =>
  rw [h1] at e
  refine ⟨F0, H0, F, ρ, d, rl, h1, fun v F1 H1 x1 r1 => ?_⟩
  cases r1 <;> first | (cases e; done) | skip
  cases e
  exact ⟨_, rfl, q F1 H1 x1⟩
@[irreducible] def mcut (m : ML) (lo hi : MO) : ML := fun ρ => (m ρ).bind fun ds => (lo ρ).bind fun l => (hi ρ).bind fun h => some (cutL ds l h)
theorem yh5 {ml : ML} {lo hi : Option Expr} {l h : MO} (ha : PB X a ml) (hl : POs X lo l) (hh : POs X hi h) (hE : PE X e (tSl (rSlL X.K) (TB X.K ml) (TOs X.K l) (TOs X.K h))) : PF X e (mcut ml l h) := hE.imp fun σ H Q hpat => by
 obtain ⟨F0, H0, F, ρ, g, rl, e, q⟩ := hpat
 unfold mcut at e
 cases h1 : ml ρ with
 | none => rw [h1] at e; cases e
 | some ds =>
  cases h2 : l ρ with
  | none => rw [h1, h2] at e; cases e
  | some i =>
   cases h3 : h ρ with
   | none => rw [h1, h2, h3] at e; cases e
   | some j =>
    rw [h1, h2, h3] at e; cases e
    refine ⟨F0, H0, F, ρ, ds, rl, h1, fun p xs F1 H1 x1 s1 r1 => ⟨F0, H0, F1, ρ, i, rl.go x1, h2, fun F2 H2 x2 => ⟨F0, H0, F2, ρ, j, (rl.go x1).go x2, h3, fun F3 H3 x3 => ?_⟩⟩⟩
    refine ⟨p, xs, rfl, x3.hh.seq (x2.hh.seq s1), fun w hw => ?_⟩
    have xx := (x1.trans x2).trans x3
    exact q w _ F3 _ (xx.trans (Ext.own x3.fh hw)) (xx.hh.free hw) (x3.fh.free hw) w9 (yv9 (r1.mono (x2.ff.trans x3.ff)) i j)
end
end
section
theorem zv4 (l : Addr) (items : Array Value) (n : Nat) (b : Addr) (items2 : Array Value) (n2 : Nat) (dd dd2 : Option Addr) (sl sl2 : Array (Option Value)) (hc0 : items.size + items2.size <= sizeLine) :
  Meets (Builtin.«list.__add__» ⟨[.ref l, .ref b], []⟩) (fun _ R s => s.heap.get? l = some { cls := .type "list", dict := dd, data := .seq items n, slots := sl } /\ s.heap.get? b = some { cls := .type "list", dict := dd2, data := .seq items2 n2, slots := sl2 } /\ R (.ok (.ret (Value.ref s.heap.objs.size))) { s with heap := s.heap.push { cls := Value.type "list", data := Data.seq (items ++ items2) }, toks := s.toks }) :=
 .of_wp fun prog w A R s h => by obtain ⟨hp, g, d, tk, os⟩ := s; obtain ⟨hl, hb, h⟩ := h; have f1 := AutoSeq1.idx_int; have f2 := AutoSeq1.sub_tuple_tuple; have f3 := AutoSeq1.sub_list_list; have f4 := AutoSeq1.sub_tuple_list; have f5 := AutoSeq1.sub_list_tuple; wp_walk using AutoSeq1.wpAny_loadPart' hl, AutoSeq1.wpAny_loadPart' hb; exact ⟨_, rfl, h⟩
section
variable {X : Cx} {a b c e : Expr} {ma mb : ME} {pos : Pos}
def yi6 (K : W.Frag) : R2 := fun x y H Q => ∃ l b xs zs, x = .ref l /\ y = .ref b /\ SqL K H l xs /\ SqL K H b zs /\ xs.length + zs.length <= sizeLine /\ ∀ p, H p = none -> Q (.ref p) (upd H p (.lst (xs ++ zs)))
theorem ze1 : OpR X (binaryOp .Add) (yi6 X.K) := by
 intro pins s σ H x y v u Q I rx ry h
 obtain ⟨l, b, xs, zs, rfl, rfl, hH, hB, hz, q⟩ := h
 cases rx
 cases ry
 obtain ⟨its, r, ⟨⟨cl, dd, dt, sl⟩, n, e, hc, hd, hs⟩, z⟩ := I.list hH
 obtain ⟨its2, r2, ⟨⟨cl2, dd2, dt2, sl2⟩, n2, e2, hc2, hd2, hs2⟩, z2⟩ := I.list hB
 simp only at hc hd hs hc2 hd2 hs2
 subst hc hd hs hc2 hd2 hs2
 have l1 := r.length
 have l2 := r2.length
 refine concat_meets (T := "list") ⟨_, e, rfl⟩ ⟨_, e2, rfl⟩ PySem.noFill_list_add PySem.seq_list_add F.slot_list_add F.entry_list_add (F.args_list_add_2 _ _) (zv4 l its.toArray n b its2.toArray n2 none none sl sl2 (by rw [size_toArray, size_toArray]; omega)) ⟨e, e2, ?_⟩
 have ea : its.toArray ++ its2.toArray = (its ++ its2).toArray := by simp
 rw [ea]
 exact ⟨.ref _, _, I.lnew (t' := s.toks) (r.append r2) (by rw [length_append]; omega), rfl, q _ I.fresh⟩
@[irreducible] def mcat (x y : ML) : ML := fun ρ => (x ρ).bind fun ds => (y ρ).bind fun es => if ds.length + es.length <= sizeLine then some (ds ++ es) else none
theorem zd1 {x y : ML} {ρ : Ro} {gs : List D} (h : mcat x y ρ = some gs) : ∃ ds es, x ρ = some ds /\ y ρ = some es /\ ds.length + es.length <= sizeLine /\ gs = ds ++ es := by
 unfold mcat at h
 cases h1 : x ρ with
 | none => rw [h1] at h; cases h
 | some ds =>
  cases h2 : y ρ with
  | none => rw [h1, h2] at h; cases h
  | some es =>
   rw [h1, h2] at h
   have h : (if ds.length + es.length <= sizeLine then some (ds ++ es) else none) = some gs := h
   split at h
   ·rename_i hz; cases h; exact ⟨ds, es, rfl, rfl, hz, rfl⟩
   ·cases h
theorem g0 {x y : ML} (ha : PB X a x) (hb : PB X b y) : PF X (.BinOp a .Add b pos) (mcat x y) := (yp9 ze1 ha hb).imp fun σ H Q hpat => by
 obtain ⟨F0, H0, F, ρ, g, rl, e, q⟩ := hpat
 obtain ⟨ds, es, h1, h2, hz, rfl⟩ := zd1 e
 refine ⟨F0, H0, F, ρ, ds, rl, h1, fun p xs F1 H1 x1 s1 r1 => ⟨F0, H0, F1, ρ, es, rl.go x1, h2, fun p2 ys F2 H2 x2 s2 r2 => ?_⟩⟩
 refine ⟨p, p2, xs, ys, rfl, rfl, x2.hh.seq s1, s2, by rw [r1.length, r2.length]; exact hz, fun w hw => ?_⟩
 have xx := x1.trans x2
 exact q w _ F2 _ (xx.trans (Ext.own x2.fh hw)) (xx.hh.free hw) (x2.fh.free hw) w9 ((r1.mono x2.ff).append r2)
def addD : D -> D -> Option D
 | .int i, .int j => some (.int (i + j))
 | .lst ds, .lst es => if ds.length + es.length <= sizeLine then some (.lst (ds ++ es)) else none
 | _, _ => none
theorem yn3 {K : W.Frag} : OpD K (fun x y H Q => (rI0 fun i j => V.int (i + j)) x y H Q \/ yi6 K x y H Q) addD := by
 intro F H x y d e w Q s r1 r2 h q
 cases d with
 | int i =>
  cases e with
  | int j =>
   cases h
   exact .inl ⟨_, _, r1.i', r2.i', q _ F H (.refl s) (.int _)⟩
  | _ => cases h
 | lst ds1 =>
  cases e with
  | lst ds2 =>
   obtain ⟨p1, xs1, e1, s1, t1⟩ := r1.l'
   obtain ⟨p2, xs2, e2, s2, t2⟩ := r2.l'
   have h : (if ds1.length + ds2.length <= sizeLine then some (D.lst (ds1 ++ ds2)) else none) = some w := h
   by_cases hz : ds1.length + ds2.length <= sizeLine
   ·rw [if_pos hz] at h
    cases h
    refine .inr ⟨_, _, _, _, e1, e2, s.seq s1, s.seq s2, by rw [t1.length, t2.length]; exact hz, fun p hp => ?_⟩
    exact q _ _ _ (Ext.laid s hp) (.lst (SqL.of w9) ((t1.append t2).mono ((Same.refl F).put (s.free hp))))
   ·rw [if_neg hz] at h; cases h
  | _ => cases h
 | _ => cases h
theorem o0 (ha : PD X a ma) (hb : PD X b mb) : PD X (.BinOp a .Add b pos) (m2 addD ma mb) := zw4 (OpR.or yf8 ze1) yn3 ha hb
theorem f7 (ha : PD X a ma) (hb : PD X b mb) : PD X (.BinOp a .Sub b pos) (m2 subD ma mb) := zw4 yf0 yo6 ha hb
theorem R7 (ha : PD X a ma) (hb : PD X b mb) : PD X (.BinOp a .Mult b pos) (m2 mulD ma mb) := zw4 yf5 yo9 ha hb
theorem Y1 (ha : PD X a ma) (hb : PD X b mb) : PD X (.BinOp a .FloorDiv b pos) (m2 U3 ma mb) := zw4 yn4 yx7 ha hb
theorem j4 (ha : PD X a ma) (hb : PD X b mb) : PD X (.BinOp a .Mod b pos) (m2 modD ma mb) := zw4 yf6 yn0 ha hb
theorem O5 (ha : PD X a ma) (hb : PD X b mb) : PD X (.BinOp a .Pow b pos) (m2 powD ma mb) := zw4 yf3 yo8 ha hb
theorem zp2 (ha : PD X a ma) (hb : PD X b mb) : PD X (.BinOp a .RShift b pos) (m2 shrD ma mb) := zw4 yf1 yo7 ha hb
theorem zs6 (ha : PD X a ma) (hb : PD X b mb) : PD X (.BinOp a .BitAnd b pos) (m2 andD ma mb) := zw4 yf7 yn2 ha hb
@[irreducible] def Z2 (f : List D -> Option D) (m : ML) : ME := fun ρ => (m ρ).bind f
def yz3 (K : W.Frag) (r : List V -> Hp -> VK -> Prop) (f : List D -> Option D) : Prop := ∀ (F H : Hp) (vs : List V) (ds : List D) (g : D) (Q : VK), Same F H -> Reps K F vs ds -> f ds = some g -> (∀ v F' H', Ext F H F' H' -> Rep K F' v g -> Q v H') -> r vs H Q
theorem zt0 {r : List V -> Hp -> VK -> Prop} {f : List D -> Option D} {m : ML} (hf : yz3 X.K r f) {σ : St} {H : Hp} {Q : VK} (h : TD X.K (Z2 f m) σ H Q) : tCB r (TAs X.K m) σ H Q := by
 obtain ⟨F0, H0, F, ρ, g, rl, e, q⟩ := h
 unfold Z2 at e
 cases h1 : m ρ with
 | none => rw [h1] at e; cases e
 | some ds =>
  rw [h1] at e
  exact ⟨F0, H0, F, ρ, ds, rl, h1, fun vs F1 H1 x1 r1 => hf F1 H1 vs ds g Q x1.fh r1 e fun v F' H' x2 => q v F' H' (x1.trans x2)⟩
theorem f8 {e : Expr} {p : Pos} {m : ML} (hg : Gl X "len") (hm : X.mg "len" = none) (ha : PB X e m) (hs : starEach (e :: []) X.env = (false, eval e X.env) :: starEach [] X.env := by rfl) (he : starEach [e] X.env = (false, eval e X.env) :: starEach [] X.env := by rfl) (hpl : (backTo pos (starEach [] X.env)).any (·.1) = false := by rfl) : PD X (.Call (.Name "len" p) [e] [] pos) (mlen m) :=
 (Y3 zu9 hg hm PySem.boot_len (X0 ha pa_nil hs) (by decide) (by decide) he hpl).imp fun σ H Q hpat => by
  obtain ⟨F0, H0, F, ρ, g, rl, e, q⟩ := hpat
  unfold mlen at e
  cases h1 : m ρ with
  | none => rw [h1] at e; cases e
  | some ds =>
   rw [h1] at e; cases e
   refine ⟨F0, H0, F, ρ, ds, rl, h1, fun p xs F1 H1 x1 s1 r1 => ⟨p, xs, rfl, .inl s1, ?_⟩⟩
   rw [r1.length]
   exact q _ F1 H1 x1 (.int _)
def absF : List D -> Option D
 | [.int i] => some (.int (if i < 0 then -i else i))
 | _ => none
theorem za2 {K : W.Frag} : yz3 K (fun xs H Q => ∃ i, xs = [.int i] /\ Q (.int (if i < 0 then -i else i)) H) absF := by
 intro F H vs ds g Q s r h q
 cases r with
 | nil => cases h
 | cons r rr =>
  cases rr with
  | cons _ _ => revert h; unfold absF; intro h; split at h <;> simp_all
  | nil =>
   cases r with
   | int i => cases h; exact ⟨_, rfl, q _ F H (.refl s) (.int _)⟩
   | _ => cases h
theorem zp3 {e : Expr} {p : Pos} {m : ML} (hg : Gl X "abs") (hm : X.mg "abs" = none) (ha : PAs X [e] m) (he : starEach [e] X.env = (false, eval e X.env) :: starEach [] X.env := by rfl) (hpl : (backTo pos (starEach [] X.env)).any (·.1) = false := by rfl) : PD X (.Call (.Name "abs" p) [e] [] pos) (Z2 absF m) :=
 (Y3 yu3 hg hm PyProof.Rows.boot_abs ha (by decide) (by decide) he hpl).imp fun _ _ _ h => zt0 za2 h
def two2 (k : Int -> Int -> Int) : List D -> Option D
 | [.int i, .int j] => some (.int (k i j))
 | _ => none
theorem yz8 {k : Int -> Int -> Int} {ds : List D} {g : D} (h : two2 k ds = some g) : ∃ i j, ds = [.int i, .int j] /\ g = .int (k i j) := by
 cases ds with
 | nil => cases h
 | cons d ds =>
  cases ds with
  | nil => cases d <;> cases h
  | cons e ds =>
   cases ds with
   | cons f ds => cases d <;> first | (cases h; done) | (cases e <;> cases h)
   | nil =>
    cases d with
    | int i =>
     cases e with
     | int j => cases h; exact ⟨i, j, rfl, rfl⟩
     | _ => cases h
    | _ => cases h
theorem zu7 {K : W.Frag} {k : Int -> Int -> Int} : yz3 K (fun xs H Q => ∃ i j, xs = [.int i, .int j] /\ Q (.int (k i j)) H) (two2 k) := by
 intro F H vs ds g Q s r h q
 obtain ⟨i, j, rfl, rfl⟩ := yz8 h
 cases r with
 | cons r rr =>
  cases rr with
  | cons r2 rr =>
   cases rr
   rw [r.i', r2.i']
   exact ⟨_, _, rfl, q _ F H (.refl s) (.int _)⟩
def zk4 : List D -> Option D := two2 fun i j => if j > i then j else i
def ze9 : List D -> Option D := two2 fun i j => if j < i then j else i
theorem B8 {x y : Expr} {p : Pos} {m : ML} (hc : X.calm = true) (hg : Gl X "max") (hm : X.mg "max" = none) (ha : PAs X [x, y] m) (he : starEach [x, y] X.env = (false, eval x X.env) :: starEach [y] X.env := by rfl) (hpl : (backTo pos (starEach [y] X.env)).any (·.1) = false := by rfl) : PD X (.Call (.Name "max" p) [x, y] [] pos) (Z2 zk4 m) :=
 (Y3 (za4 hc) hg hm PyProof.Rows.boot_max ha (by decide) (by decide) he hpl).imp fun _ _ _ h => zt0 (zu7 (k := fun i j => if j > i then j else i)) h
theorem zs5 {x y : Expr} {p : Pos} {m : ML} (hc : X.calm = true) (hg : Gl X "min") (hm : X.mg "min" = none) (ha : PAs X [x, y] m) (he : starEach [x, y] X.env = (false, eval x X.env) :: starEach [y] X.env := by rfl) (hpl : (backTo pos (starEach [y] X.env)).any (·.1) = false := by rfl) : PD X (.Call (.Name "min" p) [x, y] [] pos) (Z2 ze9 m) :=
 (Y3 (za3 hc) hg hm PyProof.Rows.boot_min ha (by decide) (by decide) he hpl).imp fun _ _ _ h => zt0 (zu7 (k := fun i j => if j < i then j else i)) h
def intF : List D -> Option D
 | [.int i] => some (.int i)
 | [.bl k] => some (.int (if k then 1 else 0))
 | _ => none
theorem za1 {K : W.Frag} : yz3 K (fun xs H Q => (∃ i, xs = [.int i] /\ Q (.int i) H) \/ ∃ k, xs = [.bl k] /\ Q (.int (if k then 1 else 0)) H) intF := by
 intro F H vs ds g Q s r h q
 cases r with
 | nil => cases h
 | cons r rr =>
  cases rr with
  | cons _ _ => revert h; unfold intF; intro h; split at h <;> simp_all
  | nil =>
   cases r with
   | int i => cases h; exact .inl ⟨_, rfl, q _ F H (.refl s) (.int _)⟩
   | bl i => cases h; exact .inr ⟨_, rfl, q _ F H (.refl s) (.int _)⟩
   | _ => cases h
theorem yo5 {e : Expr} {p : Pos} {m : ML} (hg : Gl X "int") (hm : X.mg "int" = none) (ha : PAs X [e] m) (hv : bootBuiltins "int" = some (.type "int")) (he : starEach [e] X.env = (false, eval e X.env) :: starEach [] X.env := by rfl) (hpl : (backTo pos (starEach [] X.env)).any (·.1) = false := by rfl) : PD X (.Call (.Name "int" p) [e] [] pos) (Z2 intF m) :=
 (zw3 za5 hg hm hv ha (by decide) (by decide) he hpl).imp fun _ _ _ h => zt0 za1 h
theorem K6 {e : Expr} {p : Pos} {m : ML} (hg : Gl X "list") (hm : X.mg "list" = none) (ha : PB X e m) (hv : bootBuiltins "list" = some (.type "list")) (hs : starEach (e :: []) X.env = (false, eval e X.env) :: starEach [] X.env := by rfl) (hpl : (backTo pos (starEach [] X.env)).any (·.1) = false := by rfl) : PF X (.Call (.Name "list" p) [e] [] pos) m :=
 (zw3 zu8 hg hm hv (X0 ha pa_nil hs) (by decide) (by decide) hs hpl).imp fun σ H Q hpat => by
  obtain ⟨F0, H0, F, ρ, ds, rl, e, q⟩ := hpat
  refine ⟨F0, H0, F, ρ, ds, rl, e, fun p xs F1 H1 x1 s1 r1 => ⟨p, xs, rfl, .inl s1, fun w hw => ?_⟩⟩
  exact q w _ F1 _ (x1.trans (Ext.own x1.fh hw)) (x1.hh.free hw) (x1.fh.free hw) w9 r1
end
end
section
inductive Out where
 | nx (ρ : Ro) | bk (ρ : Ro) | ct (ρ : Ro) | rt (d : D) | rf (ds : List D) | rp (d : D) (ds : List D) | rg (d : D) (p : Addr) (r : List D) | rgf (ds : List D) (p : Addr) (r : List D)
abbrev MS := Ro -> Option Out
def okO (K : W.Frag) (F0 H0 Fb : Hp) (Dn : Ends) : Out -> Prop
 | .nx ρ => ∀ F H σ, Rl K F0 H0 F H σ ρ -> Same Fb F -> Dn.nx σ H
 | .bk ρ => ∀ F H σ, Rl K F0 H0 F H σ ρ -> Same Fb F -> Dn.bk σ H
 | .ct ρ => ∀ F H σ, Rl K F0 H0 F H σ ρ -> Same Fb F -> Dn.ct σ H
 | .rt d => ∀ v F H, Ext F0 H0 F H -> Rep K F v d -> Dn.rt v H
 | .rf ds => ∀ p xs F H, Ext F0 H0 F H -> H0 p = none -> F p = none -> H p = some (.lst xs) -> Reps K F xs ds -> Dn.rt (.ref p) H
 | .rp d ds => ∀ t v p xs F H, Ext F0 H0 F H -> H0 t = none -> H0 p = none -> t ≠ p -> F t = none -> F p = none -> H t = some (.tup [v, .ref p]) -> H p = some (.lst xs) -> Rep K F v d -> Reps K F xs ds -> Dn.rt (.ref t) H
 | .rg d p r => ∀ v F H xs, Ext F0 H0 F H -> Rep K F v d -> F p = none -> H p = some (.lst xs) -> Reps K F xs r -> Dn.rt v H
 | .rgf ds p r => ∀ q ys F H xs, Ext F0 H0 F H -> H0 q = none -> F q = none -> q ≠ p -> H q = some (.lst ys) -> Reps K F ys ds -> F p = none -> H p = some (.lst xs) -> Reps K F xs r -> Dn.rt (.ref q) H
def TSd (K : W.Frag) (m : MS) : TS := fun Dn σ H => ∃ F0 H0 F ρ o, Rl K F0 H0 F H σ ρ /\ m ρ = some o /\ okO K F0 H0 F Dn o
theorem okO.mono {K : W.Frag} {F0 H0 Fb Fb' : Hp} {Dn : Ends} (s : Same Fb Fb') : ∀ {o : Out}, okO K F0 H0 Fb Dn o -> okO K F0 H0 Fb' Dn o
 | .nx _, h => fun F H σ rl q => h F H σ rl (s.trans q)
 | .bk _, h => fun F H σ rl q => h F H σ rl (s.trans q)
 | .ct _, h => fun F H σ rl q => h F H σ rl (s.trans q)
 | .rt _, h => h
 | .rf _, h => h
 | .rp _ _, h => h
 | .rg _ _ _, h => h
 | .rgf _ _ _, h => h
def PSd (X : Cx) (st : Stmt) (m : MS) : Prop := PS X st (TSd X.K m)
def PSsd (X : Cx) (st : List Stmt) (m : MS) : Prop := PSs X st (TSd X.K m)
section
variable {X : Cx} {a b c e : Expr} {ma mb : ME} {pos : Pos} {st : Stmt} {rest : List Stmt} {m1 m2' : MS}
theorem PS.imp {t t' : TS} (h : PS X st t) (i : ∀ D σ H, t' D σ H -> t D σ H) : PS X st t' := fun pins s σ H D I q => h pins s σ H D I (i D σ H q)
theorem PSs.imp {sts : List Stmt} {t t' : TS} (h : PSs X sts t) (i : ∀ D σ H, t' D σ H -> t D σ H) : PSs X sts t' := fun pins s σ H D I q => h pins s σ H D I (i D σ H q)
def Z1 : MS := fun ρ => some (.nx ρ)
def mseq (x y : MS) : MS := fun ρ => match x ρ with | some (.nx ρ') => y ρ' | o => o
theorem j0 : PSsd X [] Z1 := pss_nil.imp fun D σ H hpat => by obtain ⟨F0, H0, F, ρ, o, rl, e, ok⟩ := hpat; cases e; exact ok F H σ rl (Same.refl _)
theorem y9 (h1 : PSd X st m1) (h2 : PSsd X rest m2') : PSsd X (st :: rest) (mseq m1 m2') := (M3 h1 h2).imp fun D σ H hpat => by
 obtain ⟨F0, H0, F, ρ, o, rl, e, ok⟩ := hpat
 unfold mseq at e
 cases h : m1 ρ with
 | none => rw [h] at e; cases e
 | some o1 =>
  rw [h] at e
  cases o1 with
  | nx ρ1 => exact ⟨F0, H0, F, ρ, _, rl, h, fun F' H' σ' rl' sf => ⟨F0, H0, F', ρ1, o, rl', e, ok.mono sf⟩⟩
  | bk ρ1 => cases e; exact ⟨F0, H0, F, ρ, _, rl, h, ok⟩
  | ct ρ1 => cases e; exact ⟨F0, H0, F, ρ, _, rl, h, ok⟩
  | rt d => cases e; exact ⟨F0, H0, F, ρ, _, rl, h, ok⟩
  | rf d => cases e; exact ⟨F0, H0, F, ρ, _, rl, h, ok⟩
  | rp d ds => cases e; exact ⟨F0, H0, F, ρ, _, rl, h, ok⟩
  | rg d p r => cases e; exact ⟨F0, H0, F, ρ, _, rl, h, ok⟩
  | rgf d p r => cases e; exact ⟨F0, H0, F, ρ, _, rl, h, ok⟩
theorem x6 (h1 : PSd X st m1) : PSsd X [st] m1 := zs1 h1
def mif (c : MB) (x y : MS) : MS := fun ρ => match c ρ with | some true => x ρ | some false => y ρ | none => none
theorem d0 {ca : MB} {x y : List Stmt} {mx my : MS} (hc : PC' X c ca) (hx : PSsd X x mx) (hy : PSsd X y my) : PSd X (.If c x y pos) (mif ca mx my) := (yp2 hc hx hy).imp fun D σ H hpat => by
 obtain ⟨F0, H0, F, ρ, o, rl, e, ok⟩ := hpat
 unfold mif at e
 split at e
 ·rename_i h1
  refine ⟨F0, H0, F, ρ, _, rl, h1, fun F1 H1 x1 => iteT ⟨F0, H0, F1, ρ, o, rl.go x1, e, ok.mono x1.ff⟩⟩
 ·rename_i h1
  refine ⟨F0, H0, F, ρ, _, rl, h1, fun F1 H1 x1 => iteF ⟨F0, H0, F1, ρ, o, rl.go x1, e, ok.mono x1.ff⟩⟩
 ·cases e
def R8 : MS := fun _ => none
theorem Y8 : PSd X st R8 := ps_never.imp fun D σ H hpat => by obtain ⟨F0, H0, F, ρ, o, rl, e, ok⟩ := hpat; cases e
def mset (i : Nat) (x : ME) : MS := fun ρ => (x ρ).map fun d => .nx (ρ.set i (some (.sh d)))
def U1 (i : Nat) (x : ML) : MS := fun ρ => (x ρ).map fun ds => .nx (ρ.set i (some (.own ds)))
theorem ya8 {t : TE} {i : Nat} (h : PS X st (tAsg t (F8 i))) (ht : ∀ σ H Q, TD X.K ma σ H Q -> t σ H Q) : PSd X st (mset i ma) := h.imp fun D σ H hpat => by
 obtain ⟨F0, H0, F, ρ, o, rl, e, ok⟩ := hpat
 unfold mset at e
 cases h1 : ma ρ with
 | none => rw [h1] at e; cases e
 | some d =>
  rw [h1] at e; cases e
  exact ht _ _ _ ⟨F0, H0, F, ρ, d, rl, h1, fun v F1 H1 x1 r1 => ok F1 H1 _ ((rl.go x1).set r1) x1.ff⟩
theorem xv2 {t : TE} {i : Nat} {mf : ML} (h : PS X st (tAsg t (F8 i))) (ht : ∀ σ H Q, TF X.K mf σ H Q -> t σ H Q) : PSd X st (U1 i mf) := h.imp fun D σ H hpat => by
 obtain ⟨F0, H0, F, ρ, o, rl, e, ok⟩ := hpat
 unfold U1 at e
 cases h1 : mf ρ with
 | none => rw [h1] at e; cases e
 | some ds =>
  rw [h1] at e; cases e
  refine ht _ _ _ ⟨F0, H0, F, ρ, ds, rl, h1, fun p xs F1 H1 x1 hp hF hH r1 => ok F1 H1 _ ?_ x1.ff⟩
  refine (rl.go x1).setOwn hF hH r1 (rl.ext.hh.free hp) (fun j es hj e1 e2 => ?_) fun j q es e1 z => ?_
  ·obtain ⟨q, ys, a1, a2, a3, _⟩ := rl.own j es e1
   rw [a1] at e2; cases e2
   rw [hp] at a3; cases a3
  ·obtain ⟨_, _, _, ys, a3, _⟩ := rl.ob j q es e1
   rw [z, hp] at a3; cases a3
theorem u5 {i : Nat} {x : Str} {pos' : Pos} (hN : X.N.Nodup) (hi : X.N[i]? = some x) (hx : Loc X.env.scope x) (he : PD X e ma) (hs : swapsWith e (some (.Name x pos')) pos.line X.env = pure false := by rfl) (hf : X.fn x = true \/ X.env.scope.names.lookup x = some .local := by first | exact .inl rfl | exact .inr rfl | assumption) :
  PSd X (.Assign [.Name x pos'] e pos) (mset i ma) := ya8 (yu8 hN hi hx he hs hf) fun _ _ _ h => h
theorem Z4 {i : Nat} {x : Str} {pos' : Pos} {mf : ML} (hN : X.N.Nodup) (hi : X.N[i]? = some x) (hx : Loc X.env.scope x) (he : PF X e mf) (hs : swapsWith e (some (.Name x pos')) pos.line X.env = pure false := by rfl) (hf : X.fn x = true \/ X.env.scope.names.lookup x = some .local := by first | exact .inl rfl | exact .inr rfl | assumption) :
  PSd X (.Assign [.Name x pos'] e pos) (U1 i mf) := xv2 (yu8 hN hi hx he hs hf) fun _ _ _ h => h
def maug (i : Nat) (x : ME) : MS := fun ρ => match ρ[i]? with | some (some (.sh (.int k))) => (x ρ).bind (fun d => match d with | .int j => some (.nx (ρ.set i (some (.sh (.int (k + j)))))) | _ => none) | _ => none
theorem yp0 {i : Nat} {x : Str} {pos' : Pos} (hN : X.N.Nodup) (hi : X.N[i]? = some x) (hx : Loc X.env.scope x) (he : PD X e ma) (hf : X.fn x = true \/ X.env.scope.names.lookup x = some .local := by first | exact .inl rfl | exact .inr rfl | assumption) :
  PSd X (.AugAssign (.Name x pos') .Add e pos) (maug i ma) := (yh2 hN hi hx he yb0 hf).imp fun D σ H hpat => by
 obtain ⟨F0, H0, F, ρ, o, rl, e, ok⟩ := hpat
 unfold maug at e
 split at e
 ·rename_i k h1
  obtain ⟨v, e1, e2⟩ := rl.sh i _ h1
  cases e2
  cases h2 : ma ρ with
  | none => rw [h2] at e; cases e
  | some d =>
   rw [h2] at e
   refine ⟨_, e1, F0, H0, F, ρ, d, rl, h2, fun y F1 H1 x1 r1 => ?_⟩
   cases r1 <;> first | (cases e; done) | skip
   cases e
   exact ⟨_, _, rfl, rfl, ok F1 H1 _ ((rl.go x1).set (.int _)) x1.ff⟩
 ·cases e
def P8 (x : ME) : MS := fun ρ => (x ρ).map fun _ => .nx ρ
theorem U9 (he : PD X e ma) (hs : swapsWith e none pos.line X.env = pure false := by rfl) : PSd X (.Expr e pos) (P8 ma) := (B5 he hs).imp fun D σ H hpat => by
 obtain ⟨F0, H0, F, ρ, o, rl, e, ok⟩ := hpat
 unfold P8 at e
 cases h1 : ma ρ with
 | none => rw [h1] at e; cases e
 | some d =>
  rw [h1] at e; cases e
  exact ⟨F0, H0, F, ρ, d, rl, h1, fun v F1 H1 x1 r1 => ok F1 H1 _ (rl.go x1) x1.ff⟩
def mret (x : ME) : MS := fun ρ => (x ρ).map .rt
def zz0 (x : ML) : MS := fun ρ => (x ρ).map .rf
def S6 (i : Nat) : MS := fun ρ => match ρ[i]? with | some (some (.own ds)) => some (.rf ds) | some (some (.sh d)) => some (.rt d) | _ => none
theorem g8 (he : PD X e ma) : PSd X (.Return (some e) pos) (mret ma) := (zp0 he).imp fun D σ H hpat => by
 obtain ⟨F0, H0, F, ρ, o, rl, e, ok⟩ := hpat
 unfold mret at e
 cases h1 : ma ρ with
 | none => rw [h1] at e; cases e
 | some d =>
  rw [h1] at e; cases e
  exact ⟨F0, H0, F, ρ, d, rl, h1, fun v F1 H1 x1 r1 => ok v F1 H1 (rl.ext.trans x1) r1⟩
theorem M4 {mf : ML} (he : PF X e mf) : PSd X (.Return (some e) pos) (zz0 mf) := (zp0 he).imp fun D σ H hpat => by
 obtain ⟨F0, H0, F, ρ, o, rl, e, ok⟩ := hpat
 unfold zz0 at e
 cases h1 : mf ρ with
 | none => rw [h1] at e; cases e
 | some ds =>
  rw [h1] at e; cases e
  exact ⟨F0, H0, F, ρ, ds, rl, h1, fun p xs F1 H1 x1 hp hF hH r1 => ok p xs F1 H1 (rl.ext.trans x1) (rl.ext.hh.free hp) hF hH r1⟩
theorem U8 (i : Nat) {x : Str} {pos' : Pos} (h : PE X (.Name x pos') (tVar i)) : PSd X (.Return (some (.Name x pos')) pos) (S6 i) := (zp0 h).imp fun D σ H hpat => by
 obtain ⟨F0, H0, F, ρ, o, rl, e, ok⟩ := hpat
 unfold S6 at e
 split at e
 ·rename_i ds h1
  cases e
  obtain ⟨p, xs, e1, e2, e3, e4, e5⟩ := rl.own i _ h1
  exact ⟨_, e1, ok p xs F H rl.ext e5 e2 e3 e4⟩
 ·rename_i d h1
  cases e
  obtain ⟨v, e1, e2⟩ := rl.sh i _ h1
  exact ⟨_, e1, ok v F H rl.ext e2⟩
 ·cases e
def mapp (i : Nat) (x : ME) : MS := fun ρ => match ρ[i]? with | some (some (.own ds)) => (x ρ).bind fun d => if ds.length < sizeLine then some (.nx (ρ.set i (some (.own (ds ++ [d]))))) else none | _ => none
theorem Z3 {i : Nat} {x : Str} {e : Expr} {px apos cpos : Pos} (hv : PE X (.Name x px) (tVar i)) (he : PD X e ma)
  (hE : ∀ t, PA X [e] t -> PE X (.Call (.Attribute (.Name x px) "append" apos) [e] [] cpos) (tBM X.K "list" zg3 (tVar i) t)) (hA : PAs X [e] (z7 ma anil)) (hs : swapsWith (.Call (.Attribute (.Name x px) "append" apos) [e] [] cpos) none pos.line X.env = pure false := by rfl) :
  PSd X (.Expr (.Call (.Attribute (.Name x px) "append" apos) [e] [] cpos) pos) (mapp i ma) := (B5 (hE _ hA) hs).imp fun D σ H hpat => by
 obtain ⟨F0, H0, F, ρ, o, rl, e, ok⟩ := hpat
 unfold mapp at e
 split at e
 ·rename_i ds h1
  obtain ⟨p, xs, e1, e2, e3, e4, e5⟩ := rl.own i _ h1
  cases h2 : ma ρ with
  | none => rw [h2] at e; cases e
  | some d =>
   rw [h2] at e
   have e : (if ds.length < sizeLine then some (Out.nx (ρ.set i (some (.own (ds ++ [d]))))) else none) = some o := e
   split at e
   ·rename_i hz
    cases e
    refine ⟨_, e1, .inl ⟨rfl, _, SqL.of e3⟩, F0, H0, F, ρ, [d], rl, by unfold z7 anil; rw [h2]; rfl, fun vs F1 H1 x1 r1 => ?_⟩
    cases r1 with
    | cons r rr =>
     cases rr
     have hp : H1 p = some (.lst xs) := x1.hh _ _ e3
     exact ⟨p, xs, _, rfl, rfl, hp, by rw [e4.length]; exact hz, ok F1 _ σ ((rl.go x1).write h1 e1 ((e4.mono x1.ff).append (.cons r .nil))) x1.ff⟩
   ·cases e
 ·cases e
def J1 (i : Nat) (ix v : ME) : MS := fun ρ => (v ρ).bind fun d => match ρ[i]? with
 | some (some (.own ds)) => (ix ρ).bind (fun x => match x with | .int k => (ixN ds.length k).map fun j => .nx (ρ.set i (some (.own (ds.set j d)))) | _ => none)
 | some (some (.ob p ds)) => (ix ρ).bind (fun x => match x with | .int k => (ixN ds.length k).map fun j => .nx (ρ.set i (some (.ob p (ds.set j d)))) | _ => none)
 | _ => none
theorem zw1 {i : Nat} (hE : PS X st (tAsg (TD X.K mb) (gSub (tVar i) (TD X.K ma) zg2))) : PSd X st (J1 i ma mb) := hE.imp fun D σ H hpat => by
 obtain ⟨F0, H0, F, ρ, o, rl, e, ok⟩ := hpat
 unfold J1 at e
 cases h1 : mb ρ with
 | none => rw [h1] at e; cases e
 | some d =>
  rw [h1] at e
  refine ⟨F0, H0, F, ρ, d, rl, h1, fun y F1 H1 x1 r1 => ?_⟩
  dsimp only [Option.bind] at e
  split at e
  ·rename_i ds h2
   obtain ⟨p, xs, e1, e2, e3, e4, e5⟩ := (rl.go x1).own i _ h2
   cases h3 : ma ρ with
   | none => rw [h3] at e; cases e
   | some k' =>
    rw [h3] at e
    refine ⟨_, e1, F0, H0, F1, ρ, k', rl.go x1, h3, fun z F2 H2 x2 r2 => ?_⟩
    cases r2 <;> first | (cases e; done) | skip
    rename_i k
    have e : (ixN ds.length k).map (fun j => Out.nx (ρ.set i (some (.own (ds.set j d))))) = some o := e
    cases h4 : ixN ds.length k with
    | none => rw [h4] at e; cases e
    | some j =>
     rw [h4] at e; cases e
     have rl2 := (rl.go x1).go x2
     refine ⟨p, xs, k, j, rfl, rfl, x2.hh _ _ e3, by rw [e4.length]; exact h4, ok F2 _ σ (rl2.write h2 e1 (Reps.set (r1.mono x2.ff) j (e4.mono x2.ff))) (x1.ff.trans x2.ff)⟩
  ·rename_i p ds h2
   obtain ⟨e1, e2, e5, xs, e3, e4⟩ := (rl.go x1).ob i p _ h2
   cases h3 : ma ρ with
   | none => rw [h3] at e; cases e
   | some k' =>
    rw [h3] at e
    refine ⟨_, e1, F0, H0, F1, ρ, k', rl.go x1, h3, fun z F2 H2 x2 r2 => ?_⟩
    cases r2 <;> first | (cases e; done) | skip
    rename_i k
    have e : (ixN ds.length k).map (fun j => Out.nx (ρ.set i (some (.ob p (ds.set j d))))) = some o := e
    cases h4 : ixN ds.length k with
    | none => rw [h4] at e; cases e
    | some j =>
     rw [h4] at e; cases e
     have rl2 := (rl.go x1).go x2
     refine ⟨p, xs, k, j, rfl, rfl, x2.hh _ _ e3, by rw [e4.length]; exact h4, ok F2 _ σ (rl2.writeB h2 (Reps.set (r1.mono x2.ff) j (e4.mono x2.ff))) (x1.ff.trans x2.ff)⟩
  ·cases e
def X7 (i : Nat) (m : MS) : MS := fun ρ => match ρ[i]? with | some (some (.own ds)) => m (ρ.set i (some (.sh (.lst ds)))) | _ => m ρ
theorem S2 (i : Nat) {sts : List Stmt} {m : MS} (h : PSsd X sts m) : PSsd X sts (X7 i m) := h.imp fun D σ H hpat => by
 obtain ⟨F0, H0, F, ρ, o, rl, e, ok⟩ := hpat
 unfold X7 at e
 split at e
 ·rename_i ds h1
  obtain ⟨F', rl', sf⟩ := rl.freeze h1
  exact ⟨F0, H0, F', _, o, rl', e, ok.mono sf⟩
 ·exact ⟨F0, H0, F, ρ, o, rl, e, ok⟩
inductive Tg where
 | nm (i : Nat) | tp (is : List Nat) | nt (i : Nat) (is : List Nat)
def K2 : List Nat -> List D -> Ro -> Option Ro
 | [], [], ρ => some ρ
 | i :: is, d :: ds, ρ => K2 is ds (ρ.set i (some (.sh d)))
 | _, _, _ => none
def tgD : Tg -> D -> Ro -> Option Ro
 | .nm i, d, ρ => some (ρ.set i (some (.sh d)))
 | .tp is, .tup ds, ρ => K2 is ds ρ
 | .nt i is, .tup [d, .tup ds], ρ => K2 is ds (ρ.set i (some (.sh d)))
 | _, _, _ => none
def TGd (K : W.Frag) (g : Tg) : TG := fun v σ H Q => ∃ F0 H0 F ρ d ρ', Rl K F0 H0 F H σ ρ /\ Rep K F v d /\ tgD g d ρ = some ρ' /\ ∀ F' H' σ', Rl K F0 H0 F' H' σ' ρ' -> Ext F H F' H' -> Q σ' H'
def PGd (X : Cx) (tg : Expr) (g : Tg) : Prop := PG X tg (TGd X.K g)
theorem PG.imp {tg : Expr} {t t' : TG} (h : PG X tg t) (i : ∀ v σ H Q, t' v σ H Q -> t v σ H Q) : PG X tg t' := fun pins s σ H v u Q I r q => h pins s σ H v u Q I r (i v σ H Q q)
theorem l5 {i : Nat} {x : Str} {pos : Pos} (h : PG X (.Name x pos) (F8 i)) : PGd X (.Name x pos) (.nm i) := PG.imp h fun v σ H Q hpat => by
 obtain ⟨F0, H0, F, ρ, d, ρ', rl, r, e, q⟩ := hpat
 cases e; exact q F H _ (rl.set r) (.refl rl.fh)
def gAll : List Nat -> TGs
 | [] => gNil
 | i :: is => yv7 (F8 i) (gAll is)
theorem zc6 {K : W.Frag} {F0 H0 F H : Hp} {Q : St -> Hp -> Prop} : ∀ (is : List Nat) (vs : List V) (ds : List D) (σ : St) (ρ ρ' : Ro), Rl K F0 H0 F H σ ρ -> Reps K F vs ds -> K2 is ds ρ = some ρ' -> (∀ σ', Rl K F0 H0 F H σ' ρ' -> Q σ' H) -> gAll is vs σ H Q
 | [], _, [], σ, ρ, ρ', rl, r, e, q => by cases r; cases e; exact ⟨rfl, q σ rl⟩
 | [], _, _ :: _, _, _, _, _, _, e, _ => by cases e
 | _ :: _, _, [], _, _, _, _, _, e, _ => by cases e
 | i :: is, _, d :: ds, σ, ρ, ρ', rl, r, e, q => by
  cases r with
  | cons r rr => exact ⟨_, _, rfl, zc6 is _ ds _ _ ρ' (rl.set r) rr e q⟩
theorem E5 : ∀ (is : List Nat) (ds : List D) (ρ ρ' : Ro), K2 is ds ρ = some ρ' -> ds.length = is.length
 | [], [], _, _, _ => rfl
 | [], _ :: _, _, _, e => by cases e
 | _ :: _, [], _, _, e => by cases e
 | _ :: is, _ :: ds, ρ, ρ', e => congrArg (· + 1) (E5 is ds _ ρ' e)
theorem V8 {es : List Expr} {k n : Nat} {is : List Nat} {pos : Pos} (h : PG X (.Tuple es k pos) (gTup X.K n (gAll is))) (hn : is.length = n := by rfl) : PGd X (.Tuple es k pos) (.tp is) := PG.imp h fun v σ H Q hpat => by
 obtain ⟨F0, H0, F, ρ, d, ρ', rl, r, e, q⟩ := hpat
 cases r with
 | tup s t => exact ⟨_, _, rfl, rl.fh.seqT s, by rw [t.length, E5 _ _ _ _ e, hn], zc6 is _ _ σ ρ ρ' rl t e fun σ' rl' => q F H σ' rl' (.refl rl.fh)⟩
 | _ => cases e
def masg (g : Tg) (x : ME) : MS := fun ρ => (x ρ).bind fun d => (tgD g d ρ).map .nx
theorem yp1 {g : Tg} (h : PS X st (tAsg (TD X.K ma) (TGd X.K g))) : PSd X st (masg g ma) := h.imp fun D σ H hpat => by
 obtain ⟨F0, H0, F, ρ, o, rl, e, ok⟩ := hpat
 unfold masg at e
 cases h1 : ma ρ with
 | none => rw [h1] at e; cases e
 | some d =>
  rw [h1] at e
  have e : (tgD g d ρ).map Out.nx = some o := e
  cases h2 : tgD g d ρ with
  | none => rw [h2] at e; cases e
  | some ρ' =>
   rw [h2] at e; cases e
   exact ⟨F0, H0, F, ρ, d, rl, h1, fun v F1 H1 x1 r1 => ⟨F0, H0, F1, ρ, d, ρ', rl.go x1, r1, h2, fun F' H' σ' rl' x2 => ok F' H' σ' rl' (x1.ff.trans x2.ff)⟩⟩
structure ItD (K : W.Frag) (F : Hp) (J : It) (its : List D) : Prop where
 go : ∀ (i : Nat) F1 H1, Same F F1 -> Same F1 H1 -> i < its.length -> J.go i H1
 yld : ∀ (i : Nat) F1 H1 x H2 d, Same F F1 -> Same F1 H1 -> its[i]? = some d -> J.yld i H1 x H2 -> ∃ F2, Ext F1 H1 F2 H2 /\ Rep K F2 x d
 stop : ∀ F1 H1, Same F F1 -> Same F1 H1 -> J.stop its.length H1
def TId (K : W.Frag) (mi : ML) : TI := fun σ H R => ∃ F0 H0 F ρ its, Rl K F0 H0 F H σ ρ /\ mi ρ = some its /\ ∀ J F' H', Ext F H F' H' -> ItD K F' J its -> R J H'
def PId (X : Cx) (tg iter : Expr) (mi : ML) : Prop := PI X tg iter (TId X.K mi)
theorem PI.imp {tg it : Expr} {t t' : TI} (h : PI X tg it t) (i : ∀ σ H R, t' σ H R -> t σ H R) : PI X tg it t' := fun pins s σ H R I q => h pins s σ H R I (i σ H R q)
theorem yv4 {K : W.Frag} {F : Hp} {p : Addr} {xs : List V} {ds : List D} (s : SqL K F p xs) (r : Reps K F xs ds) : ItD K F (Itl K p) ds where
 go := fun i F1 H1 a b hi => by
  obtain ⟨v, e, _⟩ := r.get (getElem?_eq_getElem hi)
  exact ⟨xs, v, b.seq (a.seq s), e⟩
 yld := fun i F1 H1 x H2 d a b e y => by
  obtain ⟨rfl, y⟩ := y
  obtain ⟨v, e1, e2⟩ := r.get e
  have := y xs (b.seq (a.seq s))
  rw [e1] at this; cases this
  exact ⟨F1, .refl b, e2.mono a⟩
 stop := fun F1 H1 a b => ⟨xs, b.seq (a.seq s), by rw [r.length]; exact Nat.le_refl _⟩
theorem Y0 {tg : Expr} (hd : PD X e ma) : PId X tg e (l9 ma) := PI.imp (yp7 hd) fun σ H R hpat => by
 obtain ⟨F0, H0, F, ρ, its, rl, e, q⟩ := hpat
 unfold l9 at e
 split at e
 ·rename_i ds h1
  cases e
  refine ⟨F0, H0, F, ρ, _, rl, h1, fun v F1 H1 x1 r1 => ?_⟩
  cases r1 with
  | lst s t => exact ⟨_, rfl, ⟨_, x1.fh.seq s⟩, q _ F1 H1 x1 (yv4 s t)⟩
 ·cases e
def T7 (lo : Int) (n : Nat) : List D := (List.range n).map fun (i : Nat) => D.int (lo + (i : Int))
theorem R3 (lo : Int) (n : Nat) : (T7 lo n).length = n := by unfold T7; simp
theorem zv8 {K : W.Frag} {F : Hp} {lo : Int} {n : Nat} : ItD K F (Itr lo n) (T7 lo n) where
 go := fun i F1 H1 a b hi => by rw [R3] at hi; exact hi
 yld := fun i F1 H1 x H2 d a b e y => by
  obtain ⟨rfl, rfl⟩ := y
  unfold T7 at e
  rw [getElem?_map] at e
  have hi : i < n := by
   rcases Nat.lt_or_ge i n with h | h
   ·exact h
   ·rw [getElem?_eq_none (by simpa using h)] at e; cases e
  rw [getElem?_range hi] at e
  cases e
  exact ⟨F1, .refl b, .int _⟩
 stop := fun F1 H1 a b => by rw [R3]; exact Nat.le_refl n
def okR (j : Int) : Bool := decide (-(2 ^ 62) <= j) && decide (j < 2 ^ 62)
def rng1 : List D -> Option (List D)
 | [.int j] => if okR j = true then some (T7 0 j.toNat) else none
 | _ => none
def rng2 : List D -> Option (List D)
 | [.int i, .int j] => if (okR i && okR j) = true then some (T7 i (j - i).toNat) else none
 | _ => none
@[irreducible] def j8 (f : List D -> Option (List D)) (m : ML) : ML := fun ρ => (m ρ).bind f
theorem W3 {f : List D -> Option (List D)} {m : ML} {ρ : Ro} {gs : List D} (h : j8 f m ρ = some gs) : ∃ ds, m ρ = some ds /\ f ds = some gs := by
 unfold j8 at h
 cases h1 : m ρ with
 | none => rw [h1] at h; cases h
 | some ds => rw [h1] at h; exact ⟨ds, rfl, h⟩
theorem Y7 {tg a : Expr} {m : ML} {p pos : Pos} (hg : Gl X "range") (hm : X.mg "range" = none) (ha : PAs X [a] m) (hs : starEach [a] X.env = [(false, eval a X.env)] := by rfl) : PId X tg (.Call (.Name "range" p) [a] [] pos) (j8 rng1 m) := PI.imp (zf3 hg hm ha hs) fun σ H R hpat => by
 obtain ⟨F0, H0, F, ρ, its, rl, e, q⟩ := hpat
 obtain ⟨ds, h1, h2⟩ := W3 e
 refine ⟨F0, H0, F, ρ, ds, rl, h1, fun vs F1 H1 x1 r1 => ?_⟩
 unfold rng1 at h2
 split at h2
 ·rename_i j
  split at h2
  ·rename_i hk
   cases h2
   unfold okR at hk
   simp only [Bool.and_eq_true, decide_eq_true_eq] at hk
   cases r1 with
   | cons r rr =>
    cases rr; cases r
    exact ⟨j, rfl, hk.1, hk.2, q _ F1 H1 x1 zv8⟩
  ·cases h2
 ·cases h2
theorem P5 {tg a b : Expr} {m : ML} {p pos : Pos} (hg : Gl X "range") (hm : X.mg "range" = none) (ha : PAs X [a, b] m) (hs : starEach [a, b] X.env = [(false, eval a X.env), (false, eval b X.env)] := by rfl) (hs2 : starEach [b] X.env = [(false, eval b X.env)] := by rfl) : PId X tg (.Call (.Name "range" p) [a, b] [] pos) (j8 rng2 m) := PI.imp (zf2 hg hm ha hs hs2) fun σ H R hpat => by
 obtain ⟨F0, H0, F, ρ, its, rl, e, q⟩ := hpat
 obtain ⟨ds, h1, h2⟩ := W3 e
 refine ⟨F0, H0, F, ρ, ds, rl, h1, fun vs F1 H1 x1 r1 => ?_⟩
 unfold rng2 at h2
 split at h2
 ·rename_i i j
  split at h2
  ·rename_i hk
   cases h2
   unfold okR at hk
   simp only [Bool.and_eq_true, decide_eq_true_eq] at hk
   cases r1 with
   | cons r rr =>
    cases rr with
    | cons r2 rr =>
     cases rr; cases r; cases r2
     exact ⟨i, j, rfl, ⟨hk.1.1, hk.1.2, hk.2.1, hk.2.2⟩, q _ F1 H1 x1 zv8⟩
  ·cases h2
 ·cases h2
def zip2 : List D -> Option (List D)
 | [.lst ds, .lst es] => some (List.zipWith (fun d e => .tup [d, e]) ds es)
 | _ => none
theorem yv3 {K : W.Frag} {F : Hp} {p q : Addr} {xs ys : List V} {ds es : List D} (s : SqL K F p xs) (r : Reps K F xs ds) (s' : SqL K F q ys) (r' : Reps K F ys es) : ItD K F (Itz2 K p q) (List.zipWith (fun d e => D.tup [d, e]) ds es) where
 go := fun i F1 H1 a b hi => by
  rw [length_zipWith] at hi
  obtain ⟨v, e, _⟩ := r.get (getElem?_eq_getElem (show i < ds.length by omega))
  obtain ⟨w, e', _⟩ := r'.get (getElem?_eq_getElem (show i < es.length by omega))
  exact ⟨xs, ys, v, w, b.seq (a.seq s), b.seq (a.seq s'), e, e'⟩
 yld := fun i F1 H1 x H2 d a b e y => by
  obtain ⟨t, u, v, rfl, ht, rfl, y1, y2⟩ := y
  have y1 := y1 xs (b.seq (a.seq s))
  have y2 := y2 ys (b.seq (a.seq s'))
  obtain ⟨d1, e1, r1⟩ := r.get' y1
  obtain ⟨d2, e2, r2⟩ := r'.get' y2
  rw [getElem?_zipWith, e1, e2] at e
  cases e
  refine ⟨upd F1 t (.tup [u, v]), Ext.laid b ht, .tup (SqT.of w9) ?_⟩
  have mm : Same F (upd F1 t (.tup [u, v])) := a.trans ((Same.refl F1).put (b.free ht))
  exact .cons (r1.mono mm) (.cons (r2.mono mm) .nil)
 stop := fun F1 H1 a b => ⟨xs, ys, b.seq (a.seq s), b.seq (a.seq s'), by rw [r.length, r'.length, length_zipWith]; omega⟩
theorem zp1 {es : List Expr} {tk : Nat} {tp : Pos} {a b : Expr} {m : ML} {p pos : Pos} (hg : Gl X "zip") (hm : X.mg "zip" = none) (ha : PAs X [a, b] m) (hs : starEach [a, b] X.env = [(false, eval a X.env), (false, eval b X.env)] := by rfl) (hs2 : starEach [b] X.env = [(false, eval b X.env)] := by rfl) : PId X (.Tuple es tk tp) (.Call (.Name "zip" p) [a, b] [] pos) (j8 zip2 m) := PI.imp (yp6 hg hm ha hs hs2) fun σ H R hpat => by
 obtain ⟨F0, H0, F, ρ, its, rl, e, q⟩ := hpat
 obtain ⟨ds, h1, h2⟩ := W3 e
 refine ⟨F0, H0, F, ρ, ds, rl, h1, fun vs F1 H1 x1 r1 => ?_⟩
 unfold zip2 at h2
 split at h2
 ·cases h2
  cases r1 with
  | cons r rr =>
   cases rr with
   | cons r2 rr =>
    cases rr
    cases r with
    | lst s t =>
     cases r2 with
     | lst s2 t2 => exact ⟨_, _, _, _, rfl, x1.fh.seq s, x1.fh.seq s2, q _ F1 H1 x1 (yv3 s t s2 t2)⟩
 ·cases h2
def N5 : List D -> List D -> List D -> List D
 | d :: ds, e :: es, f :: fs => .tup [d, e, f] :: N5 ds es fs
 | _, _, _ => []
theorem V6 : ∀ ds es fs, (N5 ds es fs).length = min ds.length (min es.length fs.length)
 | [], _, _ => by simp [N5]
 | _ :: _, [], _ => by simp [N5]
 | _ :: _, _ :: _, [] => by simp [N5]
 | _ :: ds, _ :: es, _ :: fs => by simp only [N5, length_cons, V6 ds es fs]; omega
theorem zy7 : ∀ ds es fs (i : Nat) d e f, ds[i]? = some d -> es[i]? = some e -> fs[i]? = some f -> (N5 ds es fs)[i]? = some (.tup [d, e, f])
 | [], _, _, _, _, _, _, h, _, _ => by simp at h
 | _ :: _, [], _, _, _, _, _, _, h, _ => by simp at h
 | _ :: _, _ :: _, [], _, _, _, _, _, _, h => by simp at h
 | _ :: ds, _ :: es, _ :: fs, 0, d, e, f, h1, h2, h3 => by simp at h1 h2 h3; subst h1 h2 h3; rfl
 | _ :: ds, _ :: es, _ :: fs, i + 1, d, e, f, h1, h2, h3 => by
  have := zy7 ds es fs i d e f (by simpa using h1) (by simpa using h2) (by simpa using h3)
  simpa [N5] using this
def zip3 : List D -> Option (List D)
 | [.lst ds, .lst es, .lst fs] => some (N5 ds es fs)
 | _ => none
theorem yv2 {K : W.Frag} {F : Hp} {p q o : Addr} {xs ys zs : List V} {ds es fs : List D} (s : SqL K F p xs) (r : Reps K F xs ds) (s' : SqL K F q ys) (r' : Reps K F ys es) (s'' : SqL K F o zs) (r'' : Reps K F zs fs) : ItD K F (Itz3 K p q o) (N5 ds es fs) where
 go := fun i F1 H1 a b hi => by
  rw [V6] at hi
  obtain ⟨v, e, _⟩ := r.get (getElem?_eq_getElem (show i < ds.length by omega))
  obtain ⟨w, e', _⟩ := r'.get (getElem?_eq_getElem (show i < es.length by omega))
  obtain ⟨u, e'', _⟩ := r''.get (getElem?_eq_getElem (show i < fs.length by omega))
  exact ⟨xs, ys, zs, v, w, u, b.seq (a.seq s), b.seq (a.seq s'), b.seq (a.seq s''), e, e', e''⟩
 yld := fun i F1 H1 x H2 d a b e y => by
  obtain ⟨t, u, v, w, rfl, ht, rfl, y1, y2, y3⟩ := y
  have y1 := y1 xs (b.seq (a.seq s))
  have y2 := y2 ys (b.seq (a.seq s'))
  have y3 := y3 zs (b.seq (a.seq s''))
  obtain ⟨d1, e1, r1⟩ := r.get' y1
  obtain ⟨d2, e2, r2⟩ := r'.get' y2
  obtain ⟨d3, e3, r3⟩ := r''.get' y3
  rw [zy7 _ _ _ i d1 d2 d3 e1 e2 e3] at e
  cases e
  refine ⟨upd F1 t (.tup [u, v, w]), Ext.laid b ht, .tup (SqT.of w9) ?_⟩
  have mm : Same F (upd F1 t (.tup [u, v, w])) := a.trans ((Same.refl F1).put (b.free ht))
  exact .cons (r1.mono mm) (.cons (r2.mono mm) (.cons (r3.mono mm) .nil))
 stop := fun F1 H1 a b => ⟨xs, ys, zs, b.seq (a.seq s), b.seq (a.seq s'), b.seq (a.seq s''), by rw [r.length, r'.length, r''.length, V6]; omega⟩
theorem yx0 {es : List Expr} {tk : Nat} {tp : Pos} {a b c : Expr} {m : ML} {p pos : Pos} (hg : Gl X "zip") (hm : X.mg "zip" = none) (ha : PAs X [a, b, c] m) (hs : starEach [a, b, c] X.env = (false, eval a X.env) :: starEach [b, c] X.env := by rfl) (hs2 : ∀ pos, ((backTo pos (starEach [b, c] X.env)).any fun x => x.1) = false := by intro _; rfl) : PId X (.Tuple es tk tp) (.Call (.Name "zip" p) [a, b, c] [] pos) (j8 zip3 m) := PI.imp (yp5 hg hm ha hs hs2) fun σ H R hpat => by
 obtain ⟨F0, H0, F, ρ, its, rl, e, q⟩ := hpat
 obtain ⟨ds, h1, h2⟩ := W3 e
 refine ⟨F0, H0, F, ρ, ds, rl, h1, fun vs F1 H1 x1 r1 => ?_⟩
 unfold zip3 at h2
 split at h2
 ·cases h2
  cases r1 with
  | cons r rr =>
   cases rr with
   | cons r2 rr =>
    cases rr with
    | cons r3 rr =>
    cases rr
    cases r with
    | lst s t =>
     cases r2 with
     | lst s2 t2 =>
      cases r3 with
      | lst s3 t3 => exact ⟨_, _, _, _, _, _, rfl, x1.fh.seq s, x1.fh.seq s2, x1.fh.seq s3, q _ F1 H1 x1 (yv2 s t s2 t2 s3 t3)⟩
 ·cases h2
def O0 : Nat -> List D -> List D
 | _, [] => []
 | i, d :: ds => .tup [.int i, d] :: O0 (i + 1) ds
theorem U4 : ∀ i ds, (O0 i ds).length = ds.length
 | _, [] => rfl
 | i, _ :: ds => by simp [O0, U4 (i + 1) ds]
theorem zu3 : ∀ (k : Nat) ds (i : Nat) d, ds[i]? = some d -> (O0 k ds)[i]? = some (.tup [.int ((k + i : Nat) : Int), d])
 | _, [], _, _, h => by simp at h
 | k, _ :: ds, 0, d, h => by simp at h; subst h; rfl
 | k, _ :: ds, i + 1, d, h => by
  have := zu3 (k + 1) ds i d (by simpa using h)
  have e : k + 1 + i = k + (i + 1) := by omega
  rw [e] at this
  simpa [O0] using this
def zz3 : List D -> Option (List D)
 | [.lst ds] => some (O0 0 ds)
 | _ => none
theorem yv5 {K : W.Frag} {F : Hp} {p : Addr} {xs : List V} {ds : List D} (s : SqL K F p xs) (r : Reps K F xs ds) : ItD K F (Ite K p) (O0 0 ds) where
 go := fun i F1 H1 a b hi => by
  rw [U4] at hi
  obtain ⟨v, e, _⟩ := r.get (getElem?_eq_getElem hi)
  exact ⟨xs, v, b.seq (a.seq s), e⟩
 yld := fun i F1 H1 x H2 d a b e y => by
  obtain ⟨t, u, rfl, ht, rfl, y1⟩ := y
  have y1 := y1 xs (b.seq (a.seq s))
  obtain ⟨d1, e1, r1⟩ := r.get' y1
  rw [zu3 0 ds i d1 e1, Nat.zero_add] at e
  cases e
  refine ⟨upd F1 t (.tup [.int i, u]), Ext.laid b ht, .tup (SqT.of w9) ?_⟩
  have mm : Same F (upd F1 t (.tup [.int i, u])) := a.trans ((Same.refl F1).put (b.free ht))
  exact .cons (.int _) (.cons (r1.mono mm) .nil)
 stop := fun F1 H1 a b => ⟨xs, b.seq (a.seq s), by rw [r.length, U4]; exact Nat.le_refl _⟩
theorem B7 {es : List Expr} {tk : Nat} {tp : Pos} {a : Expr} {m : ML} {p pos : Pos} (hg : Gl X "enumerate") (hm : X.mg "enumerate" = none) (ha : PAs X [a] m) (hs : starEach [a] X.env = [(false, eval a X.env)] := by rfl) : PId X (.Tuple es tk tp) (.Call (.Name "enumerate" p) [a] [] pos) (j8 zz3 m) := PI.imp (yp8 hg hm ha hs) fun σ H R hpat => by
 obtain ⟨F0, H0, F, ρ, its, rl, e, q⟩ := hpat
 obtain ⟨ds, h1, h2⟩ := W3 e
 refine ⟨F0, H0, F, ρ, ds, rl, h1, fun vs F1 H1 x1 r1 => ?_⟩
 unfold zz3 at h2
 split at h2
 ·cases h2
  cases r1 with
  | cons r rr =>
   cases rr
   cases r with
   | lst s t => exact ⟨_, _, rfl, x1.fh.seq s, q _ F1 H1 x1 (yv5 s t)⟩
 ·cases h2
end
end
section
def forD (g : Tg) (body : MS) : List D -> MS
 | [], ρ => some (.nx ρ)
 | d :: ds, ρ => match tgD g d ρ with
  | some ρ1 => match body ρ1 with
   | some (.nx ρ2) => forD g body ds ρ2
   | some (.ct ρ2) => forD g body ds ρ2
   | some (.bk ρ2) => some (.nx ρ2)
   | o => o
  | none => none
def mfor (mi : ML) (g : Tg) (body : MS) : MS := fun ρ => (mi ρ).bind fun its => forD g body its ρ
theorem Q5 {α : Type} {xs : List α} {i : Nat} {d : α} (h : xs[i]? = some d) : xs.drop i = d :: xs.drop (i + 1) := by
 obtain ⟨hl, e⟩ := List.getElem?_eq_some_iff.mp h
 rw [drop_eq_getElem_cons hl, e]
section
variable {X : Cx} {a b c e : Expr} {ma mb : ME} {pos : Pos} {st : Stmt} {rest : List Stmt}
theorem j9 {tg iter : Expr} {body : List Stmt} {mi : ML} {g : Tg} {mb : MS} (hp : PassesOwn (model X.prog X.w) X.A X.env X.xe) (hc : X.calm = true) (hi : PId X tg iter mi) (hg : PGd X tg g) (hb : PSsd X body mb)
  (hs : ∀ x, foldedSetIterable iter X.env x = pure x := by intro _; rfl) : PSd X (.For tg iter body [] pos) (mfor mi g mb) := (yu9 hp hc hi hg hb hs).imp fun Dn σ H hpat => by
 obtain ⟨F0, H0, F, ρ, o, rl, e, ok⟩ := hpat
 unfold mfor at e
 cases h1 : mi ρ with
 | none => rw [h1] at e; cases e
 | some its =>
  rw [h1] at e
  have e : forD g mb its ρ = some o := e
  refine ⟨F0, H0, F, ρ, its, rl, h1, fun J F1 H1 x1 I => ?_⟩
  refine ⟨fun i m σ' H' => ∃ F' ρ', Rl X.K F0 H0 F' H' σ' ρ' /\ Same F1 F' /\ i <= its.length /\ m = its.length - i /\ forD g mb (its.drop i) ρ' = some o, ⟨_, F1, ρ, rl.go x1, Same.refl _, Nat.zero_le _, rfl, e⟩, ?_⟩
  rintro i m σ' H' ⟨F', ρ', rl', sf, hi', rfl, e'⟩
  by_cases hlt : i < its.length
  ·right
   have hd := getElem?_eq_getElem hlt
   refine ⟨I.go i F' H' sf rl'.fh hlt, fun σ2 H2 => ∃ F2 ρ2, Rl X.K F0 H0 F2 H2 σ2 ρ2 /\ Same F1 F2 /\ forD g mb (its.drop (i + 1)) ρ2 = some o, ?_, fun x H2 y => ?_⟩
   ·rintro σ2 H2 ⟨F2, ρ2, rl2, sf2, e2⟩
    exact ⟨its.length - (i + 1), by omega, F2, ρ2, rl2, sf2, hlt, rfl, e2⟩
   ·obtain ⟨F2, x2, r2⟩ := I.yld i F' H' x H2 _ sf rl'.fh hd y
    rw [Q5 hd] at e'
    unfold forD at e'
    cases h2 : tgD g its[i] ρ' with
    | none => simp only [h2] at e'; cases e'
    | some ρ1 =>
     simp only [h2] at e'
     refine ⟨F0, H0, F2, ρ', _, ρ1, rl'.go x2, r2, h2, fun F3 H3 σ3 rl3 x3 => ?_⟩
     have s3 : Same F1 F3 := (sf.trans x2.ff).trans x3.ff
     cases h3 : mb ρ1 with
     | none => simp only [h3] at e'; cases e'
     | some o1 =>
      simp only [h3] at e'
      refine ⟨F0, H0, F3, ρ1, o1, rl3, h3, ?_⟩
      cases o1 with
      | nx ρ2 => exact fun F4 H4 σ4 rl4 s4 => ⟨F4, ρ2, rl4, s3.trans s4, e'⟩
      | ct ρ2 => exact fun F4 H4 σ4 rl4 s4 => ⟨F4, ρ2, rl4, s3.trans s4, e'⟩
      | bk ρ2 =>
       cases e'
       exact fun F4 H4 σ4 rl4 s4 => ok F4 H4 σ4 rl4 ((x1.ff.trans s3).trans s4)
      | rt d => cases e'; exact ok
      | rf d => cases e'; exact ok
      | rp d ds => cases e'; exact ok
      | rg d p r => cases e'; exact ok
      | rgf d p r => cases e'; exact ok
  ·left
   have hieq : i = its.length := by omega
   subst hieq
   rw [drop_length] at e'
   have e' : some (Out.nx ρ') = some o := e'
   cases e'
   exact ⟨I.stop F' H' sf rl'.fh, ok F' H' σ' rl' (x1.ff.trans sf)⟩
end
end
section
def J5 (src : List (Option Nat)) (ρ : Ro) : Ro := src.map fun o => o.bind fun i => match ρ[i]? with | some (some (.sh d)) => some (.sh d) | _ => none
def O1 (g : Tg) (c : MB) (elt : ME) : List D -> Ro -> List D -> Option (List D)
 | [], _, acc => some acc
 | d :: ds, ρ, acc => match tgD g d ρ with
  | some ρ1 => match c ρ1 with
   | some true => match elt ρ1 with
    | some x => if acc.length < sizeLine then O1 g c elt ds ρ1 (acc ++ [x]) else none
    | none => none
   | some false => O1 g c elt ds ρ1 acc
   | none => none
  | none => none
@[irreducible] def Q0 (src : List (Option Nat)) (mi : ML) (g : Tg) (c : MB) (elt : ME) : ML := fun ρ => (mi ρ).bind fun its => O1 g c elt its (J5 src ρ) []
def NoOwn (ρ : Ro) : Prop := ∀ (i : Nat) ds, ρ[i]? ≠ some (some (.own ds)) /\ ∀ p, ρ[i]? ≠ some (some (.ob p ds))
theorem NoOwn.set {ρ : Ro} (h : NoOwn ρ) (i : Nat) (d : D) : NoOwn (ρ.set i (some (.sh d))) := fun j ds => ⟨fun e => by
 by_cases hj : i = j
 ·subst hj
  have hl : i < ρ.length := by
   rcases Nat.lt_or_ge i ρ.length with z | z
   ·exact z
   ·rw [getElem?_eq_none (by simpa using z)] at e; cases e
  rw [getElem?_set_self hl] at e; cases e
 ·rw [getElem?_set_ne hj] at e; exact (h j ds).1 e, fun p e => (h j ds).2 p (Z6 e).2⟩
theorem NoOwn.all : ∀ (is : List Nat) (ds : List D) {ρ ρ' : Ro}, NoOwn ρ -> K2 is ds ρ = some ρ' -> NoOwn ρ'
 | [], [], ρ, ρ', h, e => by cases e; exact h
 | [], _ :: _, _, _, _, e => by cases e
 | _ :: _, [], _, _, _, e => by cases e
 | i :: is, d :: ds, ρ, ρ', h, e => NoOwn.all is ds (h.set i d) e
theorem NoOwn.tg {g : Tg} {d : D} {ρ ρ' : Ro} (h : NoOwn ρ) (e : tgD g d ρ = some ρ') : NoOwn ρ' := by
 cases g with
 | nm i => cases e; exact h.set i d
 | tp is => cases d <;> first | (cases e; done) | exact NoOwn.all is _ h e
 | nt i is =>
  cases d with
  | tup ds =>
   match ds, e with
   | [d, .tup ds], e => exact NoOwn.all is _ (h.set i d) e
  | _ => cases e
theorem Rl.blk {K : W.Frag} {F0 H0 F H : Hp} {σ : St} {ρ : Ro} (r : Rl K F0 H0 F H σ ρ) (src : List (Option Nat)) : Rl K F H F H (blk0 src σ) (J5 src ρ) /\ NoOwn (J5 src ρ) := by
 have no1 : ∀ (i : Nat) x, (J5 src ρ)[i]? = some (some x) -> ∃ d, x = S.sh d := fun i x e => by
  unfold J5 at e
  rw [getElem?_map] at e
  cases h : src[i]? with
  | none => rw [h] at e; cases e
  | some o =>
   rw [h] at e
   cases o with
   | none => cases e
   | some k =>
    simp only [Option.map_some, Option.bind_some] at e
    split at e
    ·cases e; exact ⟨_, rfl⟩
    ·cases e
 have no : NoOwn (J5 src ρ) := fun i ds => ⟨fun e => (by obtain ⟨d, z⟩ := no1 i _ e; cases z), fun p e => (by obtain ⟨d, z⟩ := no1 i _ e; cases z)⟩
 refine ⟨⟨.refl r.fh, by unfold blk0 J5; simp, fun i d e => ?_, fun i ds e => absurd e (no i ds).1, fun i j p ds es _ e => absurd e (no i ds).1, fun i p ds e => absurd e ((no i ds).2 p), fun i j p ds es e => absurd e ((no i ds).2 p), fun i j p q ds es e => absurd e ((no i ds).2 p)⟩, no⟩
 unfold J5 at e
 unfold blk0
 rw [getElem?_map] at e ⊢
 cases h : src[i]? with
 | none => rw [h] at e; cases e
 | some o =>
  rw [h] at e
  cases o with
  | none => cases e
  | some k =>
   simp only [Option.map_some, Option.bind_some] at e ⊢
   split at e
   ·rename_i d' h'
    cases e
    obtain ⟨v, e1, e2⟩ := r.sh k _ h'
    exact ⟨v, by rw [e1]; rfl, e2⟩
   ·cases e
theorem Rl.other {K : W.Frag} {F0 H0 F H : Hp} {σ : St} {ρ : Ro} (r : Rl K F0 H0 F H σ ρ) (no : NoOwn ρ) {p : Addr} {o : HO} (h0 : H0 p = none) (hF : F p = none) : Rl K F0 H0 F (upd H p o) σ ρ :=
 ⟨⟨r.ext.ff, r.ext.hh.put h0, r.ext.fh.put hF, r.ext.new, r.ext.nf⟩, r.len, r.sh, fun i ds e => absurd e (no i ds).1, r.inj, fun i p ds e => absurd e ((no i ds).2 p), r.obn, r.ob1⟩
theorem Rl.rebase {K : W.Frag} {F1 F H : Hp} {σ : St} {ρ : Ro} {p : Addr} {xs ys : List V} (r : Rl K F1 (upd F1 p (.lst xs)) F H σ ρ) (hF : F p = none) (hF1 : F1 p = none) : Rl K F1 (upd F1 p (.lst ys)) F (upd H p (.lst ys)) σ ρ := by
 have ne : ∀ q, upd F1 p (.lst xs) q = none -> q ≠ p := fun q z w => by rw [w, w9] at z; cases z
 refine ⟨⟨r.ext.ff, fun b u e => ?_, r.fh.put hF, fun b e n => ?_, r.ext.nf⟩, r.len, r.sh, fun i ds e => ?_, r.inj, fun i q ds e => ?_, r.obn, r.ob1⟩
 ·by_cases hb : b = p
  ·subst hb; rw [w9] at e ⊢; exact e
  ·rw [w8 hb] at e ⊢
   exact r.ext.hh b u (by rw [w8 hb]; exact e)
 ·have hb : b ≠ p := fun w => by rw [w, hF] at n; exact n rfl
  rw [w8 hb]; exact e
 ·obtain ⟨q, zs, a, b, c, d, z⟩ := r.own i ds e
  have hq := ne q z
  rw [w8 hq] at z
  exact ⟨q, zs, a, b, by rw [w8 hq]; exact c, d, by rw [w8 hq]; exact z⟩
 ·obtain ⟨a, b, z, zs, c, d⟩ := r.ob i q ds e
  have hq := ne q z
  rw [w8 hq] at z
  exact ⟨a, b, by rw [w8 hq]; exact z, zs, by rw [w8 hq]; exact c, d⟩
theorem Ext.acc {F H F' H' : Hp} {p : Addr} {o : HO} (x : Ext F H F' H') (hp : H p = none) (hF : F' p = none) : Ext F H F' (upd H' p o) := ⟨x.ff, x.hh.put hp, x.fh.put hF, x.new, x.nf⟩
theorem Ext.stay {F' H' F3 H3 : Hp} {p : Addr} {o : HO} (x3 : Ext F' H' F3 H3) (hF' : F' p = none) (hH' : H' p = some o) : F3 p = none := by
 cases qq : F3 p with
 | none => rfl
 | some u => have := x3.new p hF' (by rw [qq]; simp); rw [this] at hH'; cases hH'
theorem Rl.noB {K : W.Frag} {F H : Hp} {σ : St} {ρ : Ro} {p : Addr} (r : Rl K F H F H σ ρ) (no : NoOwn ρ) (hp : H p = none) : Rl K F (upd F p (.lst [])) F (upd H p (.lst [])) σ ρ :=
 ⟨⟨Same.refl F, r.fh.put2, r.fh.put (r.fh.free hp), fun b e n => absurd e n, fun _ _ _ z => z⟩, r.len, r.sh, fun i ds e => absurd e (no i ds).1, r.inj, fun i p ds e => absurd e ((no i ds).2 p), r.obn, r.ob1⟩
theorem zj5 {g : Tg} {c : MB} {elt : ME} {d : D} {ds acc out : List D} {ρ : Ro} (h : O1 g c elt (d :: ds) ρ acc = some out) : ∃ ρ1, tgD g d ρ = some ρ1 /\ ((c ρ1 = some false /\ O1 g c elt ds ρ1 acc = some out) \/ ∃ x, c ρ1 = some true /\ elt ρ1 = some x /\ acc.length < sizeLine /\ O1 g c elt ds ρ1 (acc ++ [x]) = some out) := by
 rw [O1] at h
 cases h2 : tgD g d ρ with
 | none => rw [h2] at h; cases h
 | some ρ1 =>
  rw [h2] at h
  simp only at h
  refine ⟨ρ1, rfl, ?_⟩
  cases h3 : c ρ1 with
  | none => rw [h3] at h; cases h
  | some k =>
   rw [h3] at h
   cases k with
   | false => exact .inl ⟨rfl, h⟩
   | true =>
    simp only at h
    cases h4 : elt ρ1 with
    | none => rw [h4] at h; cases h
    | some x =>
     rw [h4] at h
     simp only at h
     by_cases hz : acc.length < sizeLine
     ·rw [if_pos hz] at h; exact .inr ⟨x, rfl, rfl, hz, h⟩
     ·rw [if_neg hz] at h; cases h
theorem zb8 {K : PySem.W.Frag} {src : List (Option Nat)} {g : Tg} {c : MB} {elt : ME} {its out : List D} {F1 H1 : Hp} {σ : St} {ρb : Ro} {p : Addr} {J : It} {Q : VK} (f1 : Same F1 H1) (hp : H1 p = none) (rb : Rl K F1 (upd F1 p (.lst [])) F1 (upd H1 p (.lst [])) (blk0 src σ) ρb) (I : ItD K F1 J its) (e : O1 g c elt its ρb [] = some out)
  (q : ∀ xs F' H', Ext F1 H1 F' H' -> F' p = none -> H' p = some (.lst xs) -> Reps K F' xs out -> Q (.ref p) H') :
  ∃ W : Nat -> Nat -> St -> Hp -> Prop, (∃ m, W 0 m (blk0 src σ) (upd H1 p (.lst []))) /\ ∀ i m σ' H', W i m σ' H' ->
   (J.stop i H' /\ Q (.ref p) H') \/ (J.go i H' /\ ∃ N : St -> Hp -> Prop, (∀ σ2 H2, N σ2 H2 -> ∃ m', m' < m /\ W (i + 1) m' σ2 H2) /\ ∀ x H2, J.yld i H' x H2 -> TGd K g x σ' H2 fun σ3 H3 => TC K c σ3 H3 fun b H4 =>
    if b = true then TD K elt σ3 H4 fun y H5 => ∃ xs, H5 p = some (.lst xs) /\ xs.length < sizeLine /\ N σ3 (upd H5 p (.lst (xs ++ [y]))) else N σ3 H4) := by
 have hF1 : F1 p = none := f1.free hp
 refine ⟨fun i m σ' H' => ∃ F' ρ' acc xs, Rl K F1 (upd F1 p (.lst xs)) F' H' σ' ρ' /\ Ext F1 H1 F' H' /\ H' p = some (.lst xs) /\ F' p = none /\ Reps K F' xs acc /\ i <= its.length /\ m = its.length - i /\ O1 g c elt (its.drop i) ρ' acc = some out,
  ⟨_, F1, ρb, [], [], rb, (Ext.refl f1).acc hp hF1, w9, hF1, .nil, Nat.zero_le _, rfl, e⟩, ?_⟩
 clear rb e
 rintro i m σ' H' ⟨F', ρ', acc, xs, rl', xe, hH', hF', ra, hi', rfl, e'⟩
 by_cases hlt : i < its.length
 ·right
  have hd := getElem?_eq_getElem hlt
  refine ⟨I.go i F' H' xe.ff rl'.fh hlt, fun σ2 H2 => ∃ F2 ρ2 acc2 xs2, Rl K F1 (upd F1 p (.lst xs2)) F2 H2 σ2 ρ2 /\ Ext F1 H1 F2 H2 /\ H2 p = some (.lst xs2) /\ F2 p = none /\ Reps K F2 xs2 acc2 /\ O1 g c elt (its.drop (i + 1)) ρ2 acc2 = some out, ?_, fun x H2 y => ?_⟩
  ·rintro σ2 H2 ⟨F2, ρ2, acc2, xs2, b1, b2, b3, b4, b5, b6⟩
   exact ⟨its.length - (i + 1), Nat.sub_lt_sub_left hlt (Nat.lt_succ_self i), F2, ρ2, acc2, xs2, b1, b2, b3, b4, b5, hlt, rfl, b6⟩
  ·obtain ⟨F2, x2, r2⟩ := I.yld i F' H' x H2 _ xe.ff rl'.fh hd y
   rw [Q5 hd] at e'
   obtain ⟨ρ1, h2, e3⟩ := zj5 e'
   clear e' I q y hd
   refine ⟨F1, _, F2, ρ', _, ρ1, rl'.go x2, r2, h2, fun F3 H3 σ3 rl3 x3 => ?_⟩
   have x23 := x2.trans x3
   rcases e3 with ⟨h3, e4⟩ | ⟨d, h3, h4, hz, e4⟩
   ·refine ⟨F1, _, F3, ρ1, false, rl3, h3, fun F4 H4 x4 => ?_⟩
    have x24 := x23.trans x4
    exact iteF ⟨F4, ρ1, acc, xs, rl3.go x4, xe.trans x24, x24.hh _ _ hH', x24.stay hF' hH', ra.mono x24.ff, e4⟩
   ·refine ⟨F1, _, F3, ρ1, true, rl3, h3, fun F4 H4 x4 => iteT ⟨F1, _, F4, ρ1, d, rl3.go x4, h4, fun v F5 H5 x5 r5 => ?_⟩⟩
    have x25 := (x23.trans x4).trans x5
    have pn := x25.stay hF' hH'
    exact ⟨xs, x25.hh _ _ hH', by rw [ra.length]; exact hz, F5, ρ1, acc ++ [d], xs ++ [v], ((rl3.go x4).go x5).rebase pn hF1, (xe.trans x25).acc hp pn, w9, pn, (ra.mono x25.ff).append (.cons r5 .nil), e4⟩
 ·left
  have hieq : i = its.length := Nat.le_antisymm hi' (Nat.le_of_not_lt hlt)
  subst hieq
  rw [drop_length] at e'
  have e' : some acc = some out := e'
  cases e'
  exact ⟨I.stop F' H' xe.ff rl'.fh, q xs F' H' xe hF' hH' ra⟩
section
variable {X : Cx} {a b c e : Expr} {ma mb : ME} {pos : Pos} {st : Stmt} {rest : List Stmt}
def PTsd (X : Cx) (ifs : List Expr) (c : MB) : Prop := PTs X ifs (TC X.K c)
def cyes : MB := fun _ => some true
theorem R4 : PTsd X [] cyes := fun pins s σ H Q I hpat => by
 obtain ⟨F0, H0, F, ρ, b, rl, e, q⟩ := hpat
 cases e
 exact yq7 pins s σ H Q I (q F H (.refl rl.fh))
theorem zb7 {K : W.Frag} {src : List (Option Nat)} {mi : ML} {g : Tg} {c : MB} {elt : ME} {σ : St} {H : Hp} {Q : VK} (h : TF K (Q0 src mi g c elt) σ H Q) : zt8 src (TId K mi) (TGd K g) (TC K c) (TD K elt) σ H Q := by
 obtain ⟨F0, H0, F, ρ, out, rl, e, q⟩ := h
 unfold Q0 at e
 cases h1 : mi ρ with
 | none => rw [h1] at e; cases e
 | some its =>
  rw [h1] at e
  refine ⟨F0, H0, F, ρ, its, rl, h1, fun J F1 H1 x1 I p hp => ?_⟩
  obtain ⟨rb, no⟩ := (rl.go x1).blk src
  exact zb8 x1.fh hp (rb.noB no hp) I e fun xs F' H' xe hF' hH' ra => q p xs F' H' (x1.trans xe) (x1.hh.free hp) hF' hH' ra
theorem zf4 {sc : Scope} {N : List Str} {src : List (Option Nat)} {tg elt iter : Expr} {ifs : List Expr} {mi : ML} {g : Tg} {cc : MB} {me : ME} (B : Blk X sc N src) (hc : X.calm = true)
  (hi : PId X tg iter mi) (hg : ∀ C fp s H, PGd (V4 X sc C N fp s H) tg g) (ht : ∀ C fp s H, PTsd (V4 X sc C N fp s H) ifs cc) (he : ∀ C fp s H, PD (V4 X sc C N fp s H) elt me)
  (hs : ∀ x, foldedSetIterable iter X.env x = pure x := by intro _; rfl) :
  PF X (.ListComp elt [⟨tg, iter, ifs, 0⟩] sc pos) (Q0 src mi g cc me) := (yo1 (g := TGd X.K g) (tc := TC X.K cc) (te := TD X.K me) B hc hi (fun C fp s H => hg C fp s H) (fun C fp s H => ht C fp s H) (fun C fp s H => he C fp s H) hs).imp fun _ _ _ h => zb7 h
theorem yh4 {mf : ML} {σ : St} {H : Hp} {Q : VK} (h : TD X.K (mlst mf) σ H Q) : TF X.K mf σ H Q := by
 obtain ⟨F0, H0, F, ρ, d, r, e, q⟩ := h
 unfold mlst at e
 cases hm : mf ρ with
 | none => rw [hm] at e; cases e
 | some ds =>
  rw [hm] at e; cases e
  refine ⟨F0, H0, F, ρ, ds, r, hm, fun p xs F' H' x hp hF hH rs => ?_⟩
  exact q _ (upd F' p (.lst xs)) H' (x.freeze hF hp hH) (.lst (SqL.of w9) (rs.mono ((Same.refl F').put hF)))
theorem zg9 {i : Nat} {src : List (Option Nat)} {mi : ML} {g : Tg} {cc : MB} {me : ME} (h : PS X st (tAsg (zt8 src (TId X.K mi) (TGd X.K g) (TC X.K cc) (TD X.K me)) (F8 i))) : PSd X st (mset i (mlst (Q0 src mi g cc me))) := ya8 h fun _ _ _ q => zb7 (yh4 q)
def S8 (c : MB) (body : MS) : Nat -> MS
 | 0, _ => none
 | n + 1, ρ => match c ρ with
  | some true => match body ρ with
   | some (.nx ρ2) => S8 c body n ρ2
   | some (.ct ρ2) => S8 c body n ρ2
   | some (.bk ρ2) => some (.nx ρ2)
   | o => o
  | some false => some (.nx ρ)
  | none => none
theorem zg8 {body : List Stmt} {ca : MB} {mb : MS} (n : Nat) (hp : PassesOwn (model X.prog X.w) X.A X.env X.xe) (hc : PC' X c ca) (hb : PSsd X body mb) : PSd X (.While c body [] pos) (S8 ca mb n) := (yy9 hp hc hb).imp fun Dn σ H hpat => by
 obtain ⟨F0, H0, F, ρ, o, rl, e, ok⟩ := hpat
 refine ⟨fun m σ' H' => ∃ F' ρ', Rl X.K F0 H0 F' H' σ' ρ' /\ Same F F' /\ S8 ca mb m ρ' = some o, ⟨n, F, ρ, rl, Same.refl _, e⟩, ?_⟩
 rintro m σ' H' ⟨F', ρ', rl', sf, e'⟩
 cases m with
 | zero => cases e'
 | succ m =>
  unfold S8 at e'
  cases h1 : ca ρ' with
  | none => simp only [h1] at e'; cases e'
  | some k =>
   refine ⟨F0, H0, F', ρ', k, rl', h1, fun F1 H1 x1 => ?_⟩
   cases k with
   | false =>
    simp only [h1] at e'
    cases e'
    exact iteF (ok F1 H1 σ' (rl'.go x1) (sf.trans x1.ff))
   | true =>
    simp only [h1] at e'
    refine iteT ⟨fun σ2 H2 => ∃ F2 ρ2, Rl X.K F0 H0 F2 H2 σ2 ρ2 /\ Same F F2 /\ S8 ca mb m ρ2 = some o, fun σ2 H2 ⟨F2, ρ2, a1, a2, a3⟩ => ⟨m, Nat.lt_succ_self m, F2, ρ2, a1, a2, a3⟩, ?_⟩
    cases h2 : mb ρ' with
    | none => simp only [h2] at e'; cases e'
    | some o1 =>
     simp only [h2] at e'
     refine ⟨F0, H0, F1, ρ', o1, rl'.go x1, h2, ?_⟩
     have s1 := sf.trans x1.ff
     cases o1 with
     | nx ρ2 => exact fun F4 H4 σ4 rl4 s4 => ⟨F4, ρ2, rl4, s1.trans s4, e'⟩
     | ct ρ2 => exact fun F4 H4 σ4 rl4 s4 => ⟨F4, ρ2, rl4, s1.trans s4, e'⟩
     | bk ρ2 => cases e'; exact fun F4 H4 σ4 rl4 s4 => ok F4 H4 σ4 rl4 (s1.trans s4)
     | rt d => cases e'; exact ok
     | rf d => cases e'; exact ok
     | rp d ds => cases e'; exact ok
     | rg d p r => cases e'; exact ok
     | rgf d p r => cases e'; exact ok
inductive Rt where
 | sh (d : D) | fr (ds : List D) | pr (d : D) (ds : List D)
abbrev MF := List D -> Option Rt
def okT (K : W.Frag) (F H : Hp) (Q : VK) : Rt -> Prop
 | .sh d => ∀ v F' H', Ext F H F' H' -> Rep K F' v d -> Q v H'
 | .fr ds => ∀ p xs F' H', Ext F H F' H' -> H p = none -> F' p = none -> H' p = some (.lst xs) -> Reps K F' xs ds -> Q (.ref p) H'
 | .pr d ds => ∀ t v p xs F' H', Ext F H F' H' -> H t = none -> H p = none -> t ≠ p -> F' t = none -> F' p = none -> H' t = some (.tup [v, .ref p]) -> H' p = some (.lst xs) -> Rep K F' v d -> Reps K F' xs ds -> Q (.ref t) H'
def spR (K : W.Frag) (n : Nat) (m : MF) : Sp := fun vs H Q _ => vs.length = n /\ ∃ F ds r, Same F H /\ Reps K F vs ds /\ m ds = some r /\ okT K F H Q r
def j7 (n : Nat) (ds : List D) : Ro := ds.map (fun d => some (.sh d)) ++ List.replicate (n - ds.length) none
def runB (n : Nat) (m : MS) : MF := fun ds => match m (j7 n ds) with
 | some (.nx _) => some (.sh .non)
 | some (.rt d) => some (.sh d)
 | some (.rf es) => some (.fr es)
 | some (.rp d es) => some (.pr d es)
 | _ => none
theorem M0 {K : W.Frag} {F H : Hp} {N : List Str} {vs : List V} {ds : List D} (s : Same F H) (r : Reps K F vs ds) : Rl K F H F H (W0 N vs) (j7 N.length ds) := by
 have get : ∀ (i : Nat) x, (j7 N.length ds)[i]? = some (some x) -> ∃ d, x = S.sh d /\ ds[i]? = some d := fun i x e => by
  unfold j7 at e
  by_cases hi : i < ds.length
  ·rw [getElem?_append_left (by simpa using hi), getElem?_map] at e
   cases q : ds[i]? with
   | none => rw [q] at e; cases e
   | some d => rw [q] at e; cases e; exact ⟨d, rfl, rfl⟩
  ·rw [getElem?_append_right (by simpa using hi), getElem?_replicate] at e
   split at e <;> cases e
 refine ⟨.refl s, ?_, fun i d e => ?_, fun i ds e => ?_, fun i j p ds es _ e => ?_, fun i p ds e => ?_, fun i j p ds es e => ?_, fun i j p q ds es e => ?_⟩
 ·unfold W0 j7; simp [r.length]
 ·obtain ⟨d', e1, e2⟩ := get i _ e
  cases e1
  obtain ⟨v, e3, e4⟩ := r.get e2
  have hl : i < vs.length := (List.getElem?_eq_some_iff.mp e3).1
  refine ⟨v, ?_, e4⟩
  unfold W0
  rw [getElem?_append_left (by simpa using hl), getElem?_map, e3]; rfl
 ·obtain ⟨d', e1, _⟩ := get i _ e
  cases e1
 ·obtain ⟨d', e1, _⟩ := get i _ e
  cases e1
 ·obtain ⟨d', e1, _⟩ := get i _ e
  cases e1
 ·obtain ⟨d', e1, _⟩ := get i _ e
  cases e1
 ·obtain ⟨d', e1, _⟩ := get i _ e
  cases e1
theorem Fun.okD {P : Program} {w : World} {K : W.Frag} {mg : Str -> Option Value} {base : Heap} {x qual : Str} {st : Stmt} {f : Addr} {fd : FuncData} {N ps : List Str} {k : Nat} {m : MS} (Fn : Fun K x qual st f fd) (Sc : FnScope N ps (x0 st))
  (hbody : ∀ (cdv : Value) (A : Around) (outer : List Env) (s : Shared) (H : Hp) (E : XK), Room k (A.deeper (envOfC qual (x0 st) s.heap.objs.size f cdv)) -> PSsd (cxOf CX0 P w K mg base N qual (x0 st) f cdv A outer s H E).nox (t4 st) m) :
  FnOk P w K mg base CX0 (k + 1) f fd ps (spR K ps.length (runB N.length m)) := by
 refine Fn.ok Sc (fun vs H Q E h => h.1) fun cdv A outer s H vs Q E hr h => ?_
 obtain ⟨hl, F, ds, r, sf, rs, e, ok⟩ := h
 unfold runB at e
 cases h1 : m (j7 N.length ds) with
 | none => rw [h1] at e; cases e
 | some o =>
  rw [h1] at e
  refine ⟨_, hbody cdv A outer s H E hr, F, H, F, j7 N.length ds, o, M0 sf rs, h1, ?_⟩
  cases o with
  | nx ρ => cases e; exact fun F' H' σ' rl _ => ok .non F' H' rl.ext .non
  | rt d => cases e; exact ok
  | rf es => cases e; exact ok
  | rp d es => cases e; exact ok
  | rg d p r => cases e
  | rgf d p r => cases e
  | bk ρ => cases e
  | ct ρ => cases e
@[irreducible] def m5 (f : MF) (m : ML) : ME := fun ρ => (m ρ).bind fun ds => match f ds with | some (.sh d) => some d | some (.fr es) => some (.lst es) | some (.pr d es) => some (.tup [d, .lst es]) | none => none
@[irreducible] def N1 (f : MF) (m : ML) : ML := fun ρ => (m ρ).bind fun ds => match f ds with | some (.fr es) => some es | _ => none
variable {E : XK} {es : List Expr} {mf : MF} {m : ML}
theorem u0 {n : Nat} (h : ∀ t, PA X es t -> PE X e (yy0 (spR X.K n mf) [] E t)) (hl : es.length = n) (ha : PAs X es m) (hm : ∀ ρ ds, m ρ = some ds -> ds.length = es.length) : PD X e (m5 mf m) := (h _ ha).imp fun σ H Q hpat => by
 obtain ⟨F0, H0, F, ρ, d, rl, e, q⟩ := hpat
 unfold m5 at e
 cases h1 : m ρ with
 | none => rw [h1] at e; cases e
 | some ds =>
  rw [h1] at e
  refine ⟨F0, H0, F, ρ, ds, rl, h1, fun vs F1 H1 x1 r1 => ?_⟩
  dsimp only [Option.bind] at e
  show spR X.K n mf (vs ++ []) H1 Q E
  rw [append_nil]
  refine ⟨by rw [r1.length, hm ρ ds h1, hl], F1, ds, ?_⟩
  split at e
  ·rename_i d' h2
   cases e
   exact ⟨_, x1.fh, r1, h2, fun v F2 H2 x2 r2 => q v F2 H2 (x1.trans x2) r2⟩
  ·rename_i es' h2
   cases e
   exact ⟨_, x1.fh, r1, h2, fun p xs F2 H2 x2 hp hF hH r2 => q _ (upd F2 p (.lst xs)) H2 (x1.trans (x2.freeze hF hp hH)) (.lst (SqL.of w9) (r2.mono ((Same.refl F2).put hF)))⟩
  ·rename_i d' es' h2
   cases e
   refine ⟨_, x1.fh, r1, h2, fun t v p xs F2 H2 x2 ht hp hne hFt hFp hHt hHp rv rs => ?_⟩
   have x3 := x2.freeze hFp hp hHp
   have hFt' : upd F2 p (.lst xs) t = none := by rw [w8 hne]; exact hFt
   have s2 : Same F2 (upd F2 p (.lst xs)) := (Same.refl F2).put hFp
   have s3 : Same (upd F2 p (.lst xs)) (upd (upd F2 p (.lst xs)) t (.tup [v, .ref p])) := (Same.refl _).put hFt'
   exact q _ (upd (upd F2 p (.lst xs)) t (.tup [v, .ref p])) H2 (x1.trans (x3.freeze hFt' ht hHt)) (.tup (SqT.of w9) (.cons (rv.mono (s2.trans s3)) (.cons (.lst (SqL.of (by rw [w8 (Ne.symm hne)]; exact w9)) (rs.mono (s2.trans s3))) .nil)))
  ·cases e
theorem zf5 {n : Nat} (h : ∀ t, PA X es t -> PE X e (yy0 (spR X.K n mf) [] E t)) (hl : es.length = n) (ha : PAs X es m) (hm : ∀ ρ ds, m ρ = some ds -> ds.length = es.length) : PF X e (N1 mf m) := (h _ ha).imp fun σ H Q hpat => by
 obtain ⟨F0, H0, F, ρ, d, rl, e, q⟩ := hpat
 unfold N1 at e
 cases h1 : m ρ with
 | none => rw [h1] at e; cases e
 | some ds =>
  rw [h1] at e
  refine ⟨F0, H0, F, ρ, ds, rl, h1, fun vs F1 H1 x1 r1 => ?_⟩
  dsimp only [Option.bind] at e
  show spR X.K n mf (vs ++ []) H1 Q E
  rw [append_nil]
  refine ⟨by rw [r1.length, hm ρ ds h1, hl], F1, ds, ?_⟩
  split at e
  ·rename_i es' h2
   cases e
   exact ⟨_, x1.fh, r1, h2, fun p xs F2 H2 x2 hp hF hH r2 => q p xs F2 H2 (x1.trans x2) (x1.hh.free hp) hF hH r2⟩
  ·cases e
theorem w5 (ρ : Ro) (ds : List D) (h : anil ρ = some ds) : ds.length = 0 := by cases h; rfl
theorem z8 {x : ME} {r : ML} {n : Nat} (hr : ∀ ρ ds, r ρ = some ds -> ds.length = n) (ρ : Ro) (ds : List D) (h : z7 x r ρ = some ds) : ds.length = n + 1 := by
 obtain ⟨d, es, _, h2, rfl⟩ := C0 h
 rw [length_cons, hr ρ es h2]
end
end
section
section
variable {X : Cx} {a b c e : Expr} {ma mb : ME} {pos : Pos}
def bl2 (g : Bool -> Bool -> Bool) : D -> D -> Option D
 | .bl i, .bl j => some (.bl (g i j))
 | _, _ => none
theorem zx3 {K : W.Frag} {F : Hp} : ∀ ns : List Int, Reps K F (ns.map V.int) (ns.map D.int)
 | [] => .nil
 | n :: ns => .cons (.int n) (zx3 ns)
theorem yj7 {K : W.Frag} {m : MF} (h : ∀ ns : List Int, ns.length <= 63 -> m [.lst (ns.map .int)] = some (.sh (.bl true))) (H : Hp) (a : Addr) (ns : List Int) (hl : ns.length <= 63) (hS : SqL K H a (ns.map V.int)) (E : XK) :
  spR K 1 m [.ref a] H (fun v _ => v = .bl true) E :=
 ⟨rfl, H, _, _, Same.refl H, .cons (.lst hS (zx3 ns)) .nil, h ns hl, fun v F' H' _ r => by cases r; rfl⟩
end
end
section
def ya5 (fsc : Scope) (fN : List Str) (sc : Scope) (N : List Str) (src : List (Option Nat)) : Bool :=
 (sc.kind == .function) && sc.names.all (fun y => y.2 != .cell) && sc.names.all (fun y => y.2 != .local || sc.names.lookup y.1 == some .local)
  && sc.names.all (fun y => y.2 != .free || (fsc.names.lookup y.1 == some .cell || fsc.names.lookup y.1 == some .free)) && (src.length == N.length)
  && (List.range src.length).all fun j => match src[j]? with
   | some (some i) => match N[j]? with
    | some x => fN[i]? == some x && sc.names.lookup x == some .free
    | none => false
   | _ => true
theorem zt1 {X : Cx} {sc : Scope} {N : List Str} {src : List (Option Nat)} (fsc : Scope) (fN : List Str) (h1 : X.env.scope = fsc) (h2 : X.N = fN) (h : ya5 fsc fN sc N src = true) : Blk X sc N src := by
 unfold ya5 at h
 simp only [Bool.and_eq_true, all_eq_true, beq_iff_eq, Bool.or_eq_true, bne_iff_ne, ne_eq] at h
 obtain ⟨⟨⟨⟨⟨a1, a2⟩, a3⟩, a4⟩, a5⟩, a6⟩ := h
 refine ⟨a1, a2, fun y hy hk => ?_, fun y hy hk => ?_, fun j i e => ?_, a5⟩
 ·rcases a3 y hy with z | z
  ·exact absurd hk z
  ·exact z
 ·have k : ∀ x, X.env.kindOf x = fsc.names.lookup x := fun x => by rw [<- h1]; rfl
  rw [k]
  rcases a4 y hy with z | z
  ·exact absurd hk z
  ·exact z
 ·have hj : j < src.length := (List.getElem?_eq_some_iff.mp e).1
  have := a6 j (List.mem_range.mpr hj)
  rw [e] at this
  simp only at this
  cases hx : N[j]? with
  | none => rw [hx] at this; cases this
  | some x =>
   rw [hx] at this
   simp only [Bool.and_eq_true, beq_iff_eq] at this
   exact ⟨x, rfl, by rw [h2]; exact this.1, this.2⟩
end
section
theorem Y9 {X : Cx} {a : Expr} {ml : ML} {lo hi : Option Expr} {l h : MO} {p2 pos : Pos} (ha : PB X a ml) (hl : POs X lo l) (hh : POs X hi h) : PF X (.Subscript a (.Slice lo hi none p2) pos) (mcut ml l h) := yh5 ha hl hh (yx2 yr9 ha hl hh)
end
section
def zipE (f : D -> D -> Option Bool) : List D -> List D -> Option Bool
 | d :: ds, e :: es => (f d e).bind fun a => (zipE f ds es).bind fun b => some (a && b)
 | _, _ => some true
def eqF : Nat -> D -> D -> Option Bool
 | 0, _, _ => none
 | n + 1, .lst ds, .lst es => if ds.length = es.length then zipE (eqF n) ds es else some false
 | n + 1, .tup ds, .tup es => (zipE (eqF n) ds es).map fun b => b && ds.length == es.length
 | _ + 1, d, e => eqS d e
theorem C2 {f : D -> D -> Option Bool} : ∀ {ds es : List D} {k : Bool}, zipE f ds es = some k -> ∃ g : Nat -> Bool, (∀ j d e, ds[j]? = some d -> es[j]? = some e -> f d e = some (g j)) /\ k = (List.range (min ds.length es.length)).all g
 | [], es, k, h => by
  have h : some true = some k := by simpa [zipE] using h
  cases h
  exact ⟨fun _ => true, by simp, by simp⟩
 | _ :: _, [], k, h => by
  have h : some true = some k := by simpa [zipE] using h
  cases h
  exact ⟨fun _ => true, by simp, by simp⟩
 | d :: ds, e :: es, k, h => by
  unfold zipE at h
  cases h1 : f d e with
  | none => rw [h1] at h; cases h
  | some a =>
   rw [h1] at h
   cases h2 : zipE f ds es with
   | none => rw [h2] at h; cases h
   | some b =>
    rw [h2] at h
    have h : some (a && b) = some k := h
    cases h
    obtain ⟨g, q1, q2⟩ := C2 h2
    refine ⟨fun j => match j with | 0 => a | j + 1 => g j, ?_, ?_⟩
    ·intro j d' e' hd he
     cases j with
     | zero => simp at hd he; subst hd he; exact h1
     | succ j => exact q1 j d' e' (by simpa using hd) (by simpa using he)
    ·rw [q2, length_cons, length_cons, Nat.add_min_add_right, range_succ_eq_map, all_cons, all_map]
     rfl
section
variable {X : Cx} {pins : List (Addr × Obj)} {σ : St} {H : Hp} {s : Shared}
theorem Inv.xat (I : Inv X pins σ H s) {a C : Addr} (h : H a = some (.ext (XAt a C))) : XAt a C s.heap := (show ObjOk X.prog X.w H s.heap a (.ext (XAt a C)) from I.hok a _ h).1
theorem K0 {f : D -> D -> Option Bool} (hf : ∀ {v : V} {d e : D} {k : Bool}, Rep X.K H v d -> Rep X.K H v e -> f d e = some k -> k = true) : ∀ {vs : List V} {ds es : List D} {k : Bool}, Reps X.K H vs ds -> Reps X.K H vs es -> zipE f ds es = some k -> k = true
 | _, _, _, _, .nil, .nil, h => by simp [zipE] at h; exact h
 | _ :: _, d :: ds, e :: es, k, .cons r1 s1, .cons r2 s2, h => by
  unfold zipE at h
  cases h1 : f d e with
  | none => rw [h1] at h; cases h
  | some a =>
   rw [h1] at h
   cases h2 : zipE f ds es with
   | none => rw [h2] at h; cases h
   | some b =>
    rw [h2] at h
    have h : some (a && b) = some k := h
    cases h
    rw [hf r1 r2 h1, K0 hf s1 s2 h2]; rfl
theorem Rep.eqT (I : Inv X pins σ H s) : ∀ (n : Nat) {v : V} {d e : D} {k : Bool}, Rep X.K H v d -> Rep X.K H v e -> eqF n d e = some k -> k = true
 | 0, _, _, _, _, _, _, h => by simp [eqF] at h
 | n + 1, v, d, e, k, r1, r2, h => by
  cases r1 with
  | non => cases r2; exact (Option.some.inj (show some true = some k from h)).symm
  | bl b => cases r2; exact (Option.some.inj (show some (b == b) = some k from h)).symm.trans (beq_self_eq_true b)
  | int b => cases r2; exact (Option.some.inj (show some (b == b) = some k from h)).symm.trans (beq_self_eq_true b)
  | str b => cases r2; exact (Option.some.inj (show some (b == b) = some k from h)).symm.trans (beq_self_eq_true b)
  | lst sq rs =>
   cases r2 with
   | lst sq2 rs2 =>
    have e := I.list_inj sq sq2
    subst e
    simp only [eqF] at h
    split at h
    ·exact K0 (fun a b c => Rep.eqT I n a b c) rs rs2 h
    ·rename_i hl; exact absurd (rs.length.symm.trans rs2.length) hl
   | _ => cases h
  | tup sq rs =>
   cases r2 with
   | tup sq2 rs2 =>
    have e := I.tuple_inj sq sq2
    subst e
    simp only [eqF] at h
    cases hz : zipE (eqF n) _ _ with
    | none => rw [hz] at h; cases h
    | some kk =>
     rw [hz] at h
     have h := Option.some.inj h
     rw [<- h, K0 (fun a b c => Rep.eqT I n a b c) rs rs2 hz, rs.length.symm.trans rs2.length]
     simp
   | _ => cases h
  | _ => cases h
open PySem.SeqAt in
theorem ya3 {K : W.Frag} {H : Hp} {A : Around} {s : Shared} {x y : V} {v u : Value} {d e : D} {k : Bool} (r1 : Rep K H x d) (r2 : Rep K H y e) (q1 : RelV x v) (q2 : RelV y u) (h : eqS d e = some k) : EqAt A s v u k /\ RcAt A s v u k /\ RcNeAt A s v u (!k) := by
 obtain ⟨k', hk'⟩ := zr6 d e k h
 rw [zj4 h r1] at q1
 rw [zj4 hk' r2] at q2
 clear r1 r2 hk'
 cases d with
 | non =>
  cases q1
  cases e with
  | non => cases q2; cases h; exact ⟨EqAt.same _, .none_none, .none_none⟩
  | bl b => cases q2; cases h; exact ⟨.none_bool _, .none_bool _, .none_bool _⟩
  | int b => obtain ⟨t, rfl⟩ := q2; cases h; exact ⟨.none_int _ _, .none_int _ _, .none_int _ _⟩
  | str b => obtain ⟨t, rfl⟩ := q2; cases h; exact ⟨.none_str _ _, .none_str _ _, .none_str _ _⟩
  | _ => cases h
 | bl i =>
  cases q1
  cases e with
  | non => cases q2; cases h; exact ⟨.bool_none _, .bool_none _, .bool_none _⟩
  | bl b => cases q2; cases h; exact ⟨.bool_bool _ _, .bool_bool _ _, .bool_bool _ _⟩
  | str b => obtain ⟨t, rfl⟩ := q2; cases h; exact ⟨.bool_str _ _ _, .bool_str _ _ _, .bool_str _ _ _⟩
  | _ => cases h
 | int i =>
  obtain ⟨t0, rfl⟩ := q1
  cases e with
  | non => cases q2; cases h; exact ⟨.int_none _ _, .int_none _ _, .int_none _ _⟩
  | int b => obtain ⟨t, rfl⟩ := q2; cases h; exact ⟨.int_int _ _ _ _, .int_int _ _ _ _, .int_int _ _ _ _⟩
  | str b => obtain ⟨t, rfl⟩ := q2; cases h; exact ⟨.int_str _ _ _ _, .int_str _ _ _ _, .int_str _ _ _ _⟩
  | _ => cases h
 | str i =>
  obtain ⟨t0, rfl⟩ := q1
  cases e with
  | non => cases q2; cases h; exact ⟨.str_none _ _, .str_none _ _, .str_none _ _⟩
  | bl b => cases q2; cases h; exact ⟨.str_bool _ _ _, .str_bool _ _ _, .str_bool _ _ _⟩
  | int b => obtain ⟨t, rfl⟩ := q2; cases h; exact ⟨.str_int _ _ _ _, .str_int _ _ _ _, .str_int _ _ _ _⟩
  | str b => obtain ⟨t, rfl⟩ := q2; cases h; exact ⟨.str_str _ _ _ _, .str_str _ _ _ _, .str_str _ _ _ _⟩
  | _ => cases h
 | _ => cases h
theorem ym6 {n : Nat} {d e : D} {k : Bool} (h : eqF (n + 1) d e = some k) : eqS d e = some k \/ (∃ ds es, d = .lst ds /\ e = .lst es /\ (if ds.length = es.length then zipE (eqF n) ds es else some false) = some k) \/ ∃ ds es kk, d = .tup ds /\ e = .tup es /\ zipE (eqF n) ds es = some kk /\ (kk && ds.length == es.length) = k := by
 cases d with
 | lst ds =>
  cases e with
  | lst es => exact .inr (.inl ⟨ds, es, rfl, rfl, h⟩)
  | _ => exact .inl h
 | tup ds =>
  cases e with
  | tup es =>
   have h : ((zipE (eqF n) ds es).map fun b => b && ds.length == es.length) = some k := h
   cases hz : zipE (eqF n) ds es with
   | none => rw [hz] at h; cases h
   | some kk => rw [hz] at h; exact .inr (.inr ⟨ds, es, kk, rfl, rfl, hz, Option.some.inj h⟩)
  | _ => exact .inl h
 | _ => exact .inl h
theorem zp8 {K : W.Frag} {H : Hp} {A : Around} {s : Shared} {n : Nat} {xs ys : List V} {ds es : List D} {its its2 : List Value} {g : Nat -> Bool} (ih : ∀ {x y : V} {v u : Value} {d e : D} {k : Bool}, Rep K H x d -> Rep K H y e -> RelV x v -> RelV y u -> eqF n d e = some k -> PySem.SeqAt.EqAt A s v u k) (rs : Reps K H xs ds) (rs2 : Reps K H ys es) (vr : Vals xs its) (vr2 : Vals ys its2)
  (g1 : ∀ (j : Nat) d e, ds[j]? = some d -> es[j]? = some e -> eqF n d e = some (g j)) (j : Nat) (h1 : j < its.toArray.size) (h2 : j < its2.toArray.size) : PySem.SeqAt.EqAt A s its.toArray[j] its2.toArray[j] (g j) := by
 have z1 : its.length = ds.length := by rw [<- vr.length, rs.length]
 have z2 : its2.length = es.length := by rw [<- vr2.length, rs2.length]
 simp only [size_toArray] at h1 h2
 obtain ⟨d', hd'⟩ : ∃ d', ds[j]? = some d' := ⟨_, getElem?_eq_getElem (z1 ▸ h1)⟩
 obtain ⟨e', he'⟩ : ∃ e', es[j]? = some e' := ⟨_, getElem?_eq_getElem (z2 ▸ h2)⟩
 obtain ⟨v', hv', rv'⟩ := rs.get hd'
 obtain ⟨u', hu', ru'⟩ := rs2.get he'
 obtain ⟨p, hp, rp⟩ := vr.get hv'
 obtain ⟨p2, hp2, rp2⟩ := vr2.get hu'
 have e1 : its.toArray[j] = p := by
  rw [getElem?_eq_getElem h1] at hp
  simpa using hp
 have e2 : its2.toArray[j] = p2 := by
  rw [getElem?_eq_getElem h2] at hp2
  simpa using hp2
 rw [e1, e2]
 exact ih rv' ru' rp rp2 (g1 j d' e' hd' he')
open PySem.SeqAt in
theorem zc8 (I : Inv X pins σ H s) : ∀ (n : Nat) {A : Around} {x y : V} {v u : Value} {d e : D} {k : Bool}, A.units + n < cLine -> Rep X.K H x d -> Rep X.K H y e -> RelV x v -> RelV y u -> eqF n d e = some k -> EqAt A s v u k /\ RcAt A s v u k /\ RcNeAt A s v u (!k)
 | 0, A, x, y, v, u, d, e, k, hu, r1, r2, q1, q2, h => by simp [eqF] at h
 | n + 1, A, x, y, v, u, d, e, k, hu, r1, r2, q1, q2, h => by
  have hu0 : A.units < cLine := by omega
  have hu1 : A.in1.units + n < cLine := by show A.units + 1 + n < cLine; omega
  rcases ym6 h with h1 | ⟨ds, es, rfl, rfl, h1⟩ | ⟨ds, es, kk, rfl, rfl, hz, hk⟩
  ·exact ya3 r1 r2 q1 q2 h1
  ·obtain ⟨a, xs, rfl, sq, rs⟩ := r1.l'
   obtain ⟨b, ys, rfl, sq2, rs2⟩ := r2.l'
   cases q1; cases q2
   obtain ⟨its, vr, ⟨o, m, ho, hc, _, hd⟩, _⟩ := I.list sq
   obtain ⟨its2, vr2, ⟨o2, m2, ho2, hc2, _, hd2⟩, _⟩ := I.list sq2
   have L1 : s.heap.IsList a its.toArray := ⟨o, ho, hc, m, hd⟩
   have L2 : s.heap.IsList b its2.toArray := ⟨o2, ho2, hc2, m2, hd2⟩
   clear ho hc hd ho2 hc2 hd2
   have z1 : its.length = ds.length := by rw [<- vr.length, rs.length]
   have z2 : its2.length = es.length := by rw [<- vr2.length, rs2.length]
   have main : RcAt A s (.ref a) (.ref b) k /\ RcNeAt A s (.ref a) (.ref b) (!k) := by
    by_cases hl : ds.length = es.length
    ·rw [if_pos hl] at h1
     obtain ⟨g, g1, g2⟩ := C2 h1
     have he := zp8 (fun a b c d e => (zc8 I n hu1 a b c d e).1) rs rs2 vr vr2 g1
     have hz : its.toArray.size = its2.toArray.size := by simp only [size_toArray]; rw [z1, z2, hl]
     have hk : k = (List.range its.toArray.size).all g := by
      rw [g2]; simp only [size_toArray]; rw [z1, hl, Nat.min_self]
     rw [hk]
     exact ⟨.lists L1 L2 hz hu0 he, .lists L1 L2 hz hu0 he⟩
    ·rw [if_neg hl] at h1
     cases h1
     have hz : (its.toArray.size != its2.toArray.size) = true := by simp only [size_toArray]; rw [z1, z2]; exact bne_iff_ne.mpr hl
     exact ⟨.lists_lengths L1 L2 hz hu0, .lists_lengths L1 L2 hz hu0⟩
   refine ⟨?_, main⟩
   by_cases hab : a = b
   ·subst hab
    rw [Rep.eqT I (n + 1) (.lst sq rs) (.lst sq2 rs2) h]
    exact EqAt.same _
   ·exact .of_refs hab main.1
  ·obtain ⟨a, xs, rfl, sq, rs⟩ := r1.t'
   obtain ⟨b, ys, rfl, sq2, rs2⟩ := r2.t'
   cases q1; cases q2
   obtain ⟨its, vr, ⟨o, ho, hc, m, hd⟩, _⟩ := I.tuple sq
   obtain ⟨its2, vr2, ⟨o2, ho2, hc2, m2, hd2⟩, _⟩ := I.tuple sq2
   have L1 : s.heap.IsTuple a its.toArray := ⟨o, ho, hc, m, hd⟩
   have L2 : s.heap.IsTuple b its2.toArray := ⟨o2, ho2, hc2, m2, hd2⟩
   clear ho hc hd ho2 hc2 hd2
   have z1 : its.length = ds.length := by rw [<- vr.length, rs.length]
   have z2 : its2.length = es.length := by rw [<- vr2.length, rs2.length]
   have main : RcAt A s (.ref a) (.ref b) k /\ RcNeAt A s (.ref a) (.ref b) (!k) := by
    obtain ⟨g, g1, g2⟩ := C2 hz
    have he := zp8 (fun a b c d e => (zc8 I n hu1 a b c d e).1) rs rs2 vr vr2 g1
    have hk : k = ((List.range (min its.toArray.size its2.toArray.size)).all g && its.toArray.size == its2.toArray.size) := by
     rw [<- hk, g2]; simp only [size_toArray]; rw [z1, z2]
    rw [hk]
    exact ⟨.tuples L1 L2 hu0 he, .tuples L1 L2 hu0 he⟩
   refine ⟨?_, main⟩
   by_cases hab : a = b
   ·subst hab
    rw [Rep.eqT I (n + 1) (.tup sq rs) (.tup sq2 rs2) h]
    exact EqAt.same _
   ·exact .of_refs hab main.1
end
end
section
section
variable {X : Cx} {a b c e : Expr} {ma mb : ME} {la lb : ML} {pos : Pos}
def rEqF (K : W.Frag) (neg : Bool) : R2 := fun x y H Q => ∃ d e k, Rep K H x d /\ Rep K H y e /\ eqF 8 d e = some k /\ Q (.bl (if neg then !k else k)) H
theorem yt4 (hu : X.A.units + 64 < cLine) : OpR X (compareOp .Eq) (rEqF X.K false) := by
 intro pins s σ H x y v u Q I rx ry h
 obtain ⟨d, e, k, r1, r2, h, q⟩ := h
 exact (zc8 I 8 (by omega) r1 r2 rx ry h).2.1 X.prog X.w _ _ ⟨.bl k, H, I, rfl, q⟩
theorem D0 (hu : X.A.units + 64 < cLine) : OpR X (compareOp .NotEq) (rEqF X.K true) := by
 intro pins s σ H x y v u Q I rx ry h
 obtain ⟨d, e, k, r1, r2, h, q⟩ := h
 exact (zc8 I 8 (by omega) r1 r2 rx ry h).2.2 X.prog X.w _ _ ⟨.bl (!k), H, I, rfl, q⟩
def eqFD (neg : Bool) (d e : D) : Option D := (eqF 8 d e).map fun k => .bl (if neg then !k else k)
@[irreducible] def meqB (neg : Bool) (x y : ML) : ME := fun ρ => (x ρ).bind fun ds => (y ρ).bind fun es => eqFD neg (.lst ds) (.lst es)
theorem xw8 {neg : Bool} {σ : St} {H : Hp} {Q : VK} (h : TD X.K (meqB neg la lb) σ H Q) : tOp (rEqF X.K neg) (TB X.K la) (TB X.K lb) σ H Q := by
 obtain ⟨F0, H0, F, ρ, g, rl, e, q⟩ := h
 unfold meqB at e
 cases h1 : la ρ with
 | none => rw [h1] at e; cases e
 | some ds =>
  cases h2 : lb ρ with
  | none => rw [h1, h2] at e; cases e
  | some es =>
   rw [h1, h2] at e
   have e : eqFD neg (.lst ds) (.lst es) = some g := e
   refine ⟨F0, H0, F, ρ, ds, rl, h1, fun p xs F1 H1 x1 s1 r1 => ⟨F0, H0, F1, ρ, es, rl.go x1, h2, fun p2 xs2 F2 H2 x2 s2 r2 => ?_⟩⟩
   unfold eqFD at e
   cases hk : eqF 8 (.lst ds) (.lst es) with
   | none => rw [hk] at e; cases e
   | some k =>
    rw [hk] at e; cases e
    exact ⟨_, _, k, .lst (x2.hh.seq s1) (r1.mono (x2.ff.trans x2.fh)), .lst s2 (r2.mono x2.fh), hk, q _ F2 H2 (x1.trans x2) (.bl _)⟩
theorem O6 {op : CmpOp} {neg : Bool} (ho : OpR X (compareOp op) (rEqF X.K neg)) (ha : PB X a la) (hb : PB X b lb) (hm : behindInMarks op b = false) : PC' X (.Compare a [op] [b] pos) (l6 (meqB neg la lb)) := (zg4 ho ha hb hm).imp fun σ H Q hpat => by
 obtain ⟨F0, H0, F, ρ, g, rl, e, q⟩ := hpat
 unfold l6 at e
 split at e
 ·rename_i k hk
  cases e
  refine xw8 ⟨F0, H0, F, ρ, .bl g, rl, hk, fun v F' H' x r => ?_⟩
  cases r
  exact ⟨_, rfl, q F' H' x⟩
 ·cases e
def tyD : D -> String
 | .non => "NoneType" | .bl _ => "bool" | .int _ => "int" | .str _ => "str" | .lst _ => "list" | .tup _ => "tuple" | .exc _ => "?" | .ptr _ => "?" | .obj _ _ _ => "?"
def kitB (t c : String) : Option Bool := if t = "?" then none else if (Value.type t == Value.type c) = true then some true else if W.kitMeta c = true then (fastBuiltinMro t).map (·.contains (Value.type c)) else none
theorem yc1 {K : W.Frag} {t c : String} {k : Bool} (h : kitB t c = some k) : t ≠ "?" /\ W.kitOne K (.type t) (.type c) = some k := by
 unfold kitB at h
 split at h
 ·cases h
 ·rename_i z; exact ⟨z, h⟩
theorem ym0 {pins : List (Addr × Obj)} {σ : St} {H : Hp} {s : Shared} {A : Around} {E : Value -> Shared -> Prop} {Q : Value -> Shared -> Prop} {c : Value} {k : Bool} {x : V} {d : D} {u : Value} (I : Inv X pins σ H s) (rx : RelV x u) (r : Rep X.K H x d)
  (e : tyD d ≠ "?" /\ W.kitOne X.K (.type (tyD d)) c = some k) (h : ∀ tk, Q (.bool k) { s with toks := tk }) : wpAny (model X.prog X.w) A (call (.builtin "isinstance") [u, c]) Q E s := by
 obtain ⟨hz, e⟩ := e
 cases r with
 | exc _ _ => exact absurd rfl hz
 | ptr _ => exact absurd rfl hz
 | obj _ _ _ _ _ => exact absurd rfl hz
 | non => exact Q2 I rx .non e h
 | bl y => exact Q2 I rx (.bl y) e h
 | int i => exact Q2 I rx (.int i) e h
 | str y => exact Q2 I rx (.str y) e h
 | lst sq rs =>
  cases rx
  obtain ⟨its, vr, ⟨o, m, ho, hc, _, hd⟩, _⟩ := I.list sq
  exact W.kia_one W.kitx_list I.kIn ⟨_, ho, hc⟩ e (fun z => nomatch z) h
 | tup sq rs =>
  cases rx
  obtain ⟨its, vr, ⟨o, ho, hc, m, hd⟩, _⟩ := I.tuple sq
  exact W.kia_one W.kitx_tuple I.kIn ⟨_, ho, hc⟩ e (fun z => nomatch z) h
def rIsi (K : W.Frag) (c : String) : List V -> Hp -> VK -> Prop := fun vs H Q => ∃ x d k, vs = [x, .ty c] /\ Rep K H x d /\ kitB (tyD d) c = some k /\ Q (.bl k) H
theorem yu2 {c : String} : J7 X (.builtin "isinstance") (rIsi X.K c) := by
 intro pins s σ H xs us Q I r h
 obtain ⟨x, d, k, rfl, rd, e, q⟩ := h
 obtain ⟨u, w, rfl, rx, ry⟩ := zi6 r
 cases ry
 exact ym0 I rx rd (yc1 e) fun tk => ⟨.bl k, H, I.tok _, rfl, q⟩
@[irreducible] def misi (c : String) (m : ME) : ME := fun ρ => (m ρ).bind fun d => (kitB (tyD d) c).map .bl
theorem yg7 {c : Str} {C : String} {p p2 : Pos} (hg : Gl X "isinstance") (hm : X.mg "isinstance" = none) (hgc : Gl X c) (hmc : X.mg c = none) (hv : bootBuiltins c = some (.type C)) (ha : PD X a ma)
  (hn : c ≠ "__name__" := by decide) (hd : (c == ("__debug__" : Str)) = false := by decide)
  (hs : starEach (a :: [.Name c p2]) X.env = (false, eval a X.env) :: starEach [.Name c p2] X.env := by rfl) (hs2 : starEach [.Name c p2] X.env = (false, eval (.Name c p2) X.env) :: starEach [] X.env := by rfl)
  (hpl : (backTo pos (starEach [.Name c p2] X.env)).any (·.1) = false := by rfl) : PD X (.Call (.Name "isinstance" p) [a, .Name c p2] [] pos) (misi C ma) :=
 (Y3 (yu2 (c := C)) hg hm PyProof.Rows.boot_isinstance (X0 ha (X0 (zf6 (v := .ty C) hgc hmc hv rfl hn hd) pa_nil hs2) hs) (by decide) (by decide) hs hpl).imp fun σ H Q hpat => by
  obtain ⟨F0, H0, F, ρ, g, rl, e, q⟩ := hpat
  unfold misi at e
  cases h1 : ma ρ with
  | none => rw [h1] at e; cases e
  | some d =>
   rw [h1] at e
   have e : (kitB (tyD d) C).map D.bl = some g := e
   cases h2 : kitB (tyD d) C with
   | none => rw [h2] at e; cases e
   | some k =>
    rw [h2] at e; cases e
    exact ⟨F0, H0, F, ρ, d, rl, h1, fun v F1 H1 x1 r1 => ⟨v, d, k, rfl, r1.mono x1.fh, h2, q _ F1 H1 x1 (.bl _)⟩⟩
end
end
section
theorem Q4 (its : List Value) : ∀ js : List Nat, (∀ j ∈ js, j < its.length) -> js.filterMap (its.toArray[·]?) = js.map fun j => its.getD j Value.none
 | [], _ => rfl
 | j :: js, h => by
  have hj := h j (by simp)
  have e : its.toArray[j]? = some (its.getD j Value.none) := by simp [getD_eq_getElem?_getD, hj]
  rw [filterMap_cons, e, map_cons, Q4 its js fun k hk => h k (by simp [hk])]
theorem C5 (its : List Value) : slicePick its.toArray none none (some (-1)) = its.reverse.toArray := by
 have hb : sliceBounds none none (some (-1)) its.toArray.size = ((its.length : Int) - 1, -1, -1) := by
  simp [sliceBounds]
 have hr : sliceRange ((its.length : Int) - 1) (-1) (-1) = (List.range its.length).map fun (k : Nat) => ((its.length : Int) - 1 + -1 * (k : Int)).toNat := by
  unfold sliceRange
  have : (if (-1 : Int) > 0 then (if (its.length : Int) - 1 < -1 then (-1 - ((its.length : Int) - 1) + -1 - 1) / -1 else 0) else (if (its.length : Int) - 1 > -1 then ((its.length : Int) - 1 - -1 - -1 - 1) / (- -1) else 0)) = (its.length : Int) := by
   rw [if_neg (by decide)]
   split
   ·rw [show (- -1 : Int) = 1 by decide, Int.ediv_one]; omega
   ·omega
  simp only [this, Int.toNat_natCast]
 unfold slicePick
 rw [hb]
 show ((sliceRange ((its.length : Int) - 1) (-1) (-1)).filterMap (its.toArray[·]?)).toArray = _
 rw [hr, Q4]
 ·congr 1
  apply ext_getElem
  ·simp
  ·intro i h1 h2
   simp only [length_map, length_range] at h1
   simp only [getElem_map, getElem_range, getElem_reverse]
   have e : ((its.length : Int) - 1 + -1 * (i : Int)).toNat = its.length - 1 - i := by omega
   rw [e]
   simp [getD_eq_getElem?_getD, show its.length - 1 - i < its.length by omega]
 ·intro j hj
  simp only [mem_map, mem_range] at hj
  obtain ⟨k, hk, rfl⟩ := hj
  omega
section
variable {X : Cx} {a b c e k : Expr} {te : TE} {ma mb : ME} {la lb : ML} {pos p2 : Pos} {st : Stmt}
def tRev (K : W.Frag) (te : TE) (tk : TO) : TE := fun σ H Q => te σ H fun x H1 => tk σ H1 fun o H2 => o = some (-1) /\ ∃ a xs, x = .ref a /\ SqL K H2 a xs /\ ∀ p, H2 p = none -> Q (.ref p) (upd H2 p (.lst xs.reverse))
theorem yh8 {ko : Option Expr} {tk : TO} (he : PE X e te) (hk : PO X ko tk) (hsub : ∀ v i : Value, subscripted (.Slice none none ko p2) false v i = operate [v, i] (getItem v i)) : PE X (.Subscript e (.Slice none none ko p2) pos) (tRev X.K te tk) := by
 intro pins s σ H Q I h
 refine Subscript_ (thn (he pins s σ H _ I h) fun v s1 hpat => ?_)
 obtain ⟨x, H1, I1, r1, q1⟩ := hpat
 refine wpAny_Slice ?_
 rw [evalPart_none]
 refine wpAny_pure (wpAny_pure (thn (hk pins s1 σ H1 _ I1 q1) fun vk s3 hpat => ?_))
 obtain ⟨o, H3, I3, pk, eo, a, xs, ex, hx, q⟩ := hpat
 subst eo ex
 cases r1
 have I4 : Inv X pins σ H3 { s3 with heap := s3.heap.push { cls := .type "slice", data := .fields #[.none, .none, vk] } } := I3.kept (t' := s3.toks) fun b ob q => Heap.get?_push_of_some _ q
 obtain ⟨its, r, ht, hz⟩ := I4.list hx
 have hlen := r.length
 show wpAny (model X.prog X.w) X.A (subscriptTail e (.Slice none none ko p2) (.ref a) (.ref s3.heap.objs.size)) (EP X pins σ Q) X.xe { s3 with heap := s3.heap.push { cls := .type "slice", data := .fields #[.none, .none, vk] } }
 refine tail_any (ops := [.ref a, .ref s3.heap.objs.size]) ht.isList.typeIs slot_list_getitem.lookup ?_ (hsub _ _)
 refine wpAny_getItem_list_slice ht.isList (Heap.IsSliceOf.new ..) .none .none pk (by simp) ?_ (by rw [size_toArray] <;> omega)
 rw [C5]
 refine ⟨.ref _, _, I4.laid (t' := s3.toks) (o := .lst xs.reverse) (fun b ob q => Heap.get?_push_of_some _ q) (Nat.le_refl _) ?_, rfl, q _ (I4.hok.fresh (Nat.le_refl _))⟩
 refine ⟨by rw [length_reverse]; exact hz, _, 0, ?_, Heap.get?_push_size _ rfl⟩
 exact Vals.reverse r
@[irreducible] def mrev (m : ML) (k : MO) : ML := fun ρ => (m ρ).bind fun ds => match k ρ with | some (some (-1)) => some ds.reverse | _ => none
theorem yh3 {ko : Option Expr} {mk : MO} (ha : PB X a la) (hk : POs X ko mk) (hsub : ∀ v i : Value, subscripted (.Slice none none ko p2) false v i = operate [v, i] (getItem v i) := by intro _ _; with_unfolding_all rfl) : PF X (.Subscript a (.Slice none none ko p2) pos) (mrev la mk) := (yh8 ha hk hsub).imp fun σ H Q hpat => by
 obtain ⟨F0, H0, F, ρ, g, rl, e, q⟩ := hpat
 unfold mrev at e
 cases h1 : la ρ with
 | none => rw [h1] at e; cases e
 | some ds =>
  rw [h1] at e
  dsimp only [Option.bind] at e
  split at e
  ·rename_i h2
   cases e
   refine ⟨F0, H0, F, ρ, ds, rl, h1, fun p xs F1 H1 x1 s1 r1 => ⟨F0, H0, F1, ρ, _, rl.go x1, h2, fun F2 H2 x2 => ⟨rfl, p, xs, rfl, x2.hh.seq s1, fun w hw => ?_⟩⟩⟩
   have xx := x1.trans x2
   exact q w _ F2 _ (xx.trans (Ext.own x2.fh hw)) (xx.hh.free hw) (x2.fh.free hw) w9 (r1.mono x2.ff).reverse
  ·cases e
@[irreducible] def A8 (i : Nat) (ix iy v : ME) : MS := fun ρ => (v ρ).bind fun d => match d with
 | .tup [d1, d2] => match ρ[i]? with
  | some (some (.own ds)) => (ix ρ).bind fun x => match x with
   | .int k => (ixN ds.length k).bind fun j => (iy (ρ.set i (some (.own (ds.set j d1))))).bind fun y => match y with
    | .int k2 => (ixN ds.length k2).map fun j2 => .nx (ρ.set i (some (.own ((ds.set j d1).set j2 d2))))
    | _ => none
   | _ => none
  | _ => none
 | _ => none
theorem zk0 {i : Nat} {mx my : ME} (hE : PS X st (tAsg (TD X.K mb) (gTup X.K 2 (yv7 (gSub (tVar i) (TD X.K mx) zg2) (yv7 (gSub (tVar i) (TD X.K my) zg2) gNil))))) : PSd X st (A8 i mx my mb) := hE.imp fun D σ H hpat => by
 obtain ⟨F0, H0, F, ρ, o, rl, e, ok⟩ := hpat
 unfold A8 at e
 cases h1 : mb ρ with
 | none => rw [h1] at e; cases e
 | some d =>
  rw [h1] at e
  refine ⟨F0, H0, F, ρ, d, rl, h1, fun y F1 H1 x1 r1 => ?_⟩
  dsimp only [Option.bind] at e
  split at e
  ·rename_i d1 d2
   cases r1 with
   | tup sq rs =>
    rename_i ta txs
    cases rs with
    | @cons v1 _ vs1 _ rv1 rs =>
     cases rs with
     | @cons v2 _ vs2 _ rv2 rs =>
      cases rs
      refine ⟨ta, _, rfl, x1.fh.seqT sq, rfl, ?_⟩
      split at e
      ·rename_i ds h2
       obtain ⟨p, xs, e1, e2, e3, e4, e5⟩ := (rl.go x1).own i _ h2
       cases h3 : mx ρ with
       | none => rw [h3] at e; cases e
       | some k' =>
        rw [h3] at e
        refine ⟨_, _, rfl, _, e1, F0, H0, F1, ρ, k', rl.go x1, h3, fun z F2 H2 x2 r2 => ?_⟩
        cases r2 <;> first | (cases e; done) | skip
        rename_i k
        dsimp only [Option.bind] at e
        cases h4 : ixN ds.length k with
        | none => rw [h4] at e; cases e
        | some j =>
         rw [h4] at e
         dsimp only [Option.bind] at e
         have rl2 := ((rl.go x1).go x2).write h2 e1 (Reps.set (rv1.mono x2.ff) j (e4.mono x2.ff))
         refine ⟨p, xs, k, j, rfl, rfl, x2.hh _ _ e3, by rw [e4.length]; exact h4, ?_⟩
         have hi : i < ρ.length := by
          rcases Nat.lt_or_ge i ρ.length with q | q
          ·exact q
          ·rw [getElem?_eq_none q] at h2; cases h2
         have h2' : (ρ.set i (some (S.own (ds.set j d1))))[i]? = some (some (.own (ds.set j d1))) := by rw [getElem?_set_self hi]
         obtain ⟨p', xs', e1', e2', e3', e4', e5'⟩ := rl2.own i _ h2'
         cases h5 : my (ρ.set i (some (S.own (ds.set j d1)))) with
         | none => rw [h5] at e; cases e
         | some y' =>
          rw [h5] at e
          refine ⟨_, _, rfl, _, e1', F0, H0, F2, _, y', rl2, h5, fun z2 F3 H3 x3 r3 => ?_⟩
          cases r3 <;> first | (cases e; done) | skip
          rename_i k2
          have e : (ixN ds.length k2).map (fun j2 => Out.nx (ρ.set i (some (.own ((ds.set j d1).set j2 d2))))) = some o := e
          cases h6 : ixN ds.length k2 with
          | none => rw [h6] at e; cases e
          | some j2 =>
           rw [h6] at e; cases e
           have rl3 := (rl2.go x3).write h2' e1' (Reps.set (rv2.mono (x2.ff.trans x3.ff)) j2 (e4'.mono x3.ff))
           rw [set_set] at rl3
           exact ⟨p', xs', k2, j2, rfl, rfl, x3.hh _ _ e3', by rw [e4'.length, length_set]; exact h6, rfl, ok F3 _ σ rl3 ((x1.ff.trans x2.ff).trans x3.ff)⟩
      ·cases e
  ·cases e
end
end
section
section
variable {X : Cx} {a b c e : Expr} {ma mb : ME} {la lb : ML} {pos : Pos} {st : Stmt}
end
end
section
section
variable {K : W.Frag} {F0 H0 F H : Hp} {σ : St} {ρ : Ro}
end
def isSc : D -> Bool
 | .lst _ => false
 | .tup _ => false
 | .exc _ => false
 | .ptr _ => false
 | .obj _ _ _ => false
 | _ => true
theorem yj8 {K : W.Frag} {F G : Hp} {v : V} {d : D} (h : isSc d = true) (r : Rep K F v d) : Rep K G v d := by
 cases r with
 | non => exact .non
 | bl b => exact .bl b
 | int i => exact .int i
 | str x => exact .str x
 | lst _ _ => cases h
 | tup _ _ => cases h
 | exc _ _ => cases h
 | ptr _ => cases h
 | obj _ _ _ _ _ => cases h
end
section
section
variable {X : Cx} {a b c e : Expr} {ma mb mz : ME} {la lb : ML} {pos : Pos}
def ixTD : D -> D -> Option D
 | .tup ds, .int k => atI ds k
 | _, _ => none
theorem yn1 {K : W.Frag} : OpD K (rIxT K) ixTD := by
 intro F H x y d e w Q s r1 r2 h q
 cases d with
 | tup ds =>
  cases e with
  | int k =>
   obtain ⟨a, xs, e1, sq, rs⟩ := r1.t'
   obtain ⟨v, h3, h4⟩ := zn2 rs (show atI _ k = some w from h)
   exact ⟨_, _, k, v, e1, r2.i', s.seqT sq, h3, q v F H (.refl s) h4⟩
  | _ => cases h
 | _ => cases h
theorem yt3 (ha : PD X a ma) (hb : PD X b mb) (hs : zq6 b := by exact fun _ _ => rfl) : PD X (.Subscript a b pos) (m2 ixTD ma mb) := (G3 yc9 ha hb hs).imp fun σ H Q h => op_d yn1 h
def yb1 : List D -> Option (List Int)
 | [] => some []
 | .int i :: r => match yb1 r with | some ns => some (i :: ns) | none => none
 | _ => none
def yj4 : List (Str × Str) -> List DictEntry -> Prop
 | [], [] => True
 | (k, v) :: r, e :: es => (∃ t, e.key = .str k t) /\ (∃ t, e.val = .str v t) /\ yj4 r es
 | _, _ => False
structure KTab (w : World) (K : W.Frag) (a : Addr) (tab : List (Str × Str)) : Prop where
 ns : (a == sysModules) = false
 nd : (tab.map (·.1)).Nodup
 obj : ∃ es ep, K.lookup a = some ⟨.type "dict", none, .dict es ep, #[]⟩ /\ yj4 tab es.toList /\ ∀ e ∈ es.toList, ∀ k t, e.key = .str k t -> e.hash = hashStr w k
end
end
section
section
variable {prog : Program} {w : World} {A : Around} {E : Value -> Shared -> Prop} {s : Shared}
structure ApT (z TO i1 i2 l : Addr) : Prop where
 lz : l ≠ z
 lTO : l ≠ TO
 l1 : l ≠ i1
 l2 : l ≠ i2
end
end
section
section
variable {prog : Program} {w : World} {A : Around} {E : Value -> Shared -> Prop} {s : Shared}
end
section
variable {X : Cx}
end
end
section
section
variable {X : Cx} {a b c e : Expr} {ma mb : ME} {la lb : ML} {pos : Pos}
end
section
variable {K : W.Frag} {F0 H0 F H H' : Hp} {σ : St} {ρ : Ro}
end
section
variable {X : Cx} {a b c e3 : Expr} {ma mb : ME} {la lb : ML} {pos : Pos} {E : XK} {es : List Expr} {mf : MF} {m : ML} {rb : List Stmt} {mx : MS} {cc : MB} {y : D}
end
end
section
abbrev MEm := Ro -> Option (D × Ro)
abbrev MLm := Ro -> Option (List D × Ro)
section
variable {X : Cx} {a b c e : Expr} {ma mb : ME} {na nb : MEm} {pos : Pos} {es : List Expr}
variable {st : Stmt}
end
abbrev MG := Addr -> List D -> List D -> Option (Rt × List D)
end
section
section
variable {K : W.Frag} {F0 H0 F H F' H' : Hp} {σ : St} {ρ : Ro}
end
open Classical in
section
variable {X : Cx} {e : Expr} {pos : Pos} {es : List Expr} {E : XK} {mf : MG} {m : MLm}
end
end
section
section
variable {X : Cx} {a b c e : Expr} {ma mb : ME} {pos : Pos}
end
end
section
def LtAt (A : Around) (s : Shared) (v u : Value) (k : Bool) : Prop := ∀ (prog : Program) (w : World) (E : Value -> Shared -> Prop) (Q : Value -> Shared -> Prop), Q (.bool k) s -> wpAny (model prog w) A (richCompare .Lt v u) Q E s
def zj9 (A : Around) (s : Shared) : List Value -> List Value -> Bool -> Prop
 | [], [], k => k = false
 | [], _ :: _, k => k = true
 | _ :: _, [], k => k = false
 | y :: ys, x :: xs, k => ∃ e, SeqAt.EqAt A s y x e /\ ((e = true /\ zj9 A s ys xs k) \/ (e = false /\ LtAt A s y x k))
section
open PySem.SeqAt
open PySem.AutoSeq1 (wpAny_loadPart')
open PySem.MeetsSeq PySem.MeetsSeq2 PySem.MeetsSeq3
set_option maxHeartbeats 4000000 in
theorem yj3 (l b : Addr) (items items2 : Array Value) (n n2 : Nat) (dd dd2 : Option Addr) (sl sl2 : Array (Option Value)) (k : Bool) :
  Meets (Builtin.«tuple.__lt__» ⟨[.ref l, .ref b], []⟩)
   (fun A R s => s.heap.get? l = some { cls := .type "tuple", dict := dd, data := .seq items n, slots := sl } /\ s.heap.get? b = some { cls := .type "tuple", dict := dd2, data := .seq items2 n2, slots := sl2 } /\
    zj9 A.in1 s items.toList items2.toList k /\ R (.ok (.ret (.bool k))) s) :=
 .of_wp fun prog w A R s h => by
  obtain ⟨hp, g, d, tk, os⟩ := s; obtain ⟨hl, hb, hx, h⟩ := h
  have f2 := AutoSeq1.sub_tuple_tuple
  wp_walk using wpAny_loadPart' hl, wpAny_loadPart' hb, wpAny_forIn_list _ (fun rest b s' => b.1 = none /\ s' = ⟨hp, g, d, tk, os⟩ /\ ∃ (vs ws : List Value), rest = vs.zip ws /\
   vs.length + items2.size = ws.length + items.size /\ zj9 A.in1 ⟨hp, g, d, tk, os⟩ vs ws k) _
  case turn =>
   rintro ⟨y, x⟩ rest b s' ⟨hb', rfl, vs, ws, hz, hlen, hL⟩
   cases vs with
   | nil => rw [zip_nil_left] at hz; cases hz
   | cons a vs =>
    cases ws with
    | nil => rw [zip_nil_right] at hz; cases hz
    | cons c ws =>
     rw [zip_cons_cons] at hz
     injection hz with hyx hrest
     injection hyx with hy hx'
     subst hy hx'
     simp only [length_cons] at hlen
     obtain ⟨e, he, hL⟩ := hL
     refine wpAny_bind (he prog w _ _ ?_)
     rcases hL with ⟨rfl, hL⟩ | ⟨rfl, hL⟩
     ·wp_walk
      exact ⟨rfl, rfl, vs, ws, hrest, by omega, hL⟩
     ·have hri := hL prog w
      wp_walk using hri
      exact ⟨_, rfl, by simpa using h⟩
  case fin =>
   rintro ⟨b1, b2⟩ s' ⟨hb', rfl, vs, ws, hz, hlen, hL⟩
   simp only at hb'
   subst hb'
   have hv : k = decide (items.size < items2.size) := by
    cases vs with
    | nil =>
     cases ws with
     | nil =>
      simp only [length_nil] at hlen
      rw [show k = false from hL]
      exact (decide_eq_false (by omega)).symm
     | cons c ws =>
      simp only [length_nil, length_cons] at hlen
      rw [show k = true from hL]
      exact (decide_eq_true (by omega)).symm
    | cons a vs =>
     cases ws with
     | nil =>
      simp only [length_nil, length_cons] at hlen
      rw [show k = false from hL]
      exact (decide_eq_false (by omega)).symm
     | cons c ws =>
      rw [zip_cons_cons] at hz
      cases hz
   rw [hv] at h
   wp_walk
   exact ⟨_, rfl, by simpa [Builtin.Tuple.tupleCompareSizes] using h⟩
  case h =>
   exact ⟨rfl, rfl, items.toList, items2.toList, rfl, by simp; omega, hx⟩
set_option maxHeartbeats 4000000 in
theorem zr4 (l b : Addr) (items items2 : Array Value) (n n2 : Nat) (dd dd2 : Option Addr) (sl sl2 : Array (Option Value)) (r : Bool) (k : Nat) :
  ∀ i : Nat, items.size - i = k -> i <= items.size -> i <= items2.size -> Meets (Builtin.«list.__eq__.loop» ⟨[.ref l, .ref b, rawInt i, rawInt 0], []⟩)
   (fun A R s => s.heap.get? l = some { cls := .type "list", dict := dd, data := .seq items n, slots := sl } /\ s.heap.get? b = some { cls := .type "list", dict := dd2, data := .seq items2 n2, slots := sl2 } /\
    zj9 A.in1 s (items.toList.drop i) (items2.toList.drop i) r /\ R (.ok (.ret (.bool r))) s) := by
 induction k with
 | zero =>
  intro i hk h1 h2 prog w A R s h
  obtain ⟨hp, g, d, tk, os⟩ := s; obtain ⟨hl, hb, hx, h⟩ := h
  wp_walk using wpAny_loadPart' hl, wpAny_loadPart' hb
  have hi1 : items[((i : Nat) : Int).toNat]? = none := by simp; omega
  have e1 : items.toList.drop i = [] := drop_eq_nil_of_le (by simp; omega)
  rw [e1] at hx
  have hr : r = decide (items.size < items2.size) := by
   cases e2 : items2.toList.drop i with
   | nil =>
    rw [e2] at hx
    have : items2.size <= i := by simpa using e2
    rw [show r = false from hx]
    exact (decide_eq_false (by omega)).symm
   | cons c ws =>
    rw [e2] at hx
    have : i < items2.size := by
     rcases Nat.lt_or_ge i items2.size with z | z
     ·exact z
     ·rw [drop_eq_nil_of_le (by simpa using z)] at e2; cases e2
    rw [show r = true from hx]
    exact (decide_eq_true (by omega)).symm
  rw [hi1]
  wp_walk using wpAny_loadPart' hl, wpAny_loadPart' hb
  rw [hr] at h
  exact h
 | succ k ih =>
  intro i hk h1 h2 prog w A R s h
  obtain ⟨hp, g, d, tk, os⟩ := s; obtain ⟨hl, hb, hx, h⟩ := h
  have hlt : i < items.size := by omega
  have hi1 : items[((i : Nat) : Int).toNat]? = some items[i] := by simp [hlt]
  have e1 : items.toList.drop i = items[i] :: items.toList.drop (i + 1) := by rw [drop_eq_getElem_cons (by simpa using hlt)]; simp
  have hc : ((i : Int) + 1) = ((i + 1 : Nat) : Int) := by push_cast; rfl
  rw [e1] at hx
  by_cases hlt2 : i < items2.size
  ·have hi2 : items2[((i : Nat) : Int).toNat]? = some items2[i] := by simp [hlt2]
   have e2 : items2.toList.drop i = items2[i] :: items2.toList.drop (i + 1) := by rw [drop_eq_getElem_cons (by simpa using hlt2)]; simp
   rw [e2] at hx
   obtain ⟨e, he, hx⟩ := hx
   wp_walk using wpAny_loadPart' hl, wpAny_loadPart' hb
   rw [hi1, hi2]
   refine wpAny_bind (he prog w _ _ ?_)
   rcases hx with ⟨rfl, hx⟩ | ⟨rfl, hx⟩
   ·wp_walk
    rw [hc]
    exact ⟨plainId_quiet plain_eq_loop _, codeAny_builtin entry_eq_loop (by
     rw [Around.under_plainId plain_eq_loop _]
     exact ih (i + 1) (by omega) (by omega) (by omega) prog w A R _ ⟨hl, hb, hx, h⟩)⟩
   ·have hri := hx prog w
    wp_walk using wpAny_loadPart' hl, wpAny_loadPart' hb
    rw [hi1, hi2]
    wp_walk using hri
    exact h
  ·have hi2 : items2[((i : Nat) : Int).toNat]? = none := by simp; omega
   have e2 : items2.toList.drop i = [] := drop_eq_nil_of_le (by simp; omega)
   rw [e2] at hx
   have hr : r = decide (items.size < items2.size) := by
    rw [show r = false from hx]
    exact (decide_eq_false (by omega)).symm
   wp_walk using wpAny_loadPart' hl, wpAny_loadPart' hb
   rw [hi1, hi2]
   wp_walk using wpAny_loadPart' hl, wpAny_loadPart' hb
   rw [hr] at h
   exact h
set_option maxHeartbeats 4000000 in
theorem yc0 (l b : Addr) (items items2 : Array Value) (n n2 : Nat) (dd dd2 : Option Addr) (sl sl2 : Array (Option Value)) (r : Bool) :
  Meets (Builtin.«list.__lt__» ⟨[.ref l, .ref b], []⟩)
   (fun A R s => s.heap.get? l = some { cls := .type "list", dict := dd, data := .seq items n, slots := sl } /\ s.heap.get? b = some { cls := .type "list", dict := dd2, data := .seq items2 n2, slots := sl2 } /\
    zj9 A.in1 s items.toList items2.toList r /\ R (.ok (.ret (.bool r))) s) := by
 intro prog w A R s h
 obtain ⟨hp, g, d, tk, os⟩ := s; obtain ⟨hl, hb, hx, h⟩ := h
 have f3 := AutoSeq1.sub_list_list
 wp_walk using wpAny_loadPart' hl, wpAny_loadPart' hb
 exact ⟨plainId_quiet plain_eq_loop _, codeAny_builtin entry_eq_loop (by
  rw [Around.under_plainId plain_eq_loop _]
  exact zr4 l b items items2 n n2 dd dd2 sl sl2 r _ 0 rfl (Nat.zero_le _) (Nat.zero_le _) prog w A R _ ⟨hl, hb, by simpa using hx, h⟩)⟩
end
def lexF (eq lt : D -> D -> Option Bool) : List D -> List D -> Option Bool
 | [], [] => some false
 | [], _ :: _ => some true
 | _ :: _, [] => some false
 | d :: ds, e :: es => match eq d e with
  | some true => lexF eq lt ds es
  | some false => lt d e
  | none => none
def ltF : Nat -> D -> D -> Option Bool
 | 0, _, _ => none
 | n + 1, .lst ds, .lst es => lexF (eqF n) (ltF n) ds es
 | n + 1, .tup ds, .tup es => lexF (eqF n) (ltF n) ds es
 | _ + 1, .int i, .int j => some (decide (i < j))
 | _ + 1, _, _ => none
section
variable {X : Cx} {pins : List (Addr × Obj)} {σ : St} {H : Hp} {s : Shared}
theorem zc0 (I : Inv X pins σ H s) (n : Nat) {A : Around} (hu : A.units + n < cLine) (ih : ∀ {x y : V} {v u : Value} {d e : D} {k : Bool}, Rep X.K H x d -> Rep X.K H y e -> RelV x v -> RelV y u -> ltF n d e = some k -> LtAt A s v u k) :
  ∀ {xs ys : List V} {vs us : List Value} {ds es : List D} {k : Bool}, Reps X.K H xs ds -> Reps X.K H ys es -> Vals xs vs -> Vals ys us -> lexF (eqF n) (ltF n) ds es = some k -> zj9 A s vs us k
 | _, _, _, _, _, _, k, .nil, .nil, .nil, .nil, h => by cases h; exact rfl
 | _, _, _, _, _, _, k, .nil, .cons _ _, .nil, .cons _ _, h => by cases h; exact rfl
 | _, _, _, _, _, _, k, .cons _ _, .nil, .cons _ _, .nil, h => by cases h; exact rfl
 | _, _, _, _, _, _, k, .cons (d := d) r1 t1, .cons (d := e) r2 t2, .cons q1 p1, .cons q2 p2, h => by
  unfold lexF at h
  cases hq : eqF n d e with
  | none => rw [hq] at h; cases h
  | some b =>
   rw [hq] at h
   refine ⟨b, (zc8 I n hu r1 r2 q1 q2 hq).1, ?_⟩
   cases b with
   | true => exact .inl ⟨rfl, zc0 I n hu ih t1 t2 p1 p2 h⟩
   | false => exact .inr ⟨rfl, ih r1 r2 q1 q2 h⟩
theorem yn8 (I : Inv X pins σ H s) : ∀ (n : Nat) {A : Around} {x y : V} {v u : Value} {d e : D} {k : Bool}, A.units + n < cLine -> Rep X.K H x d -> Rep X.K H y e -> RelV x v -> RelV y u -> ltF n d e = some k -> LtAt A s v u k
 | 0, A, x, y, v, u, d, e, k, hu, r1, r2, q1, q2, h => by simp [ltF] at h
 | n + 1, A, x, y, v, u, d, e, k, hu, r1, r2, q1, q2, h => by
  have hu0 : A.units < cLine := by omega
  have hu1 : A.in1.units + n < cLine := by show A.units + 1 + n < cLine; omega
  cases d with
  | int i =>
   cases e with
   | int j =>
    obtain rfl := r1.i'
    obtain rfl := r2.i'
    obtain ⟨t, rfl⟩ := q1
    obtain ⟨t', rfl⟩ := q2
    cases h
    exact fun prog w E Q hQ => HT.rcLt_int A s i t j t' prog w E Q hQ
   | _ => cases h
  | lst ds1 =>
   cases e with
   | lst ds2 =>
    obtain ⟨a1, xs1, rfl, sq, rs⟩ := r1.l'
    obtain ⟨a2, xs2, rfl, sq2, rs2⟩ := r2.l'
    cases q1; cases q2
    obtain ⟨its, vr, ⟨⟨cls, dd, data, sl⟩, m, ho, hc, hdd, hd⟩, _⟩ := I.list sq
    obtain ⟨its2, vr2, ⟨⟨cls2, dd2, data2, sl2⟩, m2, ho2, hc2, hdd2, hd2⟩, _⟩ := I.list sq2
    simp only at hc hd hc2 hd2
    subst hc hd hc2 hd2
    have L := zc0 I n hu1 (fun a b c d e => yn8 I n hu1 a b c d e) rs rs2 vr vr2 (show lexF (eqF n) (ltF n) _ _ = some k from h)
    intro prog w E Q hQ
    exact richCompare_meets_room (op := .Lt) ⟨_, ho, rfl⟩ ⟨_, ho2, rfl⟩ PySem.F.slot_list_lt PySem.F.entry_list_lt (PySem.F.args_list_lt_2 _ _) (yc0 _ _ its.toArray its2.toArray m m2 dd dd2 sl sl2 k)
     ⟨ho, ho2, by simpa using L, show Value.bool k ≠ Value.notImplemented /\ Q (.bool k) s from ⟨(fun x => nomatch x), hQ⟩⟩ hu0
   | _ => cases h
  | tup ds1 =>
   cases e with
   | tup ds2 =>
    obtain ⟨a1, xs1, rfl, sq, rs⟩ := r1.t'
    obtain ⟨a2, xs2, rfl, sq2, rs2⟩ := r2.t'
    cases q1; cases q2
    obtain ⟨its, vr, ⟨⟨cls, dd, data, sl⟩, ho, hc, m, hd⟩, _⟩ := I.tuple sq
    obtain ⟨its2, vr2, ⟨⟨cls2, dd2, data2, sl2⟩, ho2, hc2, m2, hd2⟩, _⟩ := I.tuple sq2
    simp only at hc hd hc2 hd2
    subst hc hd hc2 hd2
    have L := zc0 I n hu1 (fun a b c d e => yn8 I n hu1 a b c d e) rs rs2 vr vr2 (show lexF (eqF n) (ltF n) _ _ = some k from h)
    intro prog w E Q hQ
    exact richCompare_meets_room (op := .Lt) ⟨_, ho, rfl⟩ ⟨_, ho2, rfl⟩ PySem.F.slot_tuple_lt PySem.F.entry_tuple_lt (PySem.F.args_tuple_lt_2 _ _) (yj3 _ _ its.toArray its2.toArray m m2 dd dd2 sl sl2 k)
     ⟨ho, ho2, by simpa using L, show Value.bool k ≠ Value.notImplemented /\ Q (.bool k) s from ⟨(fun x => nomatch x), hQ⟩⟩ hu0
   | _ => cases h
  | _ => cases h
end
end
section
section
variable {X : Cx} {pins : List (Addr × Obj)} {σ : St}
end
end
section
section
variable {X : Cx} {pins : List (Addr × Obj)} {σ : St}
end
end
section
section
variable {prog : Program} {w : World} {A : Around} {E : Value -> Shared -> Prop} {s : Shared}
end
section
variable {X : Cx}
end
end
section
section
variable {X : Cx} {a b : Expr} {pos : Pos}
end
end
section
section
variable {X : Cx} {e : Expr} {pos : Pos} {es : List Expr} {E : XK} {mf : MG} {st : Stmt} {na : MEm}
end
section
variable {X : Cx} {a b : Expr} {pos : Pos}
def zx5 (n : Nat) (k : Int) : Bool := decide (-(2 ^ 62) <= k) && decide (k < 2 ^ 62) && decide (n * k.toNat <= sizeLine)
@[irreducible] def mrep (x : ML) (y : ME) : ML := fun ρ => (x ρ).bind fun ds => match y ρ with
 | some (.int k) => if zx5 ds.length k = true then some (List.replicate k.toNat ds).flatten else none
 | _ => none
theorem ze4 {x : ML} {y : ME} {ρ : Ro} {gs : List D} (h : mrep x y ρ = some gs) : ∃ ds k, x ρ = some ds /\ y ρ = some (.int k) /\ zx5 ds.length k = true /\ gs = (List.replicate k.toNat ds).flatten := by
 unfold mrep at h
 cases h1 : x ρ with
 | none => rw [h1] at h; cases h
 | some ds =>
  rw [h1, Option.bind_some] at h
  split at h
  ·rename_i k h2
   split at h
   ·rename_i hk
    exact ⟨ds, k, rfl, h2, hk, (Option.some.inj h).symm⟩
   ·cases h
  ·cases h
theorem ze5 {x : ML} {y : ME} {ρ : Ro} {ds : List D} {k : Int} (h1 : x ρ = some ds) (h2 : y ρ = some (.int k)) (hk : zx5 ds.length k = true) : mrep x y ρ = some (List.replicate k.toNat ds).flatten := by
 unfold mrep
 rw [h1, Option.bind_some, h2]
 simp only [hk, if_true]
theorem zx4 {K : W.Frag} {F : Hp} {xs : List V} {ds : List D} (r : Reps K F xs ds) : ∀ k : Nat, Reps K F (List.replicate k xs).flatten (List.replicate k ds).flatten
 | 0 => .nil
 | k + 1 => by
  rw [replicate_succ, replicate_succ, flatten_cons, flatten_cons]
  exact r.append (zx4 r k)
theorem yt0 {x : ML} {y : ME} (ha : PF X a x) (hb : PD X b y) : PF X (.BinOp a .Mult b pos) (mrep x y) := (yp9 yf2 ha hb).imp fun σ H Q hpat => by
 obtain ⟨F0, H0, F, ρ, g, rl, e, q⟩ := hpat
 obtain ⟨ds, k, h1, h2, hk, rfl⟩ := ze4 e
 unfold zx5 at hk
 simp only [Bool.and_eq_true, decide_eq_true_eq] at hk
 refine ⟨F0, H0, F, ρ, ds, rl, h1, fun p xs F1 H1 x1 n1 f1 g1 r1 => ⟨F0, H0, F1, ρ, .int k, rl.go x1, h2, fun v F2 H2 x2 r2 => ?_⟩⟩
 cases r2
 refine ⟨p, k, xs, rfl, rfl, x2.hh _ _ g1, by omega, by omega, by rw [r1.length]; exact hk.2, fun w hw => ?_⟩
 have xx := x1.trans x2
 exact q w _ F2 _ (xx.trans (Ext.own x2.fh hw)) (xx.hh.free hw) (x2.fh.free hw) w9 (zx4 (r1.mono x2.ff) k.toNat)
end
end
section
section
variable {X : Cx} {pins : List (Addr × Obj)} {σ : St}
end
end
section
section
variable {X : Cx} {pins : List (Addr × Obj)} {σ : St}
end
end
section
def minP : List D -> D -> Option D
 | [], b => some b
 | d :: ds, b => (match ltF 8 d b with | some true => minP ds d | some false => minP ds b | none => none)
section
variable {X : Cx} {pins : List (Addr × Obj)} {σ : St}
end
section
variable {X : Cx}
end
end
section
section
variable {X : Cx} {pins : List (Addr × Obj)} {σ : St}
end
end
end L2
namespace L2
open List
open PySem PySem.Spec PyProof.Rows PySem.Builtin PySem.Builtin.Str
section
section
variable {X : Cx} {a b c e o : Expr} {ma mb mo : ME} {pos : Pos}
end
end
section
section
variable {X : Cx} {a b c e o : Expr} {ma mb mo : ME} {pos : Pos}
end
end
end L2
namespace L2
open List
open PySem PySem.Spec PyProof.Rows
section
section
variable {X : Cx} {a b c e o : Expr} {ma mb mo : ME} {pos : Pos} {st : Stmt}
end
end
section
section
variable {prog : Program} {w : World} {A : Around} {E : Value -> Shared -> Prop} {s : Shared} {l : Addr} {xs : Array (Int × Tok)}
end
section
variable {X : Cx} {a b c e o : Expr} {ma mb mo : ME} {pos : Pos} {st : Stmt}
end
section
variable {X : Cx} {a b c e : Expr} {na nb : MEm} {pos : Pos} {st : Stmt} {es : List Expr} {E : XK} {mf : MF} {m : MLm}
abbrev MBm := Ro -> Option (Bool × Ro)
end
end
section
section
variable {X : Cx} {a b c e : Expr} {na nb : MEm} {pos : Pos} {st : Stmt} {es : List Expr} {m : MLm}
end
section
variable {X : Cx} {pos : Pos}
end
end
section
section
variable {X : Cx} {e : Expr} {na : MEm} {pos : Pos} {st : Stmt} {es : List Expr} {m : ML} {mf : MG} {E : XK}
open Classical in
end
end
section
section
variable {X : Cx}
end
end
section
section
variable {X : Cx} {e : Expr} {pos : Pos}
@[irreducible] def many (m : ML) : ME := fun ρ => match m ρ with | some ds => (match yb1 ds with | some ns => some (.bl (ns.any fun i => i != 0)) | none => none) | none => none
end
end
section
section
variable {X : Cx} {e : Expr} {ma : ME} {pos : Pos}
end
end
section
section
variable {X : Cx} {e : Expr} {ma : ME} {pos : Pos}
end
end
section
section
variable {prog : Program} {w : World} {A : Around} {E : Value -> Shared -> Prop} {s : Shared}
end
section
variable {X : Cx}
end
end
section
section
variable {X : Cx} {a : Expr} {na : MEm} {pos : Pos} {ca : MBm}
end
end
section
section
variable {X : Cx} {a b : Expr} {m : ML} {pos : Pos}
end
end
end L2
namespace L2
open List
open PySem PySem.Spec PyProof.Rows PySem.W PySem.Builtin PySem.Builtin.ObjectAttr PySem.Builtin.Getset_descriptor
section
structure XCls (K : W.Frag) (C : Addr) : Prop where
 ga : findIn K (.ref C) "__getattribute__" = some (some (.builtin "BaseException.__getattribute__"))
 nog : findIn K (.ref C) "__getattr__" = some none
 cl : findIn K (.ref C) "__class__" = some (some (.builtin "object.__class__"))
 ob : mroIn K C (.type "object") = some true
 be : mroIn K C (.type "BaseException") = some true
section
variable {prog : Program} {w : World} {A : Around} {E : Value -> Shared -> Prop} {K : W.Frag} {x C : Addr} {ox : Obj} {h : Heap} {g : Array GenState} {d : Drawn} {t : Nat} {os : OsState}
theorem yj0 {tp : Value} {R : Result -> Shared -> Prop} (X : K.In h) (LT : ∀ M : Model, Looks M h (typeOf (.ref x)) (.ref C)) (hm : mroIn K C (.type "object") = some true)
  (hq : R (.ok (.ret (.ref C))) ⟨h, g, d, t, os⟩) : codeAny (model prog w) A (.call (.builtin "getset_descriptor.__get__") ⟨[.builtin "object.__class__", .ref x, tp], []⟩) R ⟨h, g, d, t, os⟩ := by
 have L0 := LT (model prog w)
 have L1 := looks_mroIn (M := model prog w) X hm
 refine codeAny_call_builtin F.slot_gs_get.plain F.entry_gs_get (F.slot_gs_get.check _ _ _ _ _ _ _ _ F.typeOf_object_class (F.args_gs_get _ _ tp) ?_)
 unfold Builtin.«getset_descriptor.__get__» descrGet
 rw [dga_obj]
 refine wpAny_bind (wpAny_pure ?_)
 unfold descrGetter; unfold descrCheckInstance; unfold descrNameAndClass isInstance
 simp only [KF.owner_class]
 repeat lk
 refine And.intro (Code.quiet_builtin _ (by decide +kernel)) (codeAny_builtin F.entry_object_class ?_)
 unfold Builtin.«object.__class__»; unfold shownTypeOf
 repeat lk
 exact hq
theorem yz6 {tk : Tok} {Q : PySem.Fin -> Shared -> Prop} (Z : XCls K C) (X : K.In h) (LT : ∀ M : Model, Looks M h (typeOf (.ref x)) (.ref C)) (hq : Q (.done (.ret (.ref C))) ⟨h, g, d, t, os⟩) :
  wpAny (model prog w) A (Builtin.«object.__getattribute__» ⟨[.ref x, .str "__class__" tk], []⟩) Q E ⟨h, g, d, t, os⟩ := by
 have L0 := LT (model prog w)
 have L1 := looks_findIn (M := model prog w) X Z.cl
 have L2 : Looks (model prog w) h (typeOf (.builtin "object.__class__")) (.type "getset_descriptor") := Looks.of_pure F.typeOf_object_class
 have L3 : Looks (model prog w) h (typeLookup (.type "getset_descriptor") "__get__") (some (.builtin "getset_descriptor.__get__")) := Looks.of_pure F.slot_gs_get.lookup
 have L4 : Looks (model prog w) h (typeLookup (.type "getset_descriptor") "__set__") (some (.builtin "getset_descriptor.__set__")) := Looks.of_pure F.slot_gs_set.lookup
 repeat (first | with_reducible refine wpAny_call (yj0 X LT Z.ob ?_) | lk)
 exact hq
theorem ys5 {tk : Tok} {R : Result -> Shared -> Prop} (Z : XCls K C) (X : K.In h) (LT : ∀ M : Model, Looks M h (typeOf (.ref x)) (.ref C)) (hq : R (.ok (.ret (.ref C))) ⟨h, g, d, t, os⟩) :
  codeAny (model prog w) A (.call (.builtin "BaseException.__getattribute__") ⟨[.ref x, .str "__class__" tk], []⟩) R ⟨h, g, d, t, os⟩ := by
 have k1 : builtinKind "BaseException.__getattribute__" = some .slot := by decide +kernel
 have k2 : splitId "BaseException.__getattribute__" = some ("BaseException", "__getattribute__") := by decide +kernel
 have k3 := F.args_bexc_ga (.ref x) (.str "__class__" tk)
 have L0 := LT (model prog w)
 have L1 := looks_mroIn (M := model prog w) X Z.be
 refine codeAny_call_builtin (by decide +kernel) F.entry_bexc_ga ?_
 simp only [checkBuiltinCall, k1, k2]
 refine wpAny_bind ?_
 unfold isInstance
 refine wpAny_bind (L0.at (L1.at ?_))
 rw [if_neg (by decide)]
 exact wpAny_of_eq (a := ()) k3 (yz6 Z X LT hq)
theorem yz7 {Q : Option Value -> Shared -> Prop} (Z : XCls K C) (X : K.In h) (LT : ∀ M : Model, Looks M h (typeOf (.ref x)) (.ref C)) (hq : Q (some (.ref C)) ⟨h, g, d, t + 1, os⟩) :
  wpAny (model prog w) A (getAttr? (.ref x) "__class__") Q E ⟨h, g, d, t, os⟩ := by
 have L0 := LT (model prog w)
 have L1 := looks_findIn (M := model prog w) X Z.ga
 have L2 := looks_findIn (M := model prog w) X Z.nog
 unfold getAttr? getAttrBy? getAttrBy
 refine wpAny_bind (wpAny_mkText (wpAny_bind (wpAny_attempt (wpAny_holding (wpAny_bind (L0.at (wpAny_bind (L1.at ?_))))))))
 dsimp only
 rw [if_neg (by intro z; rw [Bool.and_eq_true] at z; exact absurd z.2 (by decide))]
 unfold getAttrByItsOwn hookBefore
 rw [if_pos (by rfl)]
 refine wpAny_bind (L2.at (wpAny_bind (wpAny_attempt (wpAny_holding ?_))))
 unfold callGetattribute
 rw [if_neg (by decide)]
 unfold boundAndCalled
 have b1 : bindSpecial (.builtin "BaseException.__getattribute__") (.ref x) = pure (.builtin "BaseException.__getattribute__", [.ref x]) := F.attr_ValueError.ga.bind _
 refine wpAny_bind (wpAny_of_eq b1 (wpAny_call (ys5 Z X LT ?_)))
 exact handed_on rfl (wpAny_pure hq)
theorem XAt.looks {a C : Addr} (p : XAt a C h) (M : Model) : Looks M h (typeOf (.ref a)) (.ref C) := by
 obtain ⟨o, vs, h1, h2, _⟩ := p
 exact h2 ▸ (Looks.ld h1).andThen .now
theorem yv0 {a C : Addr} (Z : XCls K C) : KitX K (.ref a) (.ref C) (XAt a C) where
 ty := fun M h _ p => p.looks M
 it := fun M h X _ => by
  have q := Z.ob
  unfold mroIn at q
  cases hc : clsIn K C with
  | none => rw [hc] at q; cases q
  | some cd =>
   unfold clsIn at hc
   split at hc
   ·rename_i c' d' cd' sl' ho
    intro A1 Q1 E1 s1 kk qq
    unfold isType loadHead
    exact wpAny_bind (wpAny_loadPart (kk _ _ (X C _ ho)) (wpAny_pure qq))
   ·cases hc
 ne := fun h tp dd its n sl X htp => by
  refine Bool.eq_false_iff.mpr fun z => ?_
  have e : C = tp := Value.ref.inj (beq_iff_eq.mp z)
  subst e
  have q := Z.ob
  unfold mroIn at q
  cases hc : clsIn K C with
  | none => rw [hc] at q; cases q
  | some cd =>
   unfold clsIn at hc
   split at hc
   ·rename_i c' d' cd' sl' ho
    cases (X _ _ ho).symm.trans htp
   ·cases hc
 ca := fun {prog w A E Q s} X p hq => by
  obtain ⟨hh, g, d, t, os⟩ := s
  exact yz7 Z X p.looks hq
end
end
end L2
namespace L2
open List
open PySem PySem.Spec PyProof.Rows
section
structure Flown (P : Program) (w : World) (outer : List Env) (H : Hp) (s : Shared) (H' : Hp) (B h' : Heap) : Prop where
 un : Un (frs outer) [] H H' s.heap h'
 ok : HOk P w H' h'
 st : B.StaysIn h'
 trk : ∀ b o, H' b = some o -> ∃ ob, B.get? b = some ob
 old : ∀ b o, s.heap.get? b = some o -> b ∉ frs outer -> ∃ ob, B.get? b = some ob
def CXx (P : Program) (w : World) : CXT := fun outer H s E ev s' => ∃ (e C : Addr) (a0 : Value) (H' : Hp) (B : Heap), ev = .ref e /\ s'.os = s.os /\ AllBare s'.gens /\ Flown P w outer H s H' B s'.heap /\
 Heap.FlyingW B outer e (.ref C) a0 s'.heap /\ E (.ref C) none H'
section
variable {P : Program} {w : World} {outer : List Env} {H H' : Hp} {s : Shared} {B h1 h2 base : Heap}
theorem Flown.on (f : Flown P w outer H s H' B h1) (fr : h1.FunFrames base outer) (st : B.StaysIn h2) (up : h1.UpToSlots h2) : Flown P w outer H s H' B h2 := by
 have same : ∀ b o, h1.get? b = some o -> (∃ ob, B.get? b = some ob) -> h2.get? b = some o := fun b o e hpat => by
  obtain ⟨ob, eb⟩ := hpat
  have := f.st b ob eb
  rw [e] at this; cases this
  exact st b o eb
 have fslot : ∀ b o, b ∈ frs outer -> h1.get? b = some o -> ∃ sl, h2.get? b = some { o with slots := sl } := fun b o hb e => by
  obtain ⟨_, o', e', hd⟩ := fr.mem hb
  rw [e] at e'; cases e'
  exact up b o e hd
 refine ⟨⟨fun b o e n hb hx => same b o (f.un.keep b o e n hb hx) (f.old b o e hb), fun b o e n hb hx => ?_, f.un.free, fun b o e hx => ?_, f.un.tups, f.un.frzs, f.un.tbls⟩, fun b u e => ?_, st, f.trk, f.old⟩
 ·obtain ⟨sl, e1⟩ := f.un.slot b o e n hb hx
  obtain ⟨sl2, e2⟩ := fslot b _ hb e1
  exact ⟨sl2, e2⟩
 ·by_cases hb : b ∈ frs outer
  ·obtain ⟨o1, e1⟩ := f.un.there b o e hx
   obtain ⟨sl2, e2⟩ := fslot b _ hb e1
   exact ⟨_, e2⟩
  ·obtain ⟨ob, eb⟩ := f.old b o e hb
   exact ⟨ob, st b ob eb⟩
 ·refine (f.ok b u e).stay (fun c v hc q => same c v q ?_) (fun _ q => q) fun _ _ q => q
  rcases hc with z | z
  ·rw [z]; exact f.trk b u e
  ·exact f.trk c _ z
end
structure Top (X : Cx) : Prop where
 stk : X.stack = X.env :: X.outer
 frm : X.env.frame = some X.env.locals
 ex : X.ex = []
section
variable {X : Cx} {pins : List (Addr × Obj)} {σ : St} {H H' : Hp} {s : Shared} {B h1 : Heap}
theorem Flown.inv {s' : Shared} (I : Inv X pins σ H s) (f : Flown X.prog X.w X.stack H s H' B s'.heap) (os : s'.os = s.os) (bare : AllBare s'.gens) : Inv X pins σ H' s' :=
 I.call' (ch := []) os f.un f.ok bare fun b z => absurd z (by simp)
theorem Flown.out {s' : Shared} (T : Top X) (I : Inv X pins σ H s) (f : Flown X.prog X.w X.stack H s H' B s'.heap) (os : s'.os = s.os) (bare : AllBare s'.gens) : Flown X.prog X.w X.outer X.H₀ X.s₀ H' B s'.heap := by
 have I' := f.inv I os bare
 refine ⟨by have := I'.base; rw [T.ex] at this; exact this, f.ok, f.st, f.trk, fun b o e hb => ?_⟩
 obtain ⟨o1, e1⟩ := I.base.there b o e (by rw [T.ex]; simp)
 refine f.old b o1 e1 fun z => ?_
 rcases List.mem_cons.mp (I.stkSub b z) with z | z
 ·exact absurd (Nat.lt_of_lt_of_le (Heap.lt_size e) I.ok.above) (by rw [z]; exact Nat.lt_irrefl _)
 ·exact hb z
end
theorem ObjOk.there {P : Program} {w : World} {H : Hp} {h : Heap} {a : Addr} {o : HO} (x : ObjOk P w H h a o) : ∃ ob, h.get? a = some ob := by
 cases o with
 | lst xs => obtain ⟨_, _, _, _, e⟩ := x; exact ⟨_, e⟩
 | tup xs => obtain ⟨_, _, _, ⟨_, e, _⟩⟩ := x; exact ⟨_, e⟩
 | dK kvs => obtain ⟨_, _, _, _, o, _, _, e, _⟩ := x; exact ⟨_, e⟩
 | dT kvs => obtain ⟨_, _, _, _, o, _, _, e, _⟩ := x; exact ⟨_, e⟩
 | set S n => obtain ⟨o, _, _, _, e, _⟩ := x; exact ⟨_, e⟩
 | ins C dx fs => obtain ⟨_, _, _, e, _⟩ := x; exact ⟨_, e⟩
 | own y => exact x
 | xd fs => obtain ⟨_, ⟨_, _, _, e, _⟩, _⟩ := x; exact ⟨_, e⟩
 | rng lo hi => obtain ⟨_, _, _, e⟩ := x; exact ⟨_, e⟩
 | frz ob u => exact ⟨_, x.1⟩
 | tbl ps => exact ⟨_, show h.get? a = some _ from x⟩
 | met f y => exact ⟨_, show h.get? a = some _ from x⟩
 | ext φ => exact x.2.1
abbrev bmV : List Value := [.type "ValueError", .type "Exception", .type "BaseException", .type "object"]
theorem xobj {K : W.Frag} {h : Heap} {C : Addr} {bmB : List Value} {newId : String} (X : K.In h) (q : W.excIn K C bmB newId = true) :
  ∃ bm N nm qn bs hdct sn sub ab col dd k0 k1 k2 k3 k5 mN, h.get? C = some (excClassObj nm qn C N bs bm hdct sn sub ab col dd k0 k1 k2 k3 k5 newId) /\ h.Ns N mN /\ mN "__init__" = none /\ OwnTail h bmB bm := by
 unfold W.excIn at q
 split at q
 ·rename_i d1 cd sl ho
  split at q
  ·rename_i C1 bm k0 k1 k2 k3 n1 k5 hm hs
   simp only [beq_iff_eq, Bool.not_eq_true', Bool.and_eq_true] at q
   obtain ⟨⟨⟨⟨⟨y1, y2⟩, y3⟩, y4⟩, y5⟩, y6⟩ := q
   subst y1 y2
   obtain ⟨a1, a2, a3, a4, a5, a6, a7, a8, a9, a10, a11⟩ := cd
   dsimp only at hm y3 y5 y6
   subst hm y3
   obtain ⟨l⟩ := sl
   have hl : l = [k0, k1, k2, k3, some (.builtin n1), k5] := hs
   subst hl
   exact ⟨bm, _, _, _, _, _, _, _, _, _, _, k0, k1, k2, k3, k5, _, X _ _ ho, .of_isNs (W.isNs_of_in X y5), W.nsMap_none_of_in X y5 y6, W.tail_of_in X y4⟩
  ·cases q
 ·cases q
def XC (K : W.Frag) (c : Str) (C : Addr) : Prop := W.nsIn K mainGlobals c = some (some (.ref C)) /\ ys6 K C = some c
def RXp (X : Cx) (pins : List (Addr × Obj)) (W : Str -> St -> Hp -> Prop) (ev : Value) (s3 : Shared) : Prop :=
 ∃ (e C : Addr) (a0 : Value) (σ' : St) (H1 : Hp) (s1 : Shared) (H' : Hp) (B : Heap) (c : Str), ev = .ref e /\ Inv X pins σ' H1 s1 /\ s3.os = s1.os /\ AllBare s3.gens /\ Flown X.prog X.w X.stack H1 s1 H' B s3.heap /\
  Heap.FlyingW B X.stack e (.ref C) a0 s3.heap /\ XC X.K c C /\ W c σ' H'
def RX (X : Cx) (pins : List (Addr × Obj)) (W : Str -> St -> Hp -> Prop) (ev : Value) (s' : Shared) : Prop :=
 wpAny (model X.prog X.w) X.A (noteFrame ev X.env) (fun _ s2 => wpAny (model X.prog X.w) X.A (setFlight ev none) (fun _ s3 => RXp X pins W ev s3) noE s2) noE s'
section
variable {X : Cx} {pins : List (Addr × Obj)} {σ : St} {H : Hp} {s : Shared} {W : Str -> St -> Hp -> Prop}
theorem yq2 {E : XK} {ev : Value} {s' : Shared} (T : Top X) (I : Inv X pins σ H s) (h : CXx X.prog X.w X.stack H s E ev s') (hE : ∀ v o H', E v o H' -> ∃ c C, v = .ref C /\ XC X.K c C /\ W c σ H') : RX X pins W ev s' := by
 obtain ⟨e, C, a0, H', B, rfl, os, bare, f, fl, q⟩ := h
 obtain ⟨c, C', z, xc, w⟩ := hE _ _ _ q
 cases z
 have fr : X.A.frames = some (X.env :: X.outer) := by rw [<- T.stk]; exact I.ok.frames
 have fl0 := fl
 rw [T.stk] at fl
 refine wpAny_looks_onW fr T.frm fl fun h1 hh up => ?_
 have f1 := f.on fl0.2.2.1 hh.1 up
 refine wpAny_landsW hh fun h2 fl2 up2 => ?_
 rw [<- T.stk] at fl2 hh
 exact ⟨e, C, a0, σ, H, s, H', B, c, rfl, I, os, bare, f1.on hh.2.2.1 fl2.1 up2, fl2, xc, w⟩
theorem yq1 {e C : Addr} {c : Str} {us : List Value} {h1 : Heap} (T : Top X) (I : Inv X pins σ H s) (hm : Heap.MadeExcOf s.heap h1 e (.ref C) us) (xc : XC X.K c C) (q : W c σ H) : RX X pins W (.ref e) { s with heap := h1 } := by
 have fr : X.A.frames = some (X.env :: X.outer) := by rw [<- T.stk]; exact I.ok.frames
 have hin : ∀ env ∈ X.stack, ∀ a, env.frame = some a -> a ∈ frs X.stack := fun env he a ha => List.mem_filterMap.mpr ⟨env, he, ha⟩
 have ff := PySem.W.funFrames_hide I.stack hin
 have st0 : (PySem.W.hideAll s.heap (frs X.stack)).StaysIn s.heap := fun b o z => PySem.W.of_hideAll _ z
 have f0 : Flown X.prog X.w X.stack H s H (PySem.W.hideAll s.heap (frs X.stack)) s.heap :=
  ⟨Un.refl, I.hok, st0, fun b o z => (by
   obtain ⟨ob, eb⟩ := (I.hok b o z).there
   exact ⟨ob, PySem.W.hideAll_get _ eb fun y => by rw [I.stkFree b y] at z; cases z⟩), fun b o z hb => ⟨o, PySem.W.hideAll_get _ z hb⟩⟩
 obtain ⟨t, he, htn, ht⟩ := hm.there
 have ff' : s.heap.FunFrames (PySem.W.hideAll s.heap (frs X.stack)) (X.env :: X.outer) := by rw [<- T.stk]; exact ff
 have en : (PySem.W.hideAll s.heap (frs X.stack)).get? e = none := by
  cases z : (PySem.W.hideAll s.heap (frs X.stack)).get? e with
  | none => rfl
  | some o => have := st0 e o z; rw [hm.new] at this; cases this
 have key : wpAny (model X.prog X.w) X.A (noteFrame (.ref e) X.env) (fun _ s2 => wpAny (model X.prog X.w) X.A (setFlight (.ref e) none) (fun _ s3 => RXp X pins W (.ref e) s3) noE s2) noE { s with heap := h1 } := by
  unfold noteFrame
  simp only [T.frm]
  refine wpAny_bind (wpAny_field (s := { s with heap := h1 }) (x := Value.none) he rfl (by rfl) ?_)
  rw [if_neg (by decide)]
  refine wpAny_newEntryW (s := { s with heap := h1 }) (a0 := .ref t) fr (ff'.of_keeps fun b o z _ => ⟨o, hm.keeps b o z, rfl⟩) T.frm he (fun b o z => hm.keeps b o (st0 b o z)) en rfl (by simp) (by rfl) fun h2 hL => ?_
  obtain ⟨k1, k2, k3, k4⟩ := hL
  rw [<- T.stk] at k2
  exact ⟨e, C, .ref t, σ, H, s, H, _, c, rfl, I, rfl, I.bare, f0.on I.stack k1 ((Heap.UpToSlots.of_keeps hm.keeps).trans k4), ⟨k1, en, k2, k3⟩, xc, q⟩
 exact key
theorem zh7 {E : XK} {ev : Value} {s' : Shared} (T : Top X) (h : RX X pins (fun c _ H' => ∀ C, XC X.K c C -> E (.ref C) none H') ev s') :
  wpAny (model X.prog X.w) X.A (leaving X.env ev) (fun _ s'' => CXx X.prog X.w X.outer X.H₀ X.s₀ E ev s'') (fun e' s'' => CXx X.prog X.w X.outer X.H₀ X.s₀ E e' s'') s' := by
 unfold leaving
 refine wpAny_bind (wpAny_mono h (fun _ s2 h2 => wpAny_mono h2 (fun _ s3 h3 => ?_) fun _ _ z => z.elim) fun _ _ z => z.elim)
 obtain ⟨e, C, a0, σ', H1, s1, H', B, c, rfl, I, os, bare, f, fl, xc, q⟩ := h3
 obtain ⟨l1, l2, l3, l4⟩ := fl
 rw [T.stk] at l3
 exact ⟨e, C, a0, H', B, rfl, by rw [os]; exact I.os, bare, f.out T I os bare, ⟨l1, l2, l3.2.2, l4⟩, q C xc⟩
end
abbrev Cx.bear (X : Cx) (pins : List (Addr × Obj)) (E : Value -> Shared -> Prop) : Cx := { X with pn := X.pn ++ pins, xe := E }
section
variable {X : Cx} {pins pins' : List (Addr × Obj)} {σ : St} {H : Hp} {s : Shared} {E : Value -> Shared -> Prop}
theorem Cx.Ok.bear (ok : X.Ok) : (X.bear pins E).Ok := ⟨ok.mod, ok.kind, ok.glob, ok.blt, ok.above, ok.inj, ok.has, ok.cab, ok.hd, ok.frames, ok.stk, ok.exf, ok.bs, ok.bsz, ok.noex, ok.exfs, ok.funs, ok.frf⟩
theorem Cx.Ok.unbear (ok : (X.bear pins E).Ok) : X.Ok := ⟨ok.mod, ok.kind, ok.glob, ok.blt, ok.above, ok.inj, ok.has, ok.cab, ok.hd, ok.frames, ok.stk, ok.exf, ok.bs, ok.bsz, ok.noex, ok.exfs, ok.funs, ok.frf⟩
theorem Inv.bear (I : Inv X (pins ++ pins') σ H s) : Inv (X.bear pins E) pins' σ H s := ⟨I.ok.bear, I.os, I.bare, I.base, I.loc, I.cell, I.free, I.freeC, fun p hp => I.pin p (by rw [<- append_assoc]; exact hp), I.hok, I.len⟩
theorem Inv.unbear (I : Inv (X.bear pins E) pins' σ H s) : Inv X (pins ++ pins') σ H s := ⟨I.ok.unbear, I.os, I.bare, I.base, I.loc, I.cell, I.free, I.freeC, fun p hp => I.pin p (by rw [<- append_assoc] at hp; exact hp), I.hok, I.len⟩
theorem Inv.fewer (I : Inv X (pins ++ pins') σ H s) : Inv X pins σ H s := ⟨I.ok, I.os, I.bare, I.base, I.loc, I.cell, I.free, I.freeC, fun p hp => I.pin p (by rw [<- append_assoc]; exact mem_append_left _ hp), I.hok, I.len⟩
theorem SP.unbear {D : Ends} {f : Flow} {s' : Shared} (h : SP (X.bear pins E) pins' D f s') : SP X (pins ++ pins') D f s' := by
 cases f with
 | next => obtain ⟨σ', H', I, q⟩ := h; exact ⟨σ', H', I.unbear, q⟩
 | brk => obtain ⟨σ', H', I, q⟩ := h; exact ⟨σ', H', I.unbear, q⟩
 | cont => obtain ⟨σ', H', I, q⟩ := h; exact ⟨σ', H', I.unbear, q⟩
 | ret u => obtain ⟨v, σ', H', I, r, q⟩ := h; exact ⟨v, σ', H', I.unbear, r, q⟩
variable (nx : X.xe = noE)
include nx
theorem PT.bear {e : Expr} {t : TT} (h : PT X e t) : PT (X.bear pins E) e t := fun pins' s σ H Q I hw =>
 wpAny_mono (h _ s σ H Q I.unbear hw) (fun _ _ ⟨H', I', q⟩ => ⟨H', I'.bear, q⟩) fun _ _ z => by rw [nx] at z; exact z.elim
theorem PA.bear {es : List Expr} {t : TA} (h : PA X es t) : PA (X.bear pins E) es t := fun pos pins' s σ H Q I hw =>
 wpAny_mono (h pos _ s σ H Q I.unbear hw) (fun _ _ ⟨v, H', I', r, q⟩ => ⟨v, H', I'.bear, r, q⟩) fun _ _ z => by rw [nx] at z; exact z.elim
end
end
section
abbrev MXe := Ro -> Option Str
abbrev MXs := Ro -> Option (Str × Ro)
abbrev WX := Str -> St -> Hp -> Prop
def TXe (K : PySem.W.Frag) (x : MXe) (W : WX) : St -> Hp -> Prop := fun σ H => ∃ F0 H0 F ρ c, Rl K F0 H0 F H σ ρ /\ x ρ = some c /\ ∀ F' H', Ext F H F' H' -> W c σ H'
def TXs (K : PySem.W.Frag) (x : MXs) (W : WX) : St -> Hp -> Prop := fun σ H => ∃ F0 H0 F ρ c ρ', Rl K F0 H0 F H σ ρ /\ x ρ = some (c, ρ') /\ ∀ F' H' σ', Rl K F0 H0 F' H' σ' ρ' -> Same F F' -> W c σ' H'
abbrev Cx.rx (X : Cx) (pins : List (Addr × Obj)) (W : WX) : Cx := X.bear pins (RX X pins W)
def PEX (X : Cx) (e : Expr) (x : MXe) : Prop := ∀ pins W, PE (X.rx pins W) e fun σ H _ => TXe X.K x W σ H
def PSX (X : Cx) (st : Stmt) (x : MXs) : Prop := ∀ pins W, PS (X.rx pins W) st fun _ σ H => TXs X.K x W σ H
def PSsX (X : Cx) (st : List Stmt) (x : MXs) : Prop := ∀ pins W, PSs (X.rx pins W) st fun _ σ H => TXs X.K x W σ H
def xE (x : MXe) : MXs := fun ρ => (x ρ).map fun c => (c, ρ)
theorem xE_e {K : PySem.W.Frag} {x : MXe} {W : WX} {σ : St} {H : Hp} (h : TXs K (xE x) W σ H) : TXe K x W σ H := by
 obtain ⟨F0, H0, F, ρ, c, ρ', rl, e, w⟩ := h
 unfold xE at e
 cases h1 : x ρ with
 | none => rw [h1] at e; cases e
 | some c' =>
  rw [h1] at e; cases e
  exact ⟨F0, H0, F, ρ, c, rl, h1, fun F' H' x1 => w F' H' σ (rl.go x1) x1.ff⟩
section
variable {X : Cx} {st : Stmt} {rest : List Stmt} {e c : Expr} {pos : Pos}
def yk9 : MXs := fun _ => none
theorem zx9 : PSsX X rest yk9 := fun _ _ _ _ _ _ _ _ hpat => by obtain ⟨_, _, _, _, _, _, _, z, _⟩ := hpat; cases z
theorem K5 {x : MXs} (h : PSX X st x) : PSsX X (st :: rest) x := fun pins W => (M3 (h pins W) (zx9 pins W)).imp fun _ _ _ q => q
theorem W9 {x : MXs} (h : PSX X st x) : PSsX X [st] x := fun pins W => zs1 (h pins W)
def xif (c : MB) (x y : MXs) : MXs := fun ρ => match c ρ with | some true => x ρ | some false => y ρ | none => none
theorem zg6 {ca : MB} {a b : List Stmt} {xa xb : MXs} (nx : X.xe = noE) (hc : PC' X c ca) (ha : PSsX X a xa) (hb : PSsX X b xb) : PSX X (.If c a b pos) (xif ca xa xb) := fun pins W =>
 (yp2 (PT.bear nx hc) (ha pins W) (hb pins W)).imp fun D σ H hpat => by
  obtain ⟨F0, H0, F, ρ, c, ρ', rl, e, w⟩ := hpat
  unfold xif at e
  split at e
  ·rename_i h1
   exact ⟨F0, H0, F, ρ, _, rl, h1, fun F1 H1 x1 => iteT ⟨F0, H0, F1, ρ, c, ρ', rl.go x1, e, fun F' H' σ' rl' sf => w F' H' σ' rl' (x1.ff.trans sf)⟩⟩
  ·rename_i h1
   exact ⟨F0, H0, F, ρ, _, rl, h1, fun F1 H1 x1 => iteF ⟨F0, H0, F1, ρ, c, ρ', rl.go x1, e, fun F' H' σ' rl' sf => w F' H' σ' rl' (x1.ff.trans sf)⟩⟩
  ·cases e
theorem U7 {x : MXe} (h : PEX X e x) (hs : swapsWith e none pos.line X.env = pure false := by rfl) : PSX X (.Expr e pos) (xE x) := fun pins W => (B5 (h pins W) hs).imp fun _ _ _ q => xE_e q
abbrev MFX := List D -> Option Str
def spX (K : W.Frag) (n : Nat) (x : MFX) : Sp := fun vs H _ E => vs.length = n /\ ∃ F ds c, Same F H /\ Reps K F vs ds /\ x ds = some c /\ ∀ C F' H', XC K c C -> Ext F H F' H' -> E (.ref C) none H'
@[irreducible] def J9 (x : MFX) (m : ML) : MXe := fun ρ => (m ρ).bind x
theorem T0 {k n : Nat} {f : Addr} {fd : FuncData} {ps : List Str} {xf : MFX} {m : ML} {x : Str} {p : Pos} {es : List Expr} (nx : X.xe = noE) (T : Top X) (F : FnOk X.prog X.w X.K X.mg X.base (CXx X.prog X.w) k f fd ps (spX X.K n xf)) (hr : Room k X.A) (hg : Gl X x) (hm : X.mg x = some (.ref f))
  (hk : PySem.W.keepIn X.K (.ref f) = true) (hb : Binds X.K fd ps []) (hl : (e :: es).length = n) (ha : PAs X (e :: es) m) (hm2 : ∀ ρ ds, m ρ = some ds -> ds.length = (e :: es).length)
  (hdb : (x == ("__debug__" : Str)) = false := by decide) (he : starEach (e :: es) X.env = (false, eval e X.env) :: starEach es X.env := by rfl) (hpl : (backTo pos (starEach es X.env)).any (·.1) = false := by rfl) :
  PEX X (.Call (.Name x p) (e :: es) [] pos) (J9 xf m) := by
 intro pins W pins' s σ H Q I h
 obtain ⟨F0, H0, F1, ρ, c, rl, e1, w⟩ := h
 unfold J9 at e1
 cases h1 : m ρ with
 | none => rw [h1] at e1; cases e1
 | some ds =>
  rw [h1] at e1
  have e1 : xf ds = some c := e1
  have ha' : PA (X.rx pins W) (e :: es) (TAs X.K m) := PA.bear nx ha
  refine wpAny_Call_Name_kw (P9 I hg hm ?_ hdb)
  refine PySem.W.callWith_K (h₀ := X.base) I.ok.mod.kin hk (thn (ha' pos pins' s σ H (fun vs H1 => vs.length = n /\ ∃ F2, Ext F1 H F2 H1 /\ Reps X.K F2 vs ds) I ⟨F0, H0, F1, ρ, ds, rl, h1, fun vs F2 H2 x2 r2 => ⟨by rw [r2.length, hm2 ρ ds h1, hl], F2, x2, r2⟩⟩) fun us s1 ⟨vs, H1, I1, r, hn, F2, x2, r2⟩ => ⟨I1.kIn, ?_⟩) he hpl
  have sp0 : spX X.K n xf vs H1 (fun _ _ => False) (fun v _ H' => ∃ c C, v = .ref C /\ XC X.K c C /\ W c σ H') := ⟨hn, F2, ds, c, x2.fh, r2, e1, fun C F' H' xc x3 => ⟨c, C, rfl, xc, w F' H' (x2.trans x3)⟩⟩
  have hlu : us.length = ps.length := by rw [<- r.length]; exact F.len _ _ _ _ sp0
  have hbd := hb s1 us I1.kIn (by rw [append_nil]; exact hlu)
  rw [append_nil] at hbd
  refine wpAny_call (codeAny_mono (F.run X.A X.stack s1 H1 ⟨us, []⟩ us vs _ _ hr I1.env0 hbd r sp0) fun r' s' hq => ?_)
  cases r' with
  | error ev => exact yq2 (E := fun v _ H' => ∃ c C, v = .ref C /\ XC X.K c C /\ W c σ H') T I1.unbear.fewer hq fun v o H' z => z
  | ok fl =>
   cases fl with
   | ret u => obtain ⟨_, _, _, _, _, _, _, z⟩ := hq; exact z.elim
   | next => exact False.elim hq
   | brk => exact False.elim hq
   | cont => exact False.elim hq
def zy8 (c : Str) (m : ML) : MXs := fun ρ => (m ρ).map fun _ => (c, ρ)
theorem zg5 {C : Addr} {x : Str} {es : List Expr} {m : ML} {n : Nat} {np cpos : Pos} (nx : X.xe = noE) (T : Top X) (hc : X.calm = true) (hg : Gl X x) (hm : X.mg x = some (.ref C)) (xc : XC X.K x C) (q : PySem.W.excIn X.K C bmV "ValueError.__new__" = true)
  (ha : PAs X (e :: es) m) (hl : ∀ ρ ds, m ρ = some ds -> ds.length = n) (hn : n <= sizeLine) (hdb : (x == ("__debug__" : Str)) = false := by decide)
  (he : starEach (e :: es) X.env = (false, eval e X.env) :: starEach es X.env := by rfl) (hpl : (backTo cpos (starEach es X.env)).any (·.1) = false := by rfl) :
  PSX X (.Raise (some (.Call (.Name x np) (e :: es) [] cpos)) none pos) (zy8 x m) := by
 intro pins W pins' s σ H D I h
 obtain ⟨F0, H0, F1, ρ, c, ρ', rl, e1, w⟩ := h
 unfold zy8 at e1
 cases h1 : m ρ with
 | none => rw [h1] at e1; cases e1
 | some ds =>
  rw [h1] at e1; cases e1
  obtain ⟨bm, N, nm, qn, bs, hdct, sn, sub, ab, col, dd, k0, k1, k2, k3, k5, mN, hC, hN, hni, TL⟩ := xobj I.mod.kin q
  have ha' : PA (X.rx pins W) (e :: es) (TAs X.K m) := PA.bear nx ha
  have h2 := ha' cpos pins' s σ H (fun vs H1 => vs.length = n /\ W x σ H1) I ⟨F0, H0, F1, ρ, ds, rl, h1, fun vs F2 H2 x2 r2 => ⟨by rw [r2.length]; exact hl ρ ds h1, w F2 H2 σ (rl.go x2) x2.ff⟩⟩
  refine wpAny_Raise_call_subT (C := C) (N := N) (bm := bm) (nm := nm) (q := qn) (bs := bs) (sub := sub) (sn := sn) (hdct := hdct) (col := col) (ab := ab) (dd := dd) (k0 := k0) (k1 := k1) (k2 := k2) (k3 := k3) (k5 := k5) PySem.F.excBase_ValueError (TL.hasType PySem.F.excBase_ValueError.hasBase) (I.ok.hd hc) ?_ hni (P9 I hg hm ⟨rfl, ?_⟩ hdb)
  ·rw [he]
   show (false || (backTo cpos (starEach es X.env)).any (·.1)) = false
   rw [hpl]; rfl
  ·rw [he] at h2 ⊢
   refine Calls.evalArgs_plain (wpAny_mono h2 (fun us s2 ⟨vs, H1, I1, r1, hl1, q1⟩ => ⟨rfl, by rw [<- r1.length, hl1]; exact hn, I1.bk _ _ hC, hN.keeps I1.bk, TL.keeps I1.bk, fun h3 a hm3 => ?_⟩) fun _ _ y => y)
   exact yq1 T I1.unbear.fewer hm3 xc q1
def runX (n : Nat) (x : MXs) : MFX := fun ds => (x (j7 n ds)).map (·.1)
theorem Fun.okX {P : Program} {w : World} {K : PySem.W.Frag} {mg : Str -> Option Value} {base : Heap} {x qual : Str} {st : Stmt} {f : Addr} {fd : FuncData} {N ps : List Str} {k : Nat} {m : MXs} (Fn : Fun K x qual st f fd) (Sc : FnScope N ps (x0 st))
  (hbody : ∀ (cdv : Value) (A : Around) (outer : List Env) (s : Shared) (H : Hp) (E : XK), Room k (A.deeper (envOfC qual (x0 st) s.heap.objs.size f cdv)) -> PSsX (cxOf (CXx P w) P w K mg base N qual (x0 st) f cdv A outer s H E).nox (t4 st) m) :
  FnOk P w K mg base (CXx P w) (k + 1) f fd ps (spX K ps.length (runX N.length m)) := by
 obtain ⟨oc, od, kV, doc, pm, an, cdv, ct, osl, rfl, lk, hcd⟩ := Fn.ex
 refine yb5 lk hcd Sc (fun vs H Q E h => h.1) fun A outer s H vs Q E hr h => ?_
 obtain ⟨hl, F, ds, c, sf, rs, e, w0⟩ := h
 unfold runX at e
 cases h1 : m (j7 N.length ds) with
 | none => rw [h1] at e; cases e
 | some o =>
  obtain ⟨c', ρ'⟩ := o
  rw [h1] at e; cases e
  have hb := hbody cdv A outer s H E hr
  let W : WX := fun c _ H' => ∀ C, XC K c C -> E (.ref C) none H'
  refine ⟨fun _ σ H => TXs K m W σ H, fun pins s1 σ H1 D I q => ?_, F, H, F, j7 N.length ds, c', ρ', M0 sf rs, h1, fun F' H' σ' rl _ C xc => w0 C F' H' xc rl.ext⟩
  have I1 : Inv (cxOf (CXx P w) P w K mg base N qual (x0 st) f cdv A outer s H E).nox (pins ++ []) σ H1 s1 := by rw [append_nil]; exact I.wish _
  refine wpAny_mono (hb pins W [] s1 σ H1 D I1.bear q) (fun fl s' z => ?_) fun ev s' z => ?_
  ·have := z.unbear
   rw [append_nil] at this
   exact this.unwish
  ·exact zh7 (X := (cxOf (CXx P w) P w K mg base N qual (x0 st) f cdv A outer s H E).nox) ⟨rfl, rfl, rfl⟩ z
end
end
section
section
variable {X : Cx} {pins : List (Addr × Obj)} {E : Value -> Shared -> Prop} (nx : X.xe = noE)
include nx
end
section
variable {X : Cx} {e c : Expr} {pos : Pos} {st : Stmt} {rest : List Stmt}
end
end
section
abbrev Cx.inX (X : Cx) (a : Addr) : Cx := { X with A := X.A.mark (some (.ref a)), calm := false }
section
variable {X : Cx} {pins : List (Addr × Obj)} {σ : St} {H : Hp} {s : Shared} {a C : Addr}
theorem Cx.Ok.inX (ok : X.Ok) : (X.inX a).Ok := ⟨ok.mod, ok.kind, ok.glob, ok.blt, ok.above, ok.inj, ok.has, ok.cab, (fun z => by cases z), ok.frames, ok.stk, ok.exf, ok.bs, ok.bsz, ok.noex, ok.exfs, ok.funs, ok.frf⟩
theorem Inv.inX (I : Inv X pins σ H s) : Inv (X.inX a) pins σ H s := ⟨I.ok.inX, I.os, I.bare, I.base, I.loc, I.cell, I.free, I.freeC, I.pin, I.hok, I.len⟩
theorem Inv.outX (ok : X.Ok) (I : Inv (X.inX a) pins σ H s) : Inv X pins σ H s := ⟨ok, I.os, I.bare, I.base, I.loc, I.cell, I.free, I.freeC, I.pin, I.hok, I.len⟩
theorem Inv.gone {i : Nat} {n : Str} {h' : Heap} {t' : Nat} {v : Option Value} {m : Str -> Option Value} (I : Inv X pins σ H s) (hN : X.N.Nodup) (hi : X.N[i]? = some n) (hm : s.heap.Ns X.env.locals m) (hn : h'.Ns X.env.locals (fun x => if x = n then v else m x)) (hs : Heap.SameBut X.env.locals s.heap h') :
  Inv X pins (σ.set i none) H { s with heap := h', toks := t' } := by
 have old : ∀ b o, X.s₀.heap.get? b = some o -> b ≠ X.env.locals := fun b o e => Nat.ne_of_lt (Nat.lt_of_lt_of_le (Heap.lt_size e) I.ok.above)
 refine ⟨I.ok, I.os, I.bare, ⟨fun b o e n hb hx => (hs.2 b (old b o e)).trans (I.base.keep b o e n hb hx), fun b o e n hb hx => ?_, I.base.free, fun b o e hx => ?_, I.base.tups, I.base.frzs, I.base.tbls⟩, ⟨_, hn, fun j y u e1 e2 e3 => ?_⟩, fun y c e => ?_, I.free, I.freeC, fun p hp => ?_, fun b ob e => ?_, by rw [length_set]; exact I.len⟩
 ·obtain ⟨sl, e1⟩ := I.base.slot b o e n hb hx
  exact ⟨sl, (hs.2 b (old b o e)).trans e1⟩
 ·obtain ⟨o1, e1⟩ := I.base.there b o e hx
  exact ⟨o1, (hs.2 b (old b o e)).trans e1⟩
 ·have hj : j ≠ i := fun z => by
   subst z
   have hl : j < σ.length := by
    rcases Nat.lt_or_ge j σ.length with z | z
    ·exact z
    ·rw [getElem?_eq_none (by simpa using z)] at e2; cases e2
   rw [getElem?_set_self hl] at e2; cases e2
  rw [getElem?_set_ne (Ne.symm hj)] at e2
  obtain ⟨m0, hm0, hl0⟩ := I.loc
  have hmm : ∀ z, m0 z = m z := fun z => by
   obtain ⟨oo, es, ep, ho, hd, _, hf⟩ := hm0
   obtain ⟨oo', es', ep', ho', hd', _, hf'⟩ := hm
   rw [ho] at ho'; cases ho'
   rw [hd] at hd'; cases hd'
   rw [<- hf, <- hf']
  obtain ⟨w, r, l⟩ := hl0 j y u e1 e2 e3
  refine ⟨w, r, ?_⟩
  have hy : y ≠ n := fun z => hj (A0 hN e1 (z ▸ hi))
  rcases l with ⟨k, q⟩ | ⟨k, c, e, z⟩
  ·exact .inl ⟨k, by show (if y = n then v else m y) = some w; rw [if_neg hy, <- hmm]; exact q⟩
  ·exact .inr ⟨k, c, e, z.sameBut hs (I.cne y c e)⟩
 ·obtain ⟨w, z⟩ := I.cell y c e
  exact ⟨w, z.sameBut hs (I.cne y c e)⟩
 ·obtain ⟨e, n, ne, nf, d⟩ := I.pin p hp
  exact ⟨(hs.2 p.1 ne).trans e, n, ne, nf, d⟩
 ·refine (I.hok b ob e).stay (fun c u hc q => (hs.2 c ?_).trans q) (fun _ q => q) fun _ _ q => q
  rintro rfl
  rcases hc with z | z
  ·rw [<- z, I.free] at e; cases e
  ·rw [I.free] at z; cases z
theorem Inv.track {o : HO} (I : Inv X pins σ H s) (h0 : X.s₀.heap.get? a = none) (hL : a ≠ X.env.locals) (hc : ∀ x c, X.env.cells.lookup x = some c -> c ≠ a) (hp : ∀ p ∈ X.pn ++ pins, p.1 ≠ a) (hn : H a = none) (new : ObjOk X.prog X.w (upd H a o) s.heap a o) :
  Inv X pins σ (upd H a o) s := by
 have nb : ∀ b o, X.s₀.heap.get? b = some o -> b ≠ a := fun b o e z => by rw [z, h0] at e; cases e
 refine ⟨I.ok, I.os, I.bare, ⟨I.base.keep, I.base.slot, fun b o e n hx => ?_, I.base.there, fun b xs e => ?_, fun b o u e => ?_, fun b ps e => ?_⟩, I.loc, I.cell, ?_, fun x c e => ?_, fun p hp' => ?_, fun b u e => ?_, I.len⟩
 ·rw [w8 (nb b o e)]; exact I.base.free b o e n hx
 ·have := I.base.tups b xs e
  rw [w8 (t8 this hn)]; exact this
 ·have := I.base.frzs b o u e
  rw [w8 (t8 this hn)]; exact this
 ·obtain ⟨more, this⟩ := I.base.tbls b ps e
  exact ⟨more, by rw [w8 (t8 this hn)]; exact this⟩
 ·rw [w8 (Ne.symm hL)]; exact I.free
 ·rw [w8 (hc x c e)]; exact I.freeC x c e
 ·obtain ⟨e, n, r⟩ := I.pin p hp'
  exact ⟨e, by rw [w8 (hp p hp')]; exact n, r⟩
 ·by_cases hb : b = a
  ·subst hb; rw [w9] at e; cases e; exact new
  ·rw [w8 hb] at e
   exact (I.hok b u e).stay (fun c v _ q => q) (fun c q => by rw [w8 (t8 q hn)]; exact q) fun c xs q => by rw [w8 (t8 q hn)]; exact q
end
theorem Rl.drop {K : W.Frag} {F0 H0 F H : Hp} {σ : St} {ρ : Ro} (r : Rl K F0 H0 F H σ ρ) (i : Nat) : Rl K F0 H0 F H (σ.set i none) (ρ.set i none) := by
 have get : ∀ (j : Nat) x, (ρ.set i none)[j]? = some (some x) -> i ≠ j /\ ρ[j]? = some (some x) := fun j x e => by
  by_cases hj : i = j
  ·subst hj
   have hl : i < ρ.length := by
    rcases Nat.lt_or_ge i ρ.length with z | z
    ·exact z
    ·rw [getElem?_eq_none (by simpa using z)] at e; cases e
   rw [getElem?_set_self hl] at e; cases e
  ·rw [getElem?_set_ne hj] at e; exact ⟨hj, e⟩
 have gs : ∀ (j : Nat) x, (σ.set i none)[j]? = some (some x) -> σ[j]? = some (some x) := fun j x e => by
  by_cases hj : i = j
  ·subst hj
   have hl : i < σ.length := by
    rcases Nat.lt_or_ge i σ.length with z | z
    ·exact z
    ·rw [getElem?_eq_none (by simpa using z)] at e; cases e
   rw [getElem?_set_self hl] at e; cases e
  ·rw [getElem?_set_ne hj] at e; exact e
 refine ⟨r.ext, by simp [r.len], fun j d e => ?_, fun j ds e => ?_, fun j k p ds es hjk e1 e2 e3 e4 => r.inj j k p ds es hjk (get j _ e1).2 (get k _ e2).2 (gs j _ e3) (gs k _ e4), fun j p ds e => ?_, fun j k p ds es e1 e2 e3 => r.obn j k p ds es (get j _ e1).2 (get k _ e2).2 (gs k _ e3), fun j k p q ds es e1 e2 => r.ob1 j k p q ds es (get j _ e1).2 (get k _ e2).2⟩
 ·obtain ⟨n, e⟩ := get j _ e
  rw [getElem?_set_ne n]; exact r.sh j d e
 ·obtain ⟨n, e⟩ := get j _ e
  rw [getElem?_set_ne n]; exact r.own j ds e
 ·obtain ⟨n, e⟩ := get j _ e
  rw [getElem?_set_ne n]; exact r.ob j p ds e
@[irreducible] def mtry (names : List Str) (mb : MS) (xb : MXs) (i : Nat) (ms : MS) : MS := fun ρ => match mb ρ with
 | some o => some o
 | none => match xb ρ with
  | some (c, ρ1) => if c ∈ names then (match ms (ρ1.set i (some (.sh (.exc c)))) with | some (.nx ρ2) => some (.nx (ρ2.set i none)) | _ => none) else none
  | none => none
section
variable {X : Cx} {pos np hpos : Pos}
theorem yq9 {body suite : List Stmt} {b0 : Stmt} {mb ms : MS} {xb : MXs} {names : List Str} {x n : Str} {Wa : Addr} {i : Nat} (nx : X.xe = noE) (T : Top X) (hg : Gl X x) (hm : X.mg x = some (.ref Wa))
  (hcl : ∀ c ∈ names, ∀ C, XC X.K c C -> PySem.W.exmOne X.K (.ref C) (.ref Wa) = some true) (hN : X.N.Nodup) (hi : X.N[i]? = some n) (hl : X.env.scope.names.lookup n = some .local)
  (hb : PSsd X body mb) (hx : PSsX X body xb) (hs : ∀ a, PSsd (X.inX a) (b0 :: suite) ms) (hdb : (x == ("__debug__" : Str)) = false := by decide) :
  PSd X (.Try body [.ExceptHandler (some (.Name x np)) (some n) (b0 :: suite) hpos] [] [] pos) (mtry names mb xb i ms) := by
 intro pins s σ H D I ⟨F0, H0, F, ρ, o, rl, e, ok⟩
 unfold mtry at e
 refine wpAny_Try_except ?_
 cases h1 : mb ρ with
 | some o1 =>
  rw [h1] at e; cases e
  refine wpAny_mono (hb pins s σ H D I ⟨F0, H0, F, ρ, o, rl, h1, ok⟩) (fun f s1 h => ?_) fun _ _ z => by rw [nx] at z; exact z.elim
  cases f with
  | next =>
   obtain ⟨σ1, H1, I1, q⟩ := h
   exact pss_nil pins s1 σ1 H1 D I1 q
  | brk => exact h
  | cont => exact h
  | ret u => exact h
 | none =>
  rw [h1] at e
  cases h2 : xb ρ with
  | none => rw [h2] at e; cases e
  | some cr =>
   obtain ⟨c, ρ1⟩ := cr
   rw [h2] at e
   dsimp only at e
   split at e
   ·rename_i hc
    cases h3 : ms (ρ1.set i (some (.sh (.exc c)))) with
    | none => rw [h3] at e; cases e
    | some o3 =>
     rw [h3] at e
     cases o3 with
     | nx ρ2 =>
      cases e
      let W : WX := fun c' σ' H' => c' = c /\ ∃ F', Rl X.K F0 H0 F' H' σ' ρ1 /\ Same F F'
      have I0 : Inv X (pins ++ []) σ H s := by rw [append_nil]; exact I
      refine wpAny_mono (hx pins W [] s σ H { nx := fun _ _ => False, rt := fun _ _ => False } I0.bear ⟨F0, H0, F, ρ, c, ρ1, rl, h2, fun F' H' σ' rl' sf => ⟨rfl, F', rl', sf⟩⟩) (fun f s1 h => ?_) fun ev s1 h => ?_
      ·cases f with
       | next => obtain ⟨_, _, _, z⟩ := h; exact z.elim
       | brk => obtain ⟨_, _, _, z⟩ := h; exact z.elim
       | cont => obtain ⟨_, _, _, z⟩ := h; exact z.elim
       | ret u => obtain ⟨_, _, _, _, _, z⟩ := h; exact z.elim
      refine wpAny_mono h (fun _ s2 h2 => wpAny_mono h2 (fun _ s3 h3 => ?_) fun _ _ z => z.elim) fun _ _ z => z.elim
      obtain ⟨a, C, a0, σ1, H1, sa, H', B, c', rfl, Ia, os, bare, f, fl, xc, rfl, F1, rl1, sf1⟩ := h3
      have I3 : Inv X pins σ1 H' s3 := f.inv Ia os bare
      have LT : ∀ M : Model, PySem.W.Looks M s3.heap (typeOf (.ref a)) (.ref C) := fun M => by
       obtain ⟨ob, e1, e2⟩ := fl.there
       exact e2 ▸ (PySem.W.Looks.ld e1).andThen .now
      refine wpAny_handleBy_cons (codeAny_handlers_test (P9 (X := X.inX a) I3.inX hg hm ((PySem.W.exm_one I3.kIn (LT _) (hcl _ hc C xc)).here ?_) hdb)) (by intro z; cases z)
      refine codeAny_handlers_suite_as ?_
      refine lands_againW fl fun h4 fl4 up4 => ?_
      have f4 := f.on fl.2.2.1 fl4.1 up4
      have I4 : Inv X pins σ1 H' { s3 with heap := h4 } := f4.inv Ia os bare
      obtain ⟨oe, vs, he, hec, hed, _⟩ := fl4.first
      have nfr : a ∉ frs X.stack := fun z => by
       obtain ⟨_, o', e', hd'⟩ := fl4.2.2.1.mem z
       rw [he] at e'; cases e'
       exact hd' vs hed
      have young : sa.heap.get? a = none := by
       cases z : sa.heap.get? a with
       | none => rfl
       | some o' =>
        obtain ⟨ob, eb⟩ := f4.old a o' z nfr
        have := fl4.2.1
        rw [eb] at this; cases this
      have Ha : H' a = none := by
       cases z : H' a with
       | none => rfl
       | some o' =>
        obtain ⟨ob, eb⟩ := f4.trk a o' z
        have := fl4.2.1
        rw [eb] at this; cases this
      have y0 : X.s₀.heap.get? a = none := by
       cases z : X.s₀.heap.get? a with
       | none => rfl
       | some o' =>
        obtain ⟨o2, e2⟩ := Ia.base.there a o' z (by rw [T.ex]; simp)
        rw [young] at e2; cases e2
      have yL : a ≠ X.env.locals := fun z => by
       obtain ⟨m, ⟨o', _, _, ho', _⟩, _⟩ := Ia.loc
       rw [<- z, young] at ho'; cases ho'
      have yC : ∀ y c, X.env.cells.lookup y = some c -> c ≠ a := fun y c e z => by
       obtain ⟨v, o', ho', _⟩ := Ia.cell y c e
       rw [z, young] at ho'; cases ho'
      have yP : ∀ p ∈ X.pn ++ pins, p.1 ≠ a := fun p hp z => by
       have := (Ia.pin p hp).1
       rw [z, young] at this; cases this
      have xat : XAt a C h4 := ⟨oe, vs, he, hec, hed⟩
      have I5 : Inv X pins σ1 (upd H' a (.ext (XAt a C))) { s3 with heap := h4 } := I4.track y0 yL yC yP Ha ⟨xat, ⟨oe, he⟩, fun g1 g2 z k => by
       obtain ⟨o', vs', z1, z2, z3⟩ := z
       exact ⟨o', vs', k o' z1, z2, z3⟩⟩
      have x5 : Ext F1 H' (upd F1 a (.ext (XAt a C))) (upd H' a (.ext (XAt a C))) := Ext.laid rl1.fh Ha
      have rl5 := (rl1.go x5).set (i := i) (v := .ref a) (d := .exc c') (.exc xc w9)
      refine N9 (X := X.inX a) I5.inX hN hi (.inl hl) (v := .ref a) rfl (fun s5 I6 => ?_) (.inr hl)
      let D2 : Ends := { nx := fun σ2 H2 => ∃ F2, Rl X.K F0 H0 F2 H2 σ2 ρ2 /\ Same F F2, rt := fun _ _ => False }
      refine wpAny_mono (hs a pins s5 _ _ D2 I6 ⟨F0, H0, _, _, _, rl5, h3, fun F2 H2 σ2 rl2 sf2 => ⟨F2, rl2, (sf1.trans x5.ff).trans sf2⟩⟩) (fun fl6 s6 h6 => ?_) fun _ _ z => by rw [show (X.inX a).xe = X.xe from rfl, nx] at z; exact z.elim
      cases fl6 with
      | next =>
       obtain ⟨σ6, H6, I7, F6, rl6, sf6⟩ := h6
       have I8 : Inv X pins σ6 H6 s6 := I7.outX I.ok
       obtain ⟨m, hn, hl0⟩ := id I8.loc
       refine wpAny_nameGoes_keeps hl hn (by rw [I.ok.kind]; rfl) fun h7 v hn7 hs7 => ?_
       exact ⟨_, H6, I8.gone hN hi hn hn7 hs7, ok F6 H6 _ (rl6.drop i) sf6⟩
      | brk => obtain ⟨_, _, _, z⟩ := h6; exact z.elim
      | cont => obtain ⟨_, _, _, z⟩ := h6; exact z.elim
      | ret u => obtain ⟨_, _, _, _, _, z⟩ := h6; exact z.elim
     | _ => cases e
   ·cases e
end
end
section
structure RoomN (k : Nat) (A : Around) : Prop where
 dp : A.depth + 3 * k + 5 < recursionLimit
 un : A.units + 16 * k + 200 < cLine
theorem RoomN.mono {j k : Nat} {A : Around} (r : RoomN k A) (h : j <= k) : RoomN j A := ⟨by have := r.dp; omega, by have := r.un; omega⟩
theorem RoomN.deeper {k : Nat} {A : Around} (r : RoomN (k + 1) A) (env : Env) : RoomN k (A.deeper env) :=
 ⟨by have := r.dp; show A.depth + 1 + 3 * k + 5 < _; omega, by have := r.un; show A.units + 3 + 16 * k + 200 < _; omega⟩
theorem Room.mark {k : Nat} {A : Around} (r : Room k A) (v : Option Value) : RoomN k (A.mark v) := ⟨r.dp, r.un⟩
structure FnOkN (P : Program) (w : World) (K : W.Frag) (mg : Str -> Option Value) (base : Heap) (CX : CXT) (k : Nat) (f : Addr) (fd : FuncData) (ps : List Str) (sp : Sp) : Prop where
 len : ∀ vs H Q E, sp vs H Q E -> vs.length = ps.length
 run : ∀ (A : Around) (outer : List Env) (s : Shared) (H : Hp) (args : Args) (us : List Value) (vs : List V) (Q : VK) (E : XK), RoomN k A -> Env0 P w K mg base A outer s H -> BindsTo s fd args (ps.zip us) -> Vals vs us -> sp vs H Q E ->
  codeAny (model P w) A (.call (.ref f) args) (CR CX outer P w H s Q E) s
theorem FnOkN.mono {P : Program} {w : World} {K : W.Frag} {mg : Str -> Option Value} {base : Heap} {CX : CXT} {j k : Nat} {f : Addr} {fd : FuncData} {ps : List Str} {sp : Sp} (F : FnOkN P w K mg base CX j f fd ps sp) (h : j <= k) : FnOkN P w K mg base CX k f fd ps sp :=
 ⟨F.len, fun A outer s H args us vs Q E hr => F.run A outer s H args us vs Q E (hr.mono h)⟩
abbrev zb4 (CX : CXT) (P : Program) (w : World) (K : W.Frag) (mg : Str -> Option Value) (base : Heap) (N : List Str) (qual : Str) (scope : Scope) (f : Addr) (cd : Value) (A : Around) (outer : List Env) (s : Shared) (H : Hp) (E : XK) : Cx :=
 { cxOf CX P w K mg base N qual scope f cd A outer s H E with calm := false }
theorem zk9 {CX : CXT} {P : Program} {w : World} {K : W.Frag} {mg : Str -> Option Value} {base : Heap} {N ps : List Str} {qual : Str} {scope : Scope} {f : Addr} {cd : Value} {A : Around} {outer : List Env} {s s1 : Shared} {H : Hp} {E : XK} {us : List Value} {vs : List V}
  (S : FnScope N ps scope) (e0 : Env0 P w K mg base A outer s H) (hl : vs.length = ps.length) (r : Vals vs us)
  (x : InCallC s s.heap.objs.size (bindL (envOfC qual scope s.heap.objs.size f cd).kindOf (ps.zip us) fun _ => none) (cellsFrom (s.heap.objs.size + 1) scope.names []) (bindC (envOfC qual scope s.heap.objs.size f cd).kindOf (ps.zip us) fun _ => none) s1) :
  Inv (zb4 CX P w K mg base N qual scope f cd A outer s H E) [] (W0 N vs) H s1 := by
 have e1 : Env0 P w K mg base { A with handled := none } outer s H := ⟨e0.frames, e0.mod, e0.bs, e0.bsz, e0.funs, e0.frf, e0.hok, e0.bare⟩
 have I := zv9 (CX := CX) (E := E) (A := { A with handled := none }) (qual := qual) (f := f) (cd := cd) S rfl e1 hl r x
 exact ⟨⟨I.ok.mod, I.ok.kind, I.ok.glob, I.ok.blt, I.ok.above, I.ok.inj, I.ok.has, I.ok.cab, (fun z => by cases z), Around.frames_deeper e0.frames, I.ok.stk, I.ok.exf, I.ok.bs, I.ok.bsz, I.ok.noex, I.ok.exfs, I.ok.funs, I.ok.frf⟩, I.os, I.bare, I.base, I.loc, I.cell, I.free, I.freeC, I.pin, I.hok, I.len⟩
theorem yb4 {CX : CXT} {P : Program} {w : World} {K : W.Frag} {mg : Str -> Option Value} {base : Heap} {k : Nat} {f : Addr} {name qual : Str} {params : Arguments} {body : List Stmt} {scope : Scope} {dV kV doc pm cdv ct oc : Value} {an od : Option Addr}
  {osl : Array (Option Value)} {N ps : List Str} {sp : Sp} (lk : K.lookup f = some ⟨oc, od, .func (W.fnOf name qual params body scope dV kV doc pm an cdv ct), osl⟩) (hcd : W.codeIn K cdv qual = true) (S : FnScope N ps scope)
  (len : ∀ vs H Q E, sp vs H Q E -> vs.length = ps.length)
  (hbody : ∀ (A : Around) (outer : List Env) (s : Shared) (H : Hp) (vs : List V) (Q : VK) (E : XK), RoomN k (A.deeper (envOfC qual scope s.heap.objs.size f cdv)) -> sp vs H Q E ->
   ∃ t, PSs (zb4 CX P w K mg base N qual scope f cdv A outer s H E) body t /\ t { nx := fun _ H' => Q .non H', rt := Q } (W0 N vs) H) :
  FnOkN P w K mg base CX (k + 1) f (W.fnOf name qual params body scope dV kV doc pm an cdv ct) ps sp := by
 refine ⟨len, fun A outer s H args us vs Q E hr e0 hb r hsp => ?_⟩
 have hl := len _ _ _ _ hsp
 have KX : K.In s.heap := e0.mod.kin.keeps fun b o e => (e0.bs b o e).1
 have lim : s.heap.NoLimit := e0.mod.nolimit.keeps fun b o e => (e0.bs b o e).1
 have hkind : ∀ y ∈ ps.zip us, scope.names.lookup y.1 = some .local \/ (scope.names.lookup y.1 = some .cell /\ ((cellsFrom (s.heap.objs.size + 1) scope.names []).lookup y.1).isSome = true) := fun ⟨n, v⟩ hy => by
  rcases S.par n (of_mem_zip hy).1 with q | q
  ·exact .inl q
  ·exact .inr ⟨q, W.cellsFrom_some _ _ _ (.inl q)⟩
 refine codeAny_call_function (by have := hr.dp; omega) (KX _ _ lk) rfl S.co S.gen rfl (W.codeRec_of KX hcd) (hb _ _ _ _ ?_)
 refine wpAny_newFunctionEnv_cells S.kind hkind fun env he s1 x => ?_
 subst he
 refine ⟨lim.keeps x.toInCall.keep, codeAny_func ?_⟩
 obtain ⟨t, ht, hq⟩ := hbody A outer s H vs Q E (hr.deeper _) hsp
 have I : Inv (zb4 CX P w K mg base N qual scope f cdv A outer s H E) [] (W0 N vs) H s1 := zk9 S e0 hl r x
 refine wpAny_mono (ht [] s1 (W0 N vs) H _ I hq) (fun fl s' hs => ?_) fun e s' hs => hs
 have fin : ∀ {σ' : St} {H' : Hp} {v : V} {u : Value}, Inv (zb4 CX P w K mg base N qual scope f cdv A outer s H E) [] σ' H' s' -> RelV v u -> Q v H' -> CE outer P w H s Q u s' :=
  fun {σ' H' v u} J rv q => ⟨v, H', J.os, J.bare, J.base, J.hok, rv, q⟩
 cases fl with
 | ret u =>
  obtain ⟨v, σ', H', J, rv, q⟩ := hs
  exact fin J rv q
 | next =>
  obtain ⟨σ', H', J, q⟩ := hs
  exact fin (v := V.non) (u := Value.none) J rfl q
 | brk =>
  obtain ⟨_, _, _, q⟩ := hs
  exact False.elim q
 | cont =>
  obtain ⟨_, _, _, q⟩ := hs
  exact False.elim q
theorem Fun.okN {P : Program} {w : World} {K : W.Frag} {mg : Str -> Option Value} {base : Heap} {x qual : Str} {st : Stmt} {f : Addr} {fd : FuncData} {N ps : List Str} {k : Nat} {m : MS} (Fn : Fun K x qual st f fd) (Sc : FnScope N ps (x0 st))
  (hbody : ∀ (cdv : Value) (A : Around) (outer : List Env) (s : Shared) (H : Hp) (E : XK), RoomN k (A.deeper (envOfC qual (x0 st) s.heap.objs.size f cdv)) -> PSsd (zb4 CX0 P w K mg base N qual (x0 st) f cdv A outer s H E).nox (t4 st) m) :
  FnOkN P w K mg base CX0 (k + 1) f fd ps (spR K ps.length (runB N.length m)) := by
 obtain ⟨oc, od, kV, doc, pm, an, cdv, ct, osl, rfl, lk, hcd⟩ := Fn.ex
 refine yb4 lk hcd Sc (fun vs H Q E h => h.1) fun A outer s H vs Q E hr h => ?_
 obtain ⟨hl, F, ds, r, sf, rs, e, ok⟩ := h
 unfold runB at e
 cases h1 : m (j7 N.length ds) with
 | none => rw [h1] at e; cases e
 | some o =>
  rw [h1] at e
  refine ⟨_, (hbody cdv A outer s H E hr).nox, F, H, F, j7 N.length ds, o, M0 sf rs, h1, ?_⟩
  cases o with
  | nx ρ => cases e; exact fun F' H' σ' rl _ => ok .non F' H' rl.ext .non
  | rt d => cases e; exact ok
  | rf es => cases e; exact ok
  | rp d es => cases e; exact ok
  | rg d p r => cases e
  | rgf d p r => cases e
  | bk ρ => cases e
  | ct ρ => cases e
section
variable {X : Cx} {CX : CXT} {k : Nat} {f : Addr} {fd : FuncData} {ps : List Str} {sp : Sp} {dvs : List V} {ds : List Value} {E : XK} {x : Str} {p pos : Pos} {e : Expr} {es : List Expr} {t : TA}
theorem yx3 (F : FnOkN X.prog X.w X.K X.mg X.base CX k f fd ps sp) (hr : RoomN k X.A) (hg : Gl X x) (hm : X.mg x = some (.ref f)) (hk : W.keepIn X.K (.ref f) = true) (hb : Binds X.K fd ps ds) (hd : Vals dvs ds) (hx : zn4 CX X E)
  (ha : PA X (e :: es) t) (hdb : (x == ("__debug__" : Str)) = false := by decide) (he : starEach (e :: es) X.env = (false, eval e X.env) :: starEach es X.env := by rfl) (hpl : (backTo pos (starEach es X.env)).any (·.1) = false := by rfl) :
  PE X (.Call (.Name x p) (e :: es) [] pos) (yy0 sp dvs E t) := by
 intro pins s σ H Q I h
 refine wpAny_Call_Name_kw (P9 I hg hm ?_ hdb)
 refine W.callWith_K (h₀ := X.base) I.ok.mod.kin hk (thn (ha pos pins s σ H _ I h) fun us s1 ⟨vs, H1, I1, r, q⟩ => ⟨I1.kIn, ?_⟩) he hpl
 have r2 : Vals (vs ++ dvs) (us ++ ds) := r.append hd
 have hl : (us ++ ds).length = ps.length := by rw [<- r2.length]; exact F.len _ _ _ _ q
 refine wpAny_call (codeAny_mono (F.run X.A X.stack s1 H1 ⟨us, []⟩ (us ++ ds) (vs ++ dvs) Q E hr I1.env0 (hb s1 us I1.kIn hl) r2 q) fun r s' hq => ?_)
 cases r with
 | error e => exact hx pins σ H1 s1 e s' I1 hq
 | ok fl =>
  cases fl with
  | ret u => exact I1.after hq
  | next => exact False.elim hq
  | brk => exact False.elim hq
  | cont => exact False.elim hq
end
@[irreducible] def misX (tab : List (Str × Bool)) (m : ME) : ME := fun ρ => match m ρ with | some (.exc c) => (tab.lookup c).map .bl | _ => none
section
variable {X : Cx} {a : Expr} {ma : ME} {pos : Pos}
def rIsX (K : W.Frag) (cv : Value) (tab : List (Str × Bool)) (y : V) : List V -> Hp -> VK -> Prop := fun vs H Q => ∃ b c k, vs = [.ref b, y] /\ (∃ C, XC K c C /\ H b = some (.ext (XAt b C))) /\ tab.lookup c = some k /\ Q (.bl k) H
theorem zo5 {cv : Value} {y : V} {tab : List (Str × Bool)} (ry : ∀ u, RelV y u -> u = cv) (hk : ∀ c k, tab.lookup c = some k -> ∀ C, XC X.K c C -> XCls X.K C /\ W.kitOne X.K (.ref C) cv = some k) : J7 X (.builtin "isinstance") (rIsX X.K cv tab y) := by
 intro pins s σ H xs us Q I r h
 obtain ⟨b, c, k, rfl, ⟨C, xc, hb⟩, e, q⟩ := h
 obtain ⟨u, w, rfl, rx, r2⟩ := zi6 r
 cases rx
 cases ry w r2
 obtain ⟨z, kk⟩ := hk c k e C xc
 exact W.kia_one (yv0 z) I.kIn (I.xat hb) kk (fun z => nomatch z) fun tk => ⟨.bl k, H, I.tok _, rfl, q⟩
theorem zc4 {cv : Value} {y : V} {tab : List (Str × Bool)} {ty : TE} (hy : ∀ σ H Q, Q y H -> ty σ H Q) {σ : St} {H : Hp} {Q : VK} (h : TD X.K (misX tab ma) σ H Q) : tCB (rIsX X.K cv tab y) (yr6 (TD X.K ma) (yr6 ty tNil)) σ H Q := by
 obtain ⟨F0, H0, F, ρ, g, rl, e, q⟩ := h
 unfold misX at e
 split at e
 ·rename_i c h1
  cases h2 : tab.lookup c with
  | none => rw [h2] at e; cases e
  | some k =>
   rw [h2] at e; cases e
   refine ⟨F0, H0, F, ρ, _, rl, h1, fun v F1 H1 x1 r1 => ?_⟩
   cases r1 with
   | exc xc hb => exact hy _ _ _ ⟨_, c, k, rfl, ⟨_, xc, x1.fh _ _ hb⟩, h2, q _ F1 H1 x1 (.bl _)⟩
 ·cases e
theorem K8 {c : Str} {Ca : Addr} {p p2 : Pos} {tab : List (Str × Bool)} (hg : Gl X "isinstance") (hm : X.mg "isinstance" = none) (hgc : Gl X c) (hmc : X.mg c = some (.ref Ca)) (ha : PD X a ma)
  (hk : ∀ c k, tab.lookup c = some k -> ∀ C, XC X.K c C -> XCls X.K C /\ W.kitOne X.K (.ref C) (.ref Ca) = some k) (hd : (c == ("__debug__" : Str)) = false := by decide)
  (hs : starEach (a :: [.Name c p2]) X.env = (false, eval a X.env) :: starEach [.Name c p2] X.env := by rfl) (hs2 : starEach [.Name c p2] X.env = (false, eval (.Name c p2) X.env) :: starEach [] X.env := by rfl)
  (hpl : (backTo pos (starEach [.Name c p2] X.env)).any (·.1) = false := by rfl) : PD X (.Call (.Name "isinstance" p) [a, .Name c p2] [] pos) (misX tab ma) :=
 (Y3 (zo5 (y := .ref Ca) (cv := .ref Ca) (fun u z => z) hk) hg hm PyProof.Rows.boot_isinstance (X0 ha (X0 (yo0 (v := .ref Ca) hgc hmc rfl hd) pa_nil hs2) hs) (by decide) (by decide) hs hpl).imp fun σ H Q h => zc4 (fun _ _ _ z => z) h
theorem yo4 {c : Str} {T : String} {p p2 : Pos} {tab : List (Str × Bool)} (hg : Gl X "isinstance") (hm : X.mg "isinstance" = none) (hgc : Gl X c) (hmc : X.mg c = none) (hv : bootBuiltins c = some (.type T)) (ha : PD X a ma)
  (hk : ∀ c k, tab.lookup c = some k -> ∀ C, XC X.K c C -> XCls X.K C /\ W.kitOne X.K (.ref C) (.type T) = some k) (hn : c ≠ "__name__" := by decide) (hd : (c == ("__debug__" : Str)) = false := by decide)
  (hs : starEach (a :: [.Name c p2]) X.env = (false, eval a X.env) :: starEach [.Name c p2] X.env := by rfl) (hs2 : starEach [.Name c p2] X.env = (false, eval (.Name c p2) X.env) :: starEach [] X.env := by rfl)
  (hpl : (backTo pos (starEach [.Name c p2] X.env)).any (·.1) = false := by rfl) : PD X (.Call (.Name "isinstance" p) [a, .Name c p2] [] pos) (misX tab ma) :=
 (Y3 (zo5 (y := .ty T) (cv := .type T) (fun u z => z) hk) hg hm PyProof.Rows.boot_isinstance (X0 ha (X0 (zf6 (v := .ty T) hgc hmc hv rfl hn hd) pa_nil hs2) hs) (by decide) (by decide) hs hpl).imp fun σ H Q h => zc4 (fun _ _ _ z => z) h
end
def ys4 (K : W.Frag) (C : Addr) : Bool :=
 (W.findIn K (.ref C) "__getattribute__" == some (some (.builtin "BaseException.__getattribute__"))) && (W.findIn K (.ref C) "__getattr__" == some none) && (W.findIn K (.ref C) "__class__" == some (some (.builtin "object.__class__"))) &&
  (W.mroIn K C (.type "object") == some true) && (W.mroIn K C (.type "BaseException") == some true)
theorem V7 {K : W.Frag} {C : Addr} (h : ys4 K C = true) : XCls K C := by
 unfold ys4 at h
 simp only [Bool.and_eq_true, beq_iff_eq] at h
 exact ⟨h.1.1.1.1, h.1.1.1.2, h.1.1.2, h.1.2, h.2⟩
theorem XC.eq {K : W.Frag} {c : Str} {C x : Addr} (h : XC K c C) (e : W.nsIn K mainGlobals c = some (some (.ref x))) : C = x := by
 have := h.1.symm.trans e
 cases this; rfl
theorem d9 {P : Str -> Bool -> Prop} : ∀ {tab : List (Str × Bool)}, (∀ p ∈ tab, P p.1 p.2) -> ∀ c k, tab.lookup c = some k -> P c k := fun h c k e => h (c, k) (PySem.mem_of_lookup e)
end
section
section
variable {X : Cx} {a : Expr} {ma : ME} {pos : Pos}
open PySem.SeqAt in
end
end
section
section
variable {X : Cx} {pos : Pos}
end
end
section
section
variable {X : Cx} {v : Expr} {mv : ME} {pos : Pos}
end
theorem us1 {P : List Value -> Prop} (h : ∀ a, P [a]) : ∀ us : List Value, us.length = 1 -> P us
 | [a], _ => h a
theorem us2 {P : List Value -> Prop} (h : ∀ a b, P [a, b]) : ∀ us : List Value, us.length = 2 -> P us
 | [a, b], _ => h a b
theorem us3 {P : List Value -> Prop} (h : ∀ a b c, P [a, b, c]) : ∀ us : List Value, us.length = 3 -> P us
 | [a, b, c], _ => h a b c
theorem us4 {P : List Value -> Prop} (h : ∀ a b c d, P [a, b, c, d]) : ∀ us : List Value, us.length = 4 -> P us
 | [a, b, c, d], _ => h a b c d
end
section
section
variable {X : Cx} {e : Expr} {pos : Pos}
end
end
section
section
variable {X : Cx} {pins : List (Addr × Obj)} {σ : St}
end
end
section
inductive RPs (K : W.Frag) (F H : Hp) : List Addr -> List (List D) -> Prop
 | nil : RPs K F H [] []
 | cons {q : Addr} {xs : List V} {ds : List D} {qs : List Addr} {dss : List (List D)} : H q = some (.lst xs) -> Reps K F xs ds -> RPs K F H qs dss -> RPs K F H (q :: qs) (ds :: dss)
section
variable {K : W.Frag} {F H F' H' : Hp}
theorem RPs.mono (e : Same F F') (k : Same H H') : ∀ {qs : List Addr} {dss : List (List D)}, RPs K F H qs dss -> RPs K F' H' qs dss
 | _, _, .nil => .nil
 | _, _, .cons h r t => .cons (k _ _ h) (r.mono e) (RPs.mono e k t)
theorem RPs.keep (e : Same F F') : ∀ {qs : List Addr} {dss : List (List D)}, (∀ q ∈ qs, ∀ o, H q = some o -> H' q = some o) -> RPs K F H qs dss -> RPs K F' H' qs dss
 | _, _, _, .nil => .nil
 | _, _, k, .cons h r t => .cons (k _ mem_cons_self _ h) (r.mono e) (RPs.keep e (fun q hq => k q (mem_cons_of_mem _ hq)) t)
theorem RPs.snoc {q : Addr} {xs : List V} {ds : List D} (h : H q = some (.lst xs)) (r : Reps K F xs ds) : ∀ {qs : List Addr} {dss : List (List D)}, RPs K F H qs dss -> RPs K F H (qs ++ [q]) (dss ++ [ds])
 | _, _, .nil => .cons h r .nil
 | _, _, .cons a b t => .cons a b (RPs.snoc h r t)
theorem RPs.length : ∀ {qs : List Addr} {dss : List (List D)}, RPs K F H qs dss -> qs.length = dss.length
 | _, _, .nil => rfl
 | _, _, .cons _ _ t => congrArg (· + 1) (RPs.length t)
theorem RPs.some : ∀ {qs : List Addr} {dss : List (List D)}, RPs K F H qs dss -> ∀ q ∈ qs, ∃ o, H q = some o
 | _, _, .cons a _ t, q, hq => by
  rcases List.mem_cons.mp hq with e | hq
  ·rw [e]; exact ⟨_, a⟩
  ·exact RPs.some t q hq
end
abbrev MP := Ro -> Option (List (List D))
structure Pots (K : W.Frag) (H F' H' : Hp) (p : Addr) (qs : List Addr) (dss : List (List D)) : Prop where
 hp : H p = none
 fp : F' p = none
 at' : H' p = some (.lst (qs.map V.ref))
 new : ∀ q ∈ qs, H q = none /\ F' q = none
 nd : (p :: qs).Nodup
 rep : RPs K F' H' qs dss
def TPt (K : W.Frag) (m : MP) : TE := fun σ H Q => ∃ F0 H0 F ρ dss, Rl K F0 H0 F H σ ρ /\ m ρ = some dss /\ ∀ p qs F' H', Ext F H F' H' -> Pots K H F' H' p qs dss -> Q (.ref p) H'
theorem Ext.stays {F H F' H' : Hp} {p : Addr} {o : HO} (x : Ext F H F' H') (hF : F p = none) (hH : H p = some o) : F' p = none := by
 cases q : F' p with
 | none => rfl
 | some u => have := x.new p hF (by rw [q]; simp); rw [this] at hH; cases hH
section
variable {X : Cx} {a b c e : Expr} {pos : Pos}
def F9 (g : Tg) (elt : ML) : List D -> Ro -> List (List D) -> Option (List (List D))
 | [], _, acc => some acc
 | it :: its, ρ, acc => match tgD g it ρ with
  | some ρ1 => (match elt ρ1 with
   | some ds => if acc.length < sizeLine then F9 g elt its ρ1 (acc ++ [ds]) else none
   | none => none)
  | none => none
def N0 (src : List (Option Nat)) (mi : ML) (g : Tg) (elt : ML) : MP := fun ρ => (mi ρ).bind fun its => F9 g elt its (J5 src ρ) []
theorem ym9 {K : W.Frag} {src : List (Option Nat)} {mi : ML} {g : Tg} {elt : ML} {σ : St} {H : Hp} {Q : VK} (h : TPt K (N0 src mi g elt) σ H Q) : zt8 src (TId K mi) (TGd K g) (TC K cyes) (TF K elt) σ H Q := by
 obtain ⟨F0, H0, F, ρ, out, rl, e, q⟩ := h
 unfold N0 at e
 cases h1 : mi ρ with
 | none => rw [h1] at e; cases e
 | some its =>
  rw [h1] at e
  have e : F9 g elt its (J5 src ρ) [] = some out := e
  refine ⟨F0, H0, F, ρ, its, rl, h1, fun J F1 H1 x1 I => ?_⟩
  intro p hp
  obtain ⟨rb, no⟩ := (rl.go x1).blk src
  have hF1 : F1 p = none := x1.fh.free hp
  refine ⟨fun i m σ' H' => ∃ F' ρ' acc qs, Rl K F1 H1 F' H' σ' ρ' /\ NoOwn ρ' /\ H' p = some (.lst (qs.map V.ref)) /\ F' p = none /\ RPs K F' H' qs acc /\ (∀ w ∈ qs, H1 w = none /\ F' w = none) /\ (p :: qs).Nodup /\ i <= its.length /\ m = its.length - i /\ F9 g elt (its.drop i) ρ' acc = some out,
   ⟨_, F1, J5 src ρ, [], [], rb.other no hp hF1, no, w9, hF1, .nil, (fun w hw => by cases hw), by simp, Nat.zero_le _, rfl, e⟩, ?_⟩
  rintro i m σ' H' ⟨F', ρ', acc, qs, rl', no', hH', hF', ra, hnew, hnd, hi', rfl, e'⟩
  by_cases hlt : i < its.length
  ·right
   have hd := getElem?_eq_getElem hlt
   refine ⟨I.go i F' H' rl'.ext.ff rl'.fh hlt, fun σ2 H2 => ∃ F2 ρ2 acc2 qs2, Rl K F1 H1 F2 H2 σ2 ρ2 /\ NoOwn ρ2 /\ H2 p = some (.lst (qs2.map V.ref)) /\ F2 p = none /\ RPs K F2 H2 qs2 acc2 /\ (∀ w ∈ qs2, H1 w = none /\ F2 w = none) /\ (p :: qs2).Nodup /\ F9 g elt (its.drop (i + 1)) ρ2 acc2 = some out, ?_, fun x H2 y => ?_⟩
   ·rintro σ2 H2 ⟨F2, ρ2, acc2, qs2, b1, b2, b3, b4, b5, b6, b7, b8⟩
    exact ⟨its.length - (i + 1), by omega, F2, ρ2, acc2, qs2, b1, b2, b3, b4, b5, b6, b7, hlt, rfl, b8⟩
   ·obtain ⟨F2, x2, r2⟩ := I.yld i F' H' x H2 _ rl'.ext.ff rl'.fh hd y
    rw [Q5 hd] at e'
    unfold F9 at e'
    cases h2 : tgD g its[i] ρ' with
    | none => simp only [h2] at e'; cases e'
    | some ρ1 =>
     simp only [h2] at e'
     refine ⟨F1, H1, F2, ρ', _, ρ1, rl'.go x2, r2, h2, fun F3 H3 σ3 rl3 x3 => ?_⟩
     have no1 := no'.tg h2
     have x23 := x2.trans x3
     refine ⟨F1, H1, F3, ρ1, true, rl3, rfl, fun F4 H4 x4 => iteT ?_⟩
     have x24 := x23.trans x4
     cases h4 : elt ρ1 with
     | none => simp only [h4] at e'; cases e'
     | some ds =>
      simp only [h4] at e'
      split at e'
      ·rename_i hz
       refine ⟨F1, H1, F4, ρ1, ds, rl3.go x4, h4, fun w xs F5 H5 x5 hw hwF hwH r5 => ?_⟩
       have x25 := x24.trans x5
       have hp5 := x25.hh _ _ hH'
       have hwp : w ≠ p := fun z => by rw [z, x24.hh _ _ hH'] at hw; cases hw
       have ra5 : RPs K F5 H5 qs acc := ra.mono x25.ff x25.hh
       have hwq : w ∉ qs := fun z => by
        obtain ⟨o, ho⟩ := ra.some w z
        rw [x24.hh _ _ ho] at hw; cases hw
       refine ⟨qs.map V.ref, hp5, by rw [length_map, ra.length]; exact hz, F5, ρ1, acc ++ [ds], qs ++ [w], ((rl3.go x4).go x5).other no1 hp (x25.stays hF' hH'), no1, by rw [w9, map_append]; rfl, x25.stays hF' hH', ?_, fun z hz' => ?_, ?_, e'⟩
       ·refine ((ra5.snoc hwH r5)).keep (Same.refl _) fun z hz' o ho => ?_
        have : z ≠ p := by
         rcases List.mem_append.mp hz' with z1 | z1
         ·exact fun zz => (List.nodup_cons.mp hnd).1 (zz ▸ z1)
         ·rw [List.mem_singleton.mp z1]; exact hwp
        rw [w8 this]; exact ho
       ·rcases List.mem_append.mp hz' with z1 | z1
        ·obtain ⟨o, ho⟩ := ra.some z z1
         exact ⟨(hnew z z1).1, x25.stays (hnew z z1).2 ho⟩
        ·rw [List.mem_singleton.mp z1]
         exact ⟨(rl3.go x4).ext.hh.free hw, hwF⟩
       ·have hn := List.nodup_cons.mp hnd
        refine List.nodup_cons.mpr ⟨fun z => ?_, List.nodup_append.mpr ⟨hn.2, by simp, fun a ha b hb => ?_⟩⟩
        ·rcases List.mem_append.mp z with z1 | z1
         ·exact hn.1 z1
         ·exact hwp (List.mem_singleton.mp z1).symm
        ·rw [List.mem_singleton.mp hb]; exact fun zz => hwq (zz ▸ ha)
      ·cases e'
  ·left
   have hieq : i = its.length := by omega
   subst hieq
   rw [drop_length] at e'
   have e' : some acc = some out := e'
   cases e'
   exact ⟨I.stop F' H' rl'.ext.ff rl'.fh, q p qs F' H' (x1.trans rl'.ext) ⟨x1.hh.free hp, hF', hH', fun w hw => ⟨x1.hh.free (hnew w hw).1, (hnew w hw).2⟩, hnd, ra⟩⟩
end
end
section
section
variable {K : W.Frag} {F0 H0 H0' F H : Hp} {σ : St} {ρ : Ro}
end
section
variable {X : Cx} {a b c e : Expr} {pos : Pos} {st : Stmt}
variable {E : XK} {es : List Expr} {m : ML}
end
end
section
section
variable {K : W.Frag} {F0 H0 F H : Hp} {σ : St} {ρ : Ro}
end
end
section
section
variable {X : Cx} {a b : Expr} {ma mb : ME} {pos : Pos}
end
section
variable {X : Cx} {a b : Expr}
open PySem.SeqAt in
end
end
section
section
variable {X : Cx} {a b c e o : Expr} {ma mb mo : ME} {pos : Pos} {st : Stmt}
end
open Classical in
section
variable {X : Cx} {pos : Pos}
end
end
section
section
variable {X : Cx} {st : Stmt}
end
end
section
inductive Fl where
 | v (d : D) | l (ds : List D)
inductive Cell where
 | ins (c : Str) (ns : List Str) (fs : List Fl)
 | row (fs : List Fl)
 | tb (P : Addr) (mw : Str) (pos : Pos) (q : Str)
def xz2 (c : Addr) (q : Str) : Heap -> Prop := fun h => h.CodeRec (.ref c) q
structure CodeT (K : W.Frag) (cdv : Value) (P : Addr) : Prop where
 hd : ∃ c, cdv = .ref c /\ ∀ h : Heap, K.In h -> W.CodeHd h c P
 ne : mainGlobals ≠ P
def TabF (K : W.Frag) (mw : Str) (P : Addr) : Prop := ∃ f oc od fd sl, W.nsIn K mainGlobals mw = some (some (.ref f)) /\ K.lookup f = some ⟨oc, od, .func fd, sl⟩ /\ CodeT K fd.code P
abbrev Bx := List (Addr × Cell)
inductive FlR (K : W.Frag) (F B : Hp) : List Addr -> List V -> List Fl -> Prop
 | nil : FlR K F B [] [] []
 | v {fp : List Addr} {x : V} {d : D} {xs : List V} {fs : List Fl} : Rep K F x d -> FlR K F B fp xs fs -> FlR K F B fp (x :: xs) (.v d :: fs)
 | l {fp : List Addr} {q : Addr} {ys : List V} {ds : List D} {xs : List V} {fs : List Fl} : B q = some (.lst ys) -> Reps K F ys ds -> FlR K F B fp xs fs -> FlR K F B (q :: fp) (.ref q :: xs) (.l ds :: fs)
inductive CellR (K : W.Frag) (F B : Hp) : List Addr -> Addr -> Cell -> Prop
 | ins {fp : List Addr} {p dx C : Addr} {c : Str} {ns : List Str} {xs : List V} {fs : List Fl} : W.nsIn K mainGlobals c = some (some (.ref C)) -> ns.length = xs.length -> B p = some (.ins C dx (ns.zip xs)) -> B dx = some (.own p) -> FlR K F B fp xs fs ->
   CellR K F B (p :: dx :: fp) p (.ins c ns fs)
 | row {fp : List Addr} {p : Addr} {xs : List V} {fs : List Fl} : B p = some (.lst xs) -> FlR K F B fp xs fs -> CellR K F B (p :: fp) p (.row fs)
 | tb {P : Addr} {mw : Str} {pos : Pos} {q : Str} {ps : Array Value} : TabF K mw P -> B P = some (.tbl ps) -> TriplesOk ps.toList -> (codeAmong pos ps.toList = none \/ ∃ c, codeAmong pos ps.toList = some (.ref c) /\ F c = some (.ext (xz2 c q))) -> CellR K F B [P] P (.tb P mw pos q)
inductive BxR (K : W.Frag) (F B : Hp) : List Addr -> Bx -> Prop
 | nil : BxR K F B [] []
 | cons {fp fq : List Addr} {p : Addr} {c : Cell} {β : Bx} : CellR K F B fp p c -> BxR K F B fq β -> BxR K F B (fp ++ fq) ((p, c) :: β)
section
variable {K : W.Frag} {F F' B B' : Hp}
theorem FlR.mono (e : Same F F') {fp : List Addr} {xs : List V} {fs : List Fl} (h : FlR K F B fp xs fs) (k : ∀ a ∈ fp, B' a = B a) : FlR K F' B' fp xs fs := by
 induction h with
 | nil => exact .nil
 | v r _ ih => exact .v (r.mono e) (ih k)
 | l b r _ ih => exact .l (by rw [k _ (by simp)]; exact b) (r.mono e) (ih fun a ha => k a (mem_cons_of_mem _ ha))
theorem CellR.mono (e : Same F F') {fp : List Addr} {p : Addr} {c : Cell} (h : CellR K F B fp p c) (k : ∀ a ∈ fp, B' a = B a) : CellR K F' B' fp p c := by
 cases h with
 | ins a l b d r => exact .ins a l (by rw [k _ (by simp)]; exact b) (by rw [k _ (by simp)]; exact d) (r.mono e fun a ha => k a (by simp [ha]))
 | row b r => exact .row (by rw [k _ (by simp)]; exact b) (r.mono e fun a ha => k a (by simp [ha]))
 | tb a b t h => exact .tb a (by rw [k _ (by simp)]; exact b) t (h.imp id fun ⟨c, h1, h2⟩ => ⟨c, h1, e _ _ h2⟩)
theorem BxR.mono (e : Same F F') {fp : List Addr} {β : Bx} (h : BxR K F B fp β) (k : ∀ a ∈ fp, B' a = B a) : BxR K F' B' fp β := by
 induction h with
 | nil => exact .nil
 | cons c _ ih => exact .cons (c.mono e fun a ha => k a (by simp [ha])) (ih fun a ha => k a (by simp [ha]))
theorem FlR.mem {fp : List Addr} {xs : List V} {fs : List Fl} (h : FlR K F B fp xs fs) : ∀ a ∈ fp, B a ≠ none := by
 induction h with
 | nil => intro a ha; cases ha
 | v _ _ ih => exact ih
 | l b _ _ ih =>
  intro a ha
  rcases List.mem_cons.mp ha with rfl | ha
  ·rw [b]; simp
  ·exact ih a ha
theorem CellR.mem {fp : List Addr} {p : Addr} {c : Cell} (h : CellR K F B fp p c) : ∀ a ∈ fp, B a ≠ none := by
 intro a ha
 cases h with
 | ins _ _ b d r =>
  rcases List.mem_cons.mp ha with rfl | ha
  ·rw [b]; simp
  ·rcases List.mem_cons.mp ha with rfl | ha
   ·rw [d]; simp
   ·exact r.mem a ha
 | row b r =>
  rcases List.mem_cons.mp ha with rfl | ha
  ·rw [b]; simp
  ·exact r.mem a ha
 | tb _ b _ _ => rw [List.mem_singleton.mp ha, b]; simp
theorem BxR.mem {fp : List Addr} {β : Bx} (h : BxR K F B fp β) : ∀ a ∈ fp, B a ≠ none := by
 induction h with
 | nil => intro a ha; cases ha
 | cons c _ ih =>
  intro a ha
  rcases List.mem_append.mp ha with ha | ha
  ·exact c.mem a ha
  ·exact ih a ha
end
def jn (H0 B : Hp) : Hp := fun a => match B a with | some o => some o | none => H0 a
theorem c9 {H0 B : Hp} {a : Addr} {o : HO} (h : B a = some o) : jn H0 B a = some o := by unfold jn; rw [h]
theorem X8 {H0 B : Hp} {a : Addr} (h : B a = none) : jn H0 B a = H0 a := by unfold jn; rw [h]
theorem Y2 {H0 B : Hp} {a : Addr} (h : jn H0 B a = none) : B a = none /\ H0 a = none := by
 cases b : B a with
 | none => rw [X8 b] at h; exact ⟨rfl, h⟩
 | some o => rw [c9 b] at h; cases h
structure BxOk (K : W.Frag) (F0 H0 F B : Hp) (fp : List Addr) (β : Bx) : Prop where
 out : ∀ a, B a ≠ none -> H0 a = none /\ F0 a = none
 bx : BxR K F B fp β
 nd : fp.Nodup
 plain : ∀ a o u, B a ≠ some (.frz o u)
theorem BxOk.mono {K : W.Frag} {F0 H0 F F' B : Hp} {fp : List Addr} {β : Bx} (h : BxOk K F0 H0 F B fp β) (e : Same F F') : BxOk K F0 H0 F' B fp β := ⟨h.out, h.bx.mono e fun _ _ => rfl, h.nd, h.plain⟩
def RlW (K : W.Frag) (F0 H0 F H : Hp) (σ : St) (ρ : Ro) (β : Bx) : Prop := ∃ B fp, Rl K F0 (jn H0 B) F H σ ρ /\ BxOk K F0 H0 F B fp β
abbrev MW := Ro -> Bx -> Option (Out × Bx)
def okW (K : W.Frag) (F0 H0 Fb : Hp) (Dn : Ends) : Out -> Bx -> Prop
 | .nx ρ, β => ∀ F H σ, RlW K F0 H0 F H σ ρ β -> Same Fb F -> Dn.nx σ H
 | .bk ρ, β => ∀ F H σ, RlW K F0 H0 F H σ ρ β -> Same Fb F -> Dn.bk σ H
 | .ct ρ, β => ∀ F H σ, RlW K F0 H0 F H σ ρ β -> Same Fb F -> Dn.ct σ H
 | .rt d, β => ∀ v F H B fp, Ext F0 (jn H0 B) F H -> BxOk K F0 H0 F B fp β -> Rep K F v d -> Dn.rt v H
 | .rf ds, β => ∀ p xs F H B fp, Ext F0 (jn H0 B) F H -> BxOk K F0 H0 F B fp β -> jn H0 B p = none -> F p = none -> H p = some (.lst xs) -> Reps K F xs ds -> Dn.rt (.ref p) H
 | .rg d p r, β => ∀ v F H xs B fp, Ext F0 (jn H0 B) F H -> BxOk K F0 H0 F B fp β -> Rep K F v d -> jn H0 B p = none -> F p = none -> H p = some (.lst xs) -> Reps K F xs r -> Dn.rt v H
 | .rp _ _, _ => False
 | .rgf _ _ _, _ => False
theorem okW.mono {K : W.Frag} {F0 H0 Fb Fb' : Hp} {Dn : Ends} (s : Same Fb Fb') : ∀ {o : Out} {β : Bx}, okW K F0 H0 Fb Dn o β -> okW K F0 H0 Fb' Dn o β
 | .nx _, _, h => fun F H σ rl q => h F H σ rl (s.trans q)
 | .bk _, _, h => fun F H σ rl q => h F H σ rl (s.trans q)
 | .ct _, _, h => fun F H σ rl q => h F H σ rl (s.trans q)
 | .rt _, _, h => h
 | .rf _, _, h => h
 | .rp _ _, _, h => h
 | .rg _ _ _, _, h => h
 | .rgf _ _ _, _, h => h
def TSw (K : W.Frag) (m : MW) : TS := fun Dn σ H => ∃ F0 H0 F ρ β o β', RlW K F0 H0 F H σ ρ β /\ m ρ β = some (o, β') /\ okW K F0 H0 F Dn o β'
def TDw (K : W.Frag) (m : Ro -> Bx -> Option D) : TE := fun σ H Q => ∃ F0 H0 F ρ β d, RlW K F0 H0 F H σ ρ β /\ m ρ β = some d /\ ∀ v F' H', RlW K F0 H0 F' H' σ ρ β -> Same F F' -> Same H H' -> Rep K F' v d -> Q v H'
def TCw (K : W.Frag) (m : Ro -> Bx -> Option Bool) : TT := fun σ H Q => ∃ F0 H0 F ρ β b, RlW K F0 H0 F H σ ρ β /\ m ρ β = some b /\ ∀ F' H', RlW K F0 H0 F' H' σ ρ β -> Same F F' -> Q b H'
def PSw (X : Cx) (st : Stmt) (m : MW) : Prop := PS X st (TSw X.K m)
def PSsw (X : Cx) (st : List Stmt) (m : MW) : Prop := PSs X st (TSw X.K m)
def PDw (X : Cx) (e : Expr) (m : Ro -> Bx -> Option D) : Prop := PE X e (TDw X.K m)
def PCw' (X : Cx) (e : Expr) (m : Ro -> Bx -> Option Bool) : Prop := PT X e (TCw X.K m)
section
variable {X : Cx} {a b c e : Expr} {pos : Pos} {st : Stmt} {rest : List Stmt}
def wS (m : MS) : MW := fun ρ β => match m ρ with | some (.nx ρ') => some (.nx ρ', β) | some (.bk ρ') => some (.bk ρ', β) | some (.ct ρ') => some (.ct ρ', β) | _ => none
def wE {α : Type} (m : Ro -> Option α) : Ro -> Bx -> Option α := fun ρ _ => m ρ
theorem psw {m : MS} (h : PSd X st m) : PSw X st (wS m) := PS.imp h fun Dn σ H ⟨F0, H0, F, ρ, β, o, β', ⟨B, fp, rl, ok⟩, e, k⟩ => by
 unfold wS at e
 split at e
 ·rename_i ρ' h1
  cases e
  exact ⟨F0, jn H0 B, F, ρ, _, rl, h1, fun F' H' σ' rl' sf => k F' H' σ' ⟨B, fp, rl', ok.mono sf⟩ sf⟩
 ·rename_i ρ' h1
  cases e
  exact ⟨F0, jn H0 B, F, ρ, _, rl, h1, fun F' H' σ' rl' sf => k F' H' σ' ⟨B, fp, rl', ok.mono sf⟩ sf⟩
 ·rename_i ρ' h1
  cases e
  exact ⟨F0, jn H0 B, F, ρ, _, rl, h1, fun F' H' σ' rl' sf => k F' H' σ' ⟨B, fp, rl', ok.mono sf⟩ sf⟩
 ·cases e
theorem pdw {m : ME} (h : PD X e m) : PDw X e (wE m) := PE.imp h fun σ H Q ⟨F0, H0, F, ρ, β, d, ⟨B, fp, rl, ok⟩, e, q⟩ =>
 ⟨F0, jn H0 B, F, ρ, d, rl, e, fun v F' H' x r => q v F' H' ⟨B, fp, rl.go x, ok.mono x.ff⟩ x.ff x.hh r⟩
def G7 (x y : MW) : MW := fun ρ β => match x ρ β with | some (.nx ρ', β') => y ρ' β' | o => o
theorem M2 {m : MW} (h : PSw X st m) : PSsw X [st] m := zs1 h
theorem yy7 : PSsw X [] (wS Z1) := PSs.imp pss_nil fun Dn σ H ⟨F0, H0, F, ρ, β, o, β', ⟨B, fp, rl, ok⟩, e, k⟩ => by
 cases e
 exact k F H σ ⟨B, fp, rl, ok⟩ (Same.refl _)
theorem W1 {m1 m2' : MW} (h1 : PSw X st m1) (h2 : PSsw X rest m2') : PSsw X (st :: rest) (G7 m1 m2') := PSs.imp (M3 h1 h2) fun D σ H hpat => by
 obtain ⟨F0, H0, F, ρ, β, o, β', rw', e, ok⟩ := hpat
 unfold G7 at e
 cases h : m1 ρ β with
 | none => rw [h] at e; cases e
 | some ob =>
  obtain ⟨o1, β1⟩ := ob
  rw [h] at e
  cases o1 with
  | nx ρ1 => exact ⟨F0, H0, F, ρ, β, _, β1, rw', h, fun F' H' σ' rl' sf => ⟨F0, H0, F', ρ1, β1, o, β', rl', e, ok.mono sf⟩⟩
  | bk ρ1 => cases e; exact ⟨F0, H0, F, ρ, β, _, _, rw', h, ok⟩
  | ct ρ1 => cases e; exact ⟨F0, H0, F, ρ, β, _, _, rw', h, ok⟩
  | rt d => cases e; exact ⟨F0, H0, F, ρ, β, _, _, rw', h, ok⟩
  | rf d => cases e; exact ⟨F0, H0, F, ρ, β, _, _, rw', h, ok⟩
  | rp d ds => cases e; exact ⟨F0, H0, F, ρ, β, _, _, rw', h, ok⟩
  | rg d p r => cases e; exact ⟨F0, H0, F, ρ, β, _, _, rw', h, ok⟩
  | rgf d p r => cases e; exact ⟨F0, H0, F, ρ, β, _, _, rw', h, ok⟩
def mifW (c : Ro -> Bx -> Option Bool) (x y : MW) : MW := fun ρ β => match c ρ β with | some true => x ρ β | some false => y ρ β | none => none
theorem yh1 {ca : Ro -> Bx -> Option Bool} {x y : List Stmt} {mx my : MW} (hc : PCw' X c ca) (hx : PSsw X x mx) (hy : PSsw X y my) : PSw X (.If c x y pos) (mifW ca mx my) := PS.imp (yp2 hc hx hy) fun D σ H hpat => by
 obtain ⟨F0, H0, F, ρ, β, o, β', rw', e, ok⟩ := hpat
 unfold mifW at e
 split at e
 ·rename_i h1
  exact ⟨F0, H0, F, ρ, β, _, rw', h1, fun F1 H1 r1 x1 => iteT ⟨F0, H0, F1, ρ, β, o, β', r1, e, ok.mono x1⟩⟩
 ·rename_i h1
  exact ⟨F0, H0, F, ρ, β, _, rw', h1, fun F1 H1 r1 x1 => iteF ⟨F0, H0, F1, ρ, β, o, β', r1, e, ok.mono x1⟩⟩
 ·cases e
def yw2 (x : Ro -> Bx -> Option D) : MW := fun ρ β => (x ρ β).map fun d => (.rt d, β)
theorem yq8 {ma : Ro -> Bx -> Option D} (h : PS X st (tRet (TDw X.K ma))) : PSw X st (yw2 ma) := PS.imp h fun D σ H hpat => by
 obtain ⟨F0, H0, F, ρ, β, o, β', rw', e, ok⟩ := hpat
 unfold yw2 at e
 cases h1 : ma ρ β with
 | none => rw [h1] at e; cases e
 | some d =>
  rw [h1] at e; cases e
  refine ⟨F0, H0, F, ρ, β, d, rw', h1, fun v F1 H1 r1 x1 _ rp => ?_⟩
  obtain ⟨B, fp, rl, k⟩ := r1
  exact ok v F1 H1 B fp rl.ext k rp
def forW (g : Tg) (body : MW) : List D -> MW
 | [], ρ, β => some (.nx ρ, β)
 | d :: ds, ρ, β => match tgD g d ρ with
  | some ρ1 => match body ρ1 β with
   | some (.nx ρ2, β2) => forW g body ds ρ2 β2
   | some (.ct ρ2, β2) => forW g body ds ρ2 β2
   | some (.bk ρ2, β2) => some (.nx ρ2, β2)
   | o => o
  | none => none
def zk3 (mi : ML) (g : Tg) (body : MW) : MW := fun ρ β => (mi ρ).bind fun its => forW g body its ρ β
theorem zg7 {tg iter : Expr} {body : List Stmt} {mi : ML} {g : Tg} {mb : MW} (hp : PassesOwn (model X.prog X.w) X.A X.env X.xe) (hc : X.calm = true) (hi : PId X tg iter mi) (hg : PGd X tg g) (hb : PSsw X body mb)
  (hs : ∀ x, foldedSetIterable iter X.env x = pure x := by intro _; rfl) : PSw X (.For tg iter body [] pos) (zk3 mi g mb) := PS.imp (yu9 hp hc hi hg hb hs) fun Dn σ H ⟨F0, H0, F, ρ, β, o, β', ⟨B, fp, rl, ok⟩, e, k⟩ => by
 unfold zk3 at e
 cases h1 : mi ρ with
 | none => rw [h1] at e; cases e
 | some its =>
  rw [h1] at e
  have e : forW g mb its ρ β = some (o, β') := e
  refine ⟨F0, jn H0 B, F, ρ, its, rl, h1, fun J F1 H1 x1 I => ?_⟩
  refine ⟨fun i m σ' H' => ∃ F' ρ' β1, RlW X.K F0 H0 F' H' σ' ρ' β1 /\ Same F1 F' /\ i <= its.length /\ m = its.length - i /\ forW g mb (its.drop i) ρ' β1 = some (o, β'), ⟨_, F1, ρ, β, ⟨B, fp, rl.go x1, ok.mono x1.ff⟩, Same.refl _, Nat.zero_le _, rfl, e⟩, ?_⟩
  rintro i m σ' H' ⟨F', ρ', β1, ⟨B1, fp1, rl', ok'⟩, sf, hi', rfl, e'⟩
  by_cases hlt : i < its.length
  ·right
   have hd := getElem?_eq_getElem hlt
   refine ⟨I.go i F' H' sf rl'.fh hlt, fun σ2 H2 => ∃ F2 ρ2 β2, RlW X.K F0 H0 F2 H2 σ2 ρ2 β2 /\ Same F1 F2 /\ forW g mb (its.drop (i + 1)) ρ2 β2 = some (o, β'), ?_, fun x H2 y => ?_⟩
   ·rintro σ2 H2 ⟨F2, ρ2, β2, rl2, sf2, e2⟩
    exact ⟨its.length - (i + 1), by omega, F2, ρ2, β2, rl2, sf2, hlt, rfl, e2⟩
   ·obtain ⟨F2, x2, r2⟩ := I.yld i F' H' x H2 _ sf rl'.fh hd y
    rw [Q5 hd] at e'
    unfold forW at e'
    cases h2 : tgD g its[i] ρ' with
    | none => simp only [h2] at e'; cases e'
    | some ρ1 =>
     simp only [h2] at e'
     refine ⟨F0, jn H0 B1, F2, ρ', _, ρ1, rl'.go x2, r2, h2, fun F3 H3 σ3 rl3 x3 => ?_⟩
     have s3 : Same F1 F3 := (sf.trans x2.ff).trans x3.ff
     cases h3 : mb ρ1 β1 with
     | none => simp only [h3] at e'; cases e'
     | some ob =>
      obtain ⟨o1, β2⟩ := ob
      simp only [h3] at e'
      refine ⟨F0, H0, F3, ρ1, β1, o1, β2, ⟨B1, fp1, rl3, ok'.mono (x2.ff.trans x3.ff)⟩, h3, ?_⟩
      cases o1 with
      | nx ρ2 => exact fun F5 H5 σ5 rl5 s5 => ⟨F5, ρ2, β2, rl5, s3.trans s5, e'⟩
      | ct ρ2 => exact fun F5 H5 σ5 rl5 s5 => ⟨F5, ρ2, β2, rl5, s3.trans s5, e'⟩
      | bk ρ2 =>
       cases e'
       exact fun F5 H5 σ5 rl5 s5 => k F5 H5 σ5 rl5 ((x1.ff.trans s3).trans s5)
      | rt d => cases e'; exact k.mono (x1.ff.trans s3)
      | rf d => cases e'; exact k.mono (x1.ff.trans s3)
      | rp d ds => cases e'; exact k.mono (x1.ff.trans s3)
      | rg d p r => cases e'; exact k.mono (x1.ff.trans s3)
      | rgf d p r => cases e'; exact k.mono (x1.ff.trans s3)
  ·left
   have hieq : i = its.length := by omega
   subst hieq
   rw [drop_length] at e'
   have e' : some (Out.nx ρ', β1) = some (o, β') := e'
   cases e'
   exact ⟨I.stop F' H' sf rl'.fh, k F' H' σ' ⟨B1, fp1, rl', ok'⟩ (x1.ff.trans sf)⟩
def flD : Fl -> D
 | .v d => d
 | .l ds => .lst ds
def yk2 : Cell -> D
 | .ins c ns fs => .obj c ns (fs.map flD)
 | .row fs => .lst (fs.map flD)
 | .tb P _ _ _ => .ptr P
def N7 (β : Bx) : Option S -> Option S
 | some (.sh (.ptr p)) => match β.lookup p with | some c => some (.sh (yk2 c)) | none => some (.sh (.ptr p))
 | x => x
def thaw (ρ : Ro) (β : Bx) : Ro := ρ.map (N7 β)
def yw8 (m : MB) : Ro -> Bx -> Option Bool := fun ρ β => m (thaw ρ β)
end
section
variable {K : W.Frag} {F0 H0 F H B : Hp} {σ : St} {ρ : Ro} {β : Bx} {fp : List Addr}
theorem FlR.rep {G : Hp} {xs : List V} {fs : List Fl} (hF : Same F G) (hB : Same B G) (h : FlR K F B fp xs fs) : Reps K G xs (fs.map flD) := by
 induction h with
 | nil => exact .nil
 | v r _ ih => exact .cons (r.mono hF) ih
 | l b r _ ih => exact .cons (.lst (SqL.of (hB _ _ b)) (r.mono hF)) ih
theorem CellR.rep {G : Hp} {p : Addr} {c : Cell} (hF : Same F G) (hB : Same B G) (h : CellR K F B fp p c) : Rep K G (.ref p) (yk2 c) := by
 cases h with
 | ins a l b d r => exact .obj a l (hB _ _ b) (hB _ _ d) (r.rep hF hB)
 | row b r => exact .lst (SqL.of (hB _ _ b)) (r.rep hF hB)
 | tb _ _ _ _ => exact .ptr _
theorem BxR.at' {p : Addr} {c : Cell} : ∀ {fp : List Addr} {β : Bx}, BxR K F B fp β -> β.lookup p = some c -> ∃ fq, CellR K F B fq p c
 | _, _, .nil, e => by cases e
 | _, _, .cons (p := q) h r, e => by
  rw [lookup_cons] at e
  split at e
  ·rename_i z
   have z := beq_iff_eq.mp z
   subst z
   cases e
   exact ⟨_, h⟩
  ·exact r.at' e
theorem RlW.frozen (rl : Rl K F0 (jn H0 B) F H σ ρ) (ok : BxOk K F0 H0 F B fp β) : Rl K (jn F0 B) (jn H0 B) (jn F B) H σ (thaw ρ β) /\ Same F (jn F B) := by
 have bh : Same B H := fun a o e => rl.ext.hh a o (c9 e)
 have fn : ∀ a, B a ≠ none -> F a = none := fun a h => by
  cases q : F a with
  | none => rfl
  | some o =>
   have := rl.ext.new a (ok.out a h).2 (by rw [q]; simp)
   exact absurd (Y2 this).1 h
 have fb : Same F (jn F B) := fun a o e => by
  cases q : B a with
  | none => rw [X8 q]; exact e
  | some u => rw [fn a (by rw [q]; simp)] at e; cases e
 have bj : Same B (jn F B) := fun a o e => c9 e
 have back : ∀ (i : Nat) x, (thaw ρ β)[i]? = some x -> ∃ y, ρ[i]? = some y /\ x = N7 β y := fun i x e => by
  unfold thaw at e
  rw [getElem?_map] at e
  cases q : ρ[i]? with
  | none => rw [q] at e; cases e
  | some y => rw [q] at e; cases e; exact ⟨y, rfl, rfl⟩
 have tO : ∀ {y : Option S} {ds : List D}, some (.own ds) = N7 β y -> y = some (.own ds) := fun {y ds} e => by
  unfold N7 at e
  split at e
  ·split at e <;> cases e
  ·exact e.symm
 have tB : ∀ {y : Option S} {p : Addr} {ds : List D}, some (.ob p ds) = N7 β y -> y = some (.ob p ds) := fun {y p ds} e => by
  unfold N7 at e
  split at e
  ·split at e <;> cases e
  ·exact e.symm
 have ownB : ∀ (i : Nat) ds, (thaw ρ β)[i]? = some (some (.own ds)) -> ρ[i]? = some (some (.own ds)) := fun i ds e => by
  obtain ⟨y, e1, e2⟩ := back i _ e
  rw [e1, tO e2]
 have obB : ∀ (i : Nat) p ds, (thaw ρ β)[i]? = some (some (.ob p ds)) -> ρ[i]? = some (some (.ob p ds)) := fun i p ds e => by
  obtain ⟨y, e1, e2⟩ := back i _ e
  rw [e1, tB e2]
 have jf : ∀ p, F p = none -> jn H0 B p = none -> jn F B p = none := fun p h h2 => by rw [X8 (Y2 h2).1]; exact h
 refine ⟨⟨⟨fun a o e => ?_, rl.ext.hh, fun a o e => ?_, fun b e n => ?_, fun b o u e => ?_⟩, by unfold thaw; rw [length_map]; exact rl.len, fun i d e => ?_, fun i ds e => ?_, fun i j p ds es hij e1 e2 e3 e4 => rl.inj i j p ds es hij (ownB i ds e1) (ownB j es e2) e3 e4, fun i p ds e => ?_, fun i j p ds es e1 e2 e3 => rl.obn i j p ds es (obB i p ds e1) (ownB j es e2) e3, fun i j p q ds es e1 e2 => rl.ob1 i j p q ds es (obB i p ds e1) (obB j q es e2)⟩, fb⟩
 ·cases q : B a with
  | none => rw [X8 q] at e; rw [X8 q]; exact rl.ext.ff a o e
  | some u => rw [c9 q] at e; rw [c9 q]; exact e
 ·cases q : B a with
  | none => rw [X8 q] at e; exact rl.ext.fh a o e
  | some u => rw [c9 q] at e; cases e; exact bh a _ q
 ·obtain ⟨e1, e2⟩ := Y2 e
  rw [X8 e1] at n
  exact rl.ext.new b e2 n
 ·cases q : B b with
  | none => rw [X8 q] at e ⊢; exact rl.ext.nf b o u e
  | some w => rw [c9 q] at e ⊢; exact e
 ·obtain ⟨y, e1, e2⟩ := back i _ e
  unfold N7 at e2
  split at e2
  ·rename_i p
   obtain ⟨v, a1, a2⟩ := rl.sh i _ e1
   cases a2
   split at e2
   ·rename_i c hc
    cases e2
    obtain ⟨fq, hq⟩ := ok.bx.at' hc
    exact ⟨_, a1, hq.rep fb bj⟩
   ·cases e2
    exact ⟨_, a1, .ptr p⟩
  ·subst e2
   obtain ⟨v, a1, a2⟩ := rl.sh i d e1
   exact ⟨v, a1, a2.mono fb⟩
 ·obtain ⟨p, xs, a1, a2, a3, a4, a5⟩ := rl.own i ds (ownB i ds e)
  exact ⟨p, xs, a1, jf p a2 a5, a3, a4.mono fb, a5⟩
 ·obtain ⟨a1, a2, a3, xs, a4, a5⟩ := rl.ob i p ds (obB i p ds e)
  exact ⟨a1, jf p a2 a3, a3, xs, a4, a5.mono fb⟩
theorem RlW.melt {F2 H2 : Hp} (rl : Rl K F0 (jn H0 B) F H σ ρ) (ok : BxOk K F0 H0 F B fp β) (x : Ext (jn F B) H F2 H2) (fb : Same F (jn F B)) : RlW K F0 H0 F H2 σ ρ β :=
 ⟨B, fp, rl.go ⟨Same.refl _, x.hh, rl.fh.trans x.hh, fun b e n => absurd e n, fun _ _ _ z => z⟩, ok⟩
end
section
variable {X : Cx} {a b c e : Expr} {pos : Pos}
theorem yx6 {m : MB} (h : PC' X e m) : PCw' X e (yw8 m) := PT.imp h fun σ H Q ⟨F0, H0, F, ρ, β, d, ⟨B, fp, rl, ok⟩, e, q⟩ => by
 obtain ⟨r1, fb⟩ := RlW.frozen rl ok
 exact ⟨_, _, _, _, _, r1, e, fun F' H' x => q F H' (RlW.melt rl ok x fb) (Same.refl _)⟩
end
end
section
def cut (H B : Hp) : Hp := fun a => match B a with | some _ => none | none => H a
theorem zb5 {H B : Hp} {a : Addr} (h : B a = none) : cut H B a = H a := by unfold cut; rw [h]
theorem yc8 {H B : Hp} (h : Same B H) : jn (cut H B) B = H := by
 funext a
 cases q : B a with
 | none => rw [X8 q, zb5 q]
 | some o => rw [c9 q, h a o q]
abbrev MFW := List D -> Bx -> Option (Rt × Bx)
def okTW (K : W.Frag) (F H B : Hp) (Q : VK) : Rt -> Bx -> Prop
 | .sh d, β => ∀ v F' H' B' fp', Ext F (jn (cut H B) B') F' H' -> BxOk K F (cut H B) F' B' fp' β -> Rep K F' v d -> Q v H'
 | .fr ds, β => ∀ p xs F' H' B' fp', Ext F (jn (cut H B) B') F' H' -> BxOk K F (cut H B) F' B' fp' β -> jn (cut H B) B' p = none -> F' p = none -> H' p = some (.lst xs) -> Reps K F' xs ds -> Q (.ref p) H'
 | .pr _ _, _ => False
def spW (K : W.Frag) (n : Nat) (m : MFW) : Sp := fun vs H Q _ => vs.length = n /\ ∃ F B fp ds β r β', Same F H /\ Same B H /\ BxOk K F (cut H B) F B fp β /\ Reps K F vs ds /\ m ds β = some (r, β') /\ okTW K F H B Q r β'
def runW (n : Nat) (m : MW) : MFW := fun ds β => match m (j7 n ds) β with
 | some (.nx _, β') => some (.sh .non, β'.drop (β'.length - β.length))
 | some (.rt d, β') => some (.sh d, β'.drop (β'.length - β.length))
 | some (.rf es, β') => some (.fr es, β'.drop (β'.length - β.length))
 | _ => none
theorem BxR.drop {K : W.Frag} {F B : Hp} : ∀ {fp : List Addr} {β : Bx} (k : Nat), BxR K F B fp β -> ∃ fq, BxR K F B fq (β.drop k) /\ fq.Sublist fp
 | _, _, 0, h => ⟨_, h, List.Sublist.refl _⟩
 | _, _, k + 1, .nil => ⟨_, .nil, List.Sublist.refl _⟩
 | _, _, k + 1, .cons c r => by
  obtain ⟨fq, h, s⟩ := BxR.drop k r
  exact ⟨fq, h, s.trans (sublist_append_right _ _)⟩
theorem BxOk.drop {K : W.Frag} {F0 H0 F B : Hp} {fp : List Addr} {β : Bx} (h : BxOk K F0 H0 F B fp β) (k : Nat) : ∃ fq, BxOk K F0 H0 F B fq (β.drop k) := by
 obtain ⟨fq, r, s⟩ := h.bx.drop k
 exact ⟨fq, h.out, r, h.nd.sublist s, h.plain⟩
theorem Fun.okW {P : Program} {w : World} {K : W.Frag} {mg : Str -> Option Value} {base : Heap} {x qual : Str} {st : Stmt} {f : Addr} {fd : FuncData} {N ps : List Str} {k : Nat} {m : MW} (Fn : Fun K x qual st f fd) (Sc : FnScope N ps (x0 st))
  (hbody : ∀ (cdv : Value) (A : Around) (outer : List Env) (s : Shared) (H : Hp) (E : XK), Room k (A.deeper (envOfC qual (x0 st) s.heap.objs.size f cdv)) -> PSsw (cxOf CX0 P w K mg base N qual (x0 st) f cdv A outer s H E).nox (t4 st) m) :
  FnOk P w K mg base CX0 (k + 1) f fd ps (spW K ps.length (runW N.length m)) := by
 refine Fn.ok Sc (fun vs H Q E h => h.1) fun cdv A outer s H vs Q E hr h => ?_
 obtain ⟨hl, F, B, fp, ds, β, r, β', sf, sb, bo, rs, e, ok⟩ := h
 unfold runW at e
 refine ⟨_, hbody cdv A outer s H E hr, F, cut H B, F, j7 N.length ds, β, ?_⟩
 have W0 : RlW K F (cut H B) F H (W0 N vs) (j7 N.length ds) β := ⟨B, fp, by rw [yc8 sb]; exact M0 sf rs, bo⟩
 split at e
 ·rename_i ρ β1 h1
  cases e
  refine ⟨_, _, W0, h1, fun F' H' σ' rl _ => ?_⟩
  obtain ⟨B', fp', rl', k'⟩ := rl
  obtain ⟨fq, k2⟩ := k'.drop (β1.length - β.length)
  exact ok .non F' H' B' fq rl'.ext k2 .non
 ·rename_i d β1 h1
  cases e
  refine ⟨_, _, W0, h1, fun v F' H' B' fp' x k' rp => ?_⟩
  obtain ⟨fq, k2⟩ := k'.drop (β1.length - β.length)
  exact ok v F' H' B' fq x k2 rp
 ·rename_i es β1 h1
  cases e
  refine ⟨_, _, W0, h1, fun p xs F' H' B' fp' x k' a1 a2 a3 a4 => ?_⟩
  obtain ⟨fq, k2⟩ := k'.drop (β1.length - β.length)
  exact ok p xs F' H' B' fq x k2 a1 a2 a3 a4
 ·cases e
section
variable {K : W.Frag} {F0 H0 F H B : Hp} {σ : St} {ρ : Ro} {β : Bx} {fp : List Addr}
end
section
variable {X : Cx} {a b c e o : Expr} {pos : Pos} {st : Stmt} {rest : List Stmt} {E : XK} {es : List Expr} {mf : MFW} {m : ML}
end
end
section
section
variable {X : Cx} {a b c e o : Expr} {pos apos : Pos} {E : XK} {es : List Expr} {m : ML} {mo : ME}
end
def updB (p : Addr) (c' : Cell) : Bx -> Bx
 | [] => []
 | (q, c) :: β => if q = p then (q, c') :: β else (q, c) :: updB p c' β
section
variable {K : W.Frag} {F0 H0 F H B : Hp} {σ : St} {ρ : Ro} {β : Bx} {fp : List Addr}
theorem BxR.upd {p : Addr} {c : Cell} : ∀ {fp : List Addr} {β : Bx}, BxR K F B fp β -> fp.Nodup -> β.lookup p = some c -> ∃ fq, CellR K F B fq p c /\ fq.Nodup /\ (∀ a ∈ fq, a ∈ fp) /\
  ∀ (c' : Cell) (fq' : List Addr) (B' F' : Hp), Same F F' -> CellR K F' B' fq' p c' -> fq'.Nodup -> (∀ a ∈ fp, a ∉ fq -> B' a = B a) -> (∀ a ∈ fq', a ∈ fq \/ a ∉ fp) -> ∃ fp', BxR K F' B' fp' (updB p c' β) /\ fp'.Nodup /\ ∀ a ∈ fp', a ∈ fp \/ a ∈ fq'
 | _, _, .nil, _, e => by cases e
 | _, _, .cons (fp := f0) (fq := f1) (p := q) (c := c0) (β := β) h r, nd, e => by
  obtain ⟨n0, n1, n2⟩ := List.nodup_append.mp nd
  have dj : ∀ a, a ∈ f0 -> a ∈ f1 -> False := fun a h1 h2 => n2 a h1 a h2 rfl
  rw [lookup_cons] at e
  cases z : p == q with
  | true =>
   rw [z] at e
   have z := beq_iff_eq.mp z
   subst z
   cases e
   refine ⟨f0, h, n0, fun a ha => mem_append_left _ ha, fun c' fq' B' F' sf hc nq ag fr => ?_⟩
   unfold updB
   rw [if_pos rfl]
   refine ⟨fq' ++ f1, .cons hc (r.mono sf fun a ha => ag a (mem_append_right _ ha) fun z => dj a z ha), List.nodup_append.mpr ⟨nq, n1, fun a h1 b h2 hab => ?_⟩, fun a ha => ?_⟩
   ·subst hab
    rcases fr a h1 with z | z
    ·exact dj a z h2
    ·exact z (mem_append_right _ h2)
   ·rcases List.mem_append.mp ha with z | z
    ·exact .inr z
    ·exact .inl (mem_append_right _ z)
  | false =>
   rw [z] at e
   have hne : ¬ q = p := fun y => by rw [y, beq_self_eq_true] at z; cases z
   obtain ⟨fq, h1, nq0, hin, hup⟩ := r.upd n1 e
   refine ⟨fq, h1, nq0, fun a ha => mem_append_right _ (hin a ha), fun c' fq' B' F' sf hc nq ag fr => ?_⟩
   obtain ⟨fp', r', nd', hm⟩ := hup c' fq' B' F' sf hc nq (fun a ha hn => ag a (mem_append_right _ ha) hn) fun a ha => (fr a ha).imp id fun z y => z (mem_append_right _ y)
   unfold updB
   rw [if_neg hne]
   refine ⟨f0 ++ fp', .cons (h.mono sf fun a ha => ag a (mem_append_left _ ha) fun y => dj a ha (hin a y)) r', List.nodup_append.mpr ⟨n0, nd', fun a h1 b h2 hab => ?_⟩, fun a ha => ?_⟩
   ·subst hab
    rcases hm a h2 with z | z
    ·exact dj a h1 z
    ·rcases fr a z with y | y
     ·exact dj a h1 (hin a y)
     ·exact y (mem_append_left _ h1)
   ·rcases List.mem_append.mp ha with z | z
    ·exact .inl (mem_append_left _ z)
    ·exact (hm a z).imp (mem_append_right _) id
theorem Rl.putB {a : Addr} {o : HO} (rl : Rl K F0 (jn H0 B) F H σ ρ) (out : ∀ b, B b ≠ none -> H0 b = none /\ F0 b = none) (ha : B a ≠ none \/ H a = none) : Rl K F0 (jn H0 (upd B a o)) F (upd H a o) σ ρ /\ F a = none /\ H0 a = none /\ F0 a = none := by
 have fa : F a = none /\ H0 a = none /\ F0 a = none := by
  rcases ha with h | h
  ·refine ⟨?_, out a h⟩
   cases q : F a with
   | none => rfl
   | some u => exact absurd (Y2 (rl.ext.new a (out a h).2 (by rw [q]; simp))).1 h
  ·have f : F a = none := rl.fh.free h
   exact ⟨f, (Y2 (rl.ext.hh.free h)).2, rl.ext.ff.free f⟩
 have jo : ∀ b, b ≠ a -> jn H0 (upd B a o) b = jn H0 B b := fun b hb => by unfold jn; rw [w8 hb]
 have ne : ∀ p xs, jn H0 B p = none -> H p = some (.lst xs) -> p ≠ a := fun p xs e1 e2 e3 => by
  subst e3
  rcases ha with h | h
  ·exact h (Y2 e1).1
  ·rw [h] at e2; cases e2
 refine ⟨⟨⟨rl.ext.ff, fun b u e => ?_, rl.ext.fh.put fa.1, fun b e n => ?_, rl.ext.nf⟩, rl.len, rl.sh, fun i ds e => ?_, rl.inj, fun i p ds e => ?_, rl.obn, rl.ob1⟩, fa⟩
 ·by_cases hb : b = a
  ·subst hb
   rw [c9 w9] at e
   rw [w9]; exact e
  ·rw [jo b hb] at e
   rw [w8 hb]
   exact rl.ext.hh b u e
 ·have hb : b ≠ a := fun z => by subst z; exact n fa.1
  rw [jo b hb]
  exact rl.ext.new b e n
 ·obtain ⟨p, xs, a1, a2, a3, a4, a5⟩ := rl.own i ds e
  have hp := ne p xs a5 a3
  exact ⟨p, xs, a1, a2, by rw [w8 hp]; exact a3, a4, by rw [jo p hp]; exact a5⟩
 ·obtain ⟨a1, a2, a3, xs, a4, a5⟩ := rl.ob i p ds e
  have hp := ne p xs a3 a4
  exact ⟨a1, a2, by rw [jo p hp]; exact a3, xs, by rw [w8 hp]; exact a4, a5⟩
end
end
section
section
variable {K : W.Frag} {F0 H0 F H B : Hp} {σ : St} {ρ : Ro} {β : Bx} {fp : List Addr}
theorem FlR.length {xs : List V} {fs : List Fl} (h : FlR K F B fp xs fs) : xs.length = fs.length := by
 induction h with
 | nil => rfl
 | v _ _ ih => simp [ih]
 | l _ _ _ ih => simp [ih]
theorem ys7 {a : Addr} {o : HO} (out : ∀ b, B b ≠ none -> H0 b = none /\ F0 b = none) (h : H0 a = none /\ F0 a = none) : ∀ b, upd B a o b ≠ none -> H0 b = none /\ F0 b = none := fun b hb => by
 by_cases z : b = a
 ·subst z; exact h
 ·rw [w8 z] at hb; exact out b hb
theorem zi8 {a : Addr} {o : HO} (pl : ∀ b o u, B b ≠ some (.frz o u)) (h : ∀ p u, o ≠ .frz p u) : ∀ b p u, upd B a o b ≠ some (.frz p u) := fun b p u hb => by
 by_cases z : b = a
 ·subst z; rw [w9] at hb; exact h p u (Option.some.inj hb)
 ·rw [w8 z] at hb; exact pl b p u hb
end
section
variable {X : Cx} {value o : Expr} {pos pos' : Pos} {f : Str}
end
end
section
section
variable {X : Cx} {value e o : Expr} {pos pos' apos cpos : Pos} {f : Str} {st : Stmt} {rest : List Stmt}
def zd9 (m : ML) : Ro -> Bx -> Option (List D) := fun ρ β => (m (thaw ρ β)).bind fun ds => if ds.all isSc = true then some ds else none
theorem zh6 {K : W.Frag} {F G : Hp} : ∀ {vs : List V} {ds : List D}, ds.all isSc = true -> Reps K F vs ds -> Reps K G vs ds
 | _, _, _, .nil => .nil
 | _, _, h, .cons r rr => by
  rw [all_cons, Bool.and_eq_true] at h
  exact .cons (yj8 h.1 r) (zh6 h.2 rr)
end
end
section
theorem Rl.forget {K : W.Frag} {F0 H0 F H : Hp} {σ : St} {ρ : Ro} (r : Rl K F0 H0 F H σ ρ) (i : Nat) : Rl K F0 H0 F H σ (ρ.set i none) := by
 have back : ∀ (j : Nat) x, (ρ.set i none)[j]? = some (some x) -> ρ[j]? = some (some x) := fun j x e => by
  by_cases hj : i = j
  ·subst hj
   rcases Nat.lt_or_ge i ρ.length with z | z
   ·rw [getElem?_set_self z] at e; cases e
   ·rw [getElem?_eq_none (by simpa using z)] at e; cases e
  ·rw [getElem?_set_ne hj] at e; exact e
 exact ⟨r.ext, by simp [r.len], fun j d e => r.sh j d (back j _ e), fun j ds e => r.own j ds (back j _ e), fun j k p ds es hjk e1 e2 => r.inj j k p ds es hjk (back j _ e1) (back k _ e2), fun j p ds e => r.ob j p ds (back j _ e), fun j k p ds es e1 e2 => r.obn j k p ds es (back j _ e1) (back k _ e2), fun j k p q ds es e1 e2 => r.ob1 j k p q ds es (back j _ e1) (back k _ e2)⟩
open Classical in
noncomputable def anyN {α : Type} (β : Bx) (f : Addr -> Option α) : Option α := if h : ∃ r, ∀ x, x ∉ β.map Prod.fst -> f x = some r then some (Classical.choose h) else none
theorem yz0 {α : Type} {β : Bx} {f : Addr -> Option α} {r : α} (h : anyN β f = some r) : ∀ x, x ∉ β.map Prod.fst -> f x = some r := by
 unfold anyN at h
 split at h
 ·rename_i hx
  cases h
  exact Classical.choose_spec hx
 ·cases h
theorem zj0 (l : List Addr) : ∃ x, x ∉ l := by
 have aux : ∀ l : List Addr, ∃ b, ∀ a ∈ l, a < b := by
  intro l
  induction l with
  | nil => exact ⟨0, fun a h => by cases h⟩
  | cons a l ih =>
   obtain ⟨b, hb⟩ := ih
   refine ⟨max b (a + 1), fun c hc => ?_⟩
   rcases List.mem_cons.mp hc with rfl | hc
   ·have := Nat.le_max_right b (c + 1); exact Nat.lt_of_lt_of_le (Nat.lt_succ_self c) this
   ·exact Nat.lt_of_lt_of_le (hb c hc) (Nat.le_max_left _ _)
 obtain ⟨b, hb⟩ := aux l
 exact ⟨b, fun h => Nat.lt_irrefl _ (hb b h)⟩
theorem yz1 {α : Type} {β : Bx} {f : Addr -> Option α} {r : α} (h : ∀ x, x ∉ β.map Prod.fst -> f x = some r) : anyN β f = some r := by
 unfold anyN
 have hx : ∃ r, ∀ x, x ∉ β.map Prod.fst -> f x = some r := ⟨r, h⟩
 rw [dif_pos hx]
 obtain ⟨x, hn⟩ := zj0 (β.map Prod.fst)
 have := Classical.choose_spec hx x hn
 rw [h x hn] at this
 exact this.symm
def letGo (i : Nat) (k : Nat) : Out × Bx -> Out × Bx
 | (.nx ρ, β) => (.nx (ρ.set i none), β.drop (β.length - k))
 | (.bk ρ, β) => (.bk (ρ.set i none), β.drop (β.length - k))
 | (.ct ρ, β) => (.ct (ρ.set i none), β.drop (β.length - k))
 | (o, β) => (o, β.drop (β.length - k))
theorem okW.letGo {K : W.Frag} {F0 H0 Fb : Hp} {Dn : Ends} {i k : Nat} : ∀ {o : Out} {β : Bx}, okW K F0 H0 Fb Dn (letGo i k (o, β)).1 (letGo i k (o, β)).2 -> okW K F0 H0 Fb Dn o β
 | .nx ρ, β, h => fun F H σ ⟨B, fp, rl, ok⟩ s => let ⟨fq, ok'⟩ := ok.drop (β.length - k); h F H σ ⟨B, fq, rl.forget i, ok'⟩ s
 | .bk ρ, β, h => fun F H σ ⟨B, fp, rl, ok⟩ s => let ⟨fq, ok'⟩ := ok.drop (β.length - k); h F H σ ⟨B, fq, rl.forget i, ok'⟩ s
 | .ct ρ, β, h => fun F H σ ⟨B, fp, rl, ok⟩ s => let ⟨fq, ok'⟩ := ok.drop (β.length - k); h F H σ ⟨B, fq, rl.forget i, ok'⟩ s
 | .rt d, β, h => fun v F H B fp x ok r => let ⟨fq, ok'⟩ := ok.drop (β.length - k); h v F H B fq x ok' r
 | .rf ds, β, h => fun p xs F H B fp x ok a b c r => let ⟨fq, ok'⟩ := ok.drop (β.length - k); h p xs F H B fq x ok' a b c r
 | .rg d p r, β, h => fun v F H xs B fp x ok a j b c e => let ⟨fq, ok'⟩ := ok.drop (β.length - k); h v F H xs B fq x ok' a j b c e
 | .rp _ _, _, h => h
 | .rgf _ _ _, _, h => h
section
variable {X : Cx} {e : Expr} {es : List Expr} {st : Stmt} {rest : List Stmt} {E : XK} {mf : MFW} {m : ML}
theorem BxR.keys {K : W.Frag} {F B : Hp} : ∀ {fp : List Addr} {β : Bx}, BxR K F B fp β -> ∀ p ∈ β.map Prod.fst, B p ≠ none
 | _, _, .nil, p, h => by cases h
 | _, _, .cons (p := q) c r, p, h => by
  rw [map_cons] at h
  rcases List.mem_cons.mp h with z | z
  ·subst z
   cases c with
   | ins _ _ b _ _ => rw [b]; simp
   | row b _ => rw [b]; simp
   | tb _ b _ _ => rw [b]; simp
  ·exact r.keys p z
end
def plainW (mf : MFW) : MF := fun ds => match mf ds [] with | some (.sh d, _) => some (.sh d) | some (.fr es, _) => some (.fr es) | _ => none
theorem Ext.unjn {F H B F' H' : Hp} (d : ∀ a, B a ≠ none -> H a = none) (x : Ext F (jn H B) F' H') : Ext F H F' H' :=
 ⟨x.ff, fun a o e => x.hh a o (by
  cases q : B a with
  | none => rw [X8 q]; exact e
  | some u => rw [d a (by rw [q]; simp)] at e; cases e), x.fh, fun b e n => (Y2 (x.new b e n)).2, x.nf⟩
theorem FnOk.plainW {P : Program} {w : World} {K : W.Frag} {mg : Str -> Option Value} {base : Heap} {CX : CXT} {k : Nat} {f : Addr} {fd : FuncData} {ps : List Str} {n : Nat} {mf : MFW} (G : FnOk P w K mg base CX k f fd ps (spW K n mf)) : FnOk P w K mg base CX k f fd ps (spR K n (plainW mf)) := G.imp fun vs H Q E hpat => by
 obtain ⟨hl, F, ds, r, sf, rs, e, ok⟩ := hpat
 have hc : cut H (fun _ => none) = H := funext fun a => zb5 rfl
 have b0 : BxOk K F (cut H fun _ => none) F (fun _ => none) [] [] := ⟨fun a h => absurd rfl h, .nil, nodup_nil, fun a o u h => by cases h⟩
 refine ⟨hl, F, fun _ => none, [], ds, [], ?_⟩
 unfold L2.plainW at e
 split at e
 ·rename_i d β h1
  cases e
  refine ⟨_, _, sf, fun a o h => (by cases h), b0, rs, h1, fun v F' H' B' fp' x k' r => ?_⟩
  rw [hc] at x k'
  exact ok v F' H' (x.unjn fun a h => (k'.out a h).1) r
 ·rename_i es β h1
  cases e
  refine ⟨_, _, sf, fun a o h => (by cases h), b0, rs, h1, fun p xs F' H' B' fp' x k' a1 a2 a3 a4 => ?_⟩
  rw [hc] at x k' a1
  exact ok p xs F' H' (x.unjn fun a h => (k'.out a h).1) (Y2 a1).2 a2 a3 a4
 ·cases e
end
section
section
variable {X : Cx} {a b c e o : Expr} {pos : Pos} {st : Stmt} {rest : List Stmt} {E : XK} {es : List Expr} {mf : MFW}
end
end
section
section
variable {X : Cx} {e o : Expr} {E : XK}
end
end
section
section
variable {X : Cx} {e : Expr} {pos : Pos}
end
end
section
section
variable {K : W.Frag} {F0 H0 F H B : Hp} {σ : St} {ρ : Ro} {β : Bx} {fp : List Addr}
end
abbrev MGW := Addr -> List D -> List D -> Bx -> Option (D × List D × Bx)
section
variable {X : Cx} {e : Expr} {pos : Pos} {st : Stmt} {es : List Expr} {E : XK} {mf : MGW} {m : ML}
end
end
section
end
section
section
variable {P : Program} {w : World} {K : W.Frag} {mg : Str -> Option Value} {base h : Heap} {nm ql cn : Str} {st : Stmt} {ps : List Str} {sp : Sp} {n : Nat} {C : Addr}
end
section
variable {X : Cx} {n k : Nat} {nm cn : Str} {ps : List Str} {sp : Sp} {e o : Expr} {es : List Expr} {ta : TE} {t : TA} {p pos apos : Pos} {C : Addr} {pl : Sem Bool}
end
section
variable {a b c d e f : ME} (ρ : Ro) (ds : List D)
end
end
section
section
variable {X : Cx} {a b c e : Expr} {pos : Pos} {st : Stmt}
end
end
section
section
variable {X : Cx} {st : Stmt} {sts : List Stmt}
end
end
section
section
variable {X : Cx} {a b c e k : Expr} {te : TE} {ma mb : ME} {la lb : ML} {pos p2 : Pos} {st : Stmt}
end
end
section
section
variable {X : Cx} {P : Addr} {pos : Pos} {q : Str} {params : Arguments} {body : Expr} {sc : Scope}
end
end
section
section
variable {X : Cx} {pins : List (Addr × Obj)} {σ : St} {H : Hp} {s : Shared}
end
end
section
section
variable {X : Cx} {pins : List (Addr × Obj)} {σ : St}
end
end
section
open Classical in
section
variable {X : Cx}
end
section
variable {P : Program} {w : World} {K : W.Frag} {mg : Str -> Option Value} {base : Heap} {nm : Str} {st : Stmt} {ps : List Str} {sp : Sp} {n : Nat}
end
end
section
end
section
def insB (B H : Hp) (L : List Addr) : Hp := fun a => if a ∈ L then H a else B a
theorem zz1 {B H : Hp} {L : List Addr} {a : Addr} (h : a ∈ L) : insB B H L a = H a := by unfold insB; rw [if_pos h]
theorem M6 {B H : Hp} {L : List Addr} {a : Addr} (h : a ∉ L) : insB B H L a = B a := by unfold insB; rw [if_neg h]
section
variable {K : W.Frag} {F0 H0 F H B : Hp} {σ : St} {ρ : Ro} {β : Bx} {fp : List Addr}
theorem Rl.takeBs {L : List Addr} (rl : Rl K F0 (jn H0 B) F H σ ρ) (hH : ∀ q ∈ L, H q ≠ none) (hF : ∀ q ∈ L, F q = none) (hj : ∀ q ∈ L, jn H0 B q = none) (hn : ∀ q ∈ L, ∀ (i : Nat) ds, ρ[i]? = some (some (.own ds)) -> σ[i]? ≠ some (some (.ref q))) (hb : ∀ q ∈ L, ∀ (i : Nat) p ds, ρ[i]? = some (some (.ob p ds)) -> p ≠ q) : Rl K F0 (jn H0 (insB B H L)) F H σ ρ := by
 have jo : ∀ b, b ∉ L -> jn H0 (insB B H L) b = jn H0 B b := fun b hb => by unfold jn; rw [M6 hb]
 refine ⟨⟨rl.ext.ff, fun b u e => ?_, rl.ext.fh, fun b e n => ?_, rl.ext.nf⟩, rl.len, rl.sh, fun i ds e => ?_, rl.inj, fun i p ds e => ?_, rl.obn, rl.ob1⟩
 ·by_cases hq : b ∈ L
  ·have := hH b hq
   unfold jn at e
   rw [zz1 hq] at e
   cases z : H b with
   | none => exact absurd z this
   | some o => rw [z] at e; exact e
  ·rw [jo b hq] at e; exact rl.ext.hh b u e
 ·have hq : b ∉ L := fun z => n (hF b z)
  rw [jo b hq]; exact rl.ext.new b e n
 ·obtain ⟨p, xs, a1, a2, a3, a4, a5⟩ := rl.own i ds e
  exact ⟨p, xs, a1, a2, a3, a4, by rw [jo p (fun z => hn p z i ds e a1)]; exact a5⟩
 ·obtain ⟨a1, a2, a3, xs, a4, a5⟩ := rl.ob i p ds e
  exact ⟨a1, a2, by rw [jo p (fun z => hb p z i p ds e rfl)]; exact a3, xs, a4, a5⟩
theorem zo0 {B' : Hp} : ∀ {qs : List Addr} {dss : List (List D)}, RPs K F H qs dss -> (∀ q ∈ qs, B' q = H q) -> FlR K F B' qs (qs.map V.ref) (dss.map .l)
 | _, _, .nil, _ => .nil
 | _, _, .cons h r t, k => .l (by rw [k _ (by simp)]; exact h) r (zo0 t fun q hq => k q (mem_cons_of_mem _ hq))
theorem RlW.pots {F' H' : Hp} {p : Addr} {qs : List Addr} {dss : List (List D)} (rl : Rl K F0 (jn H0 B) F H σ ρ) (ok : BxOk K F0 H0 F B fp β) (x : Ext F H F' H') (P : Pots K H F' H' p qs dss) : RlW K F0 H0 F' H' σ ρ ((p, .row (dss.map .l)) :: β) /\ B p = none := by
 have new : ∀ q ∈ p :: qs, H q = none /\ F' q = none /\ H' q ≠ none := fun q hq => by
  rcases List.mem_cons.mp hq with e | hq
  ·subst e; exact ⟨P.hp, P.fp, by rw [P.at']; simp⟩
  ·obtain ⟨o, ho⟩ := P.rep.some q hq
   exact ⟨(P.new q hq).1, (P.new q hq).2, by rw [ho]; simp⟩
 have hj : ∀ q ∈ p :: qs, jn H0 B q = none := fun q hq => rl.ext.hh.free (new q hq).1
 have hB : ∀ q ∈ p :: qs, B q = none := fun q hq => (Y2 (hj q hq)).1
 have rl1 := (rl.go x).takeBs (L := p :: qs) (fun q hq => (new q hq).2.2) (fun q hq => (new q hq).2.1) hj (fun q hq i ds e z => by
  obtain ⟨p', xs, a1, _, a3, _⟩ := rl.own i ds e
  rw [z] at a1; cases a1
  rw [(new q hq).1] at a3; cases a3) (fun q hq i p' ds e z => by
  obtain ⟨_, _, _, xs, a4, _⟩ := rl.ob i p' ds e
  rw [z, (new q hq).1] at a4; cases a4)
 have notin : ∀ a ∈ fp, a ∉ p :: qs := fun a ha z => ok.bx.mem a ha (hB a z)
 refine ⟨⟨insB B H' (p :: qs), (p :: qs) ++ fp, rl1, fun a h => ?_, .cons (.row (by rw [zz1 (by simp)]; exact P.at') (zo0 P.rep fun q hq => zz1 (mem_cons_of_mem _ hq))) (ok.bx.mono x.ff fun a ha => M6 (notin a ha)), List.nodup_append.mpr ⟨P.nd, ok.nd, fun a h1 b h2 z => by subst z; exact notin a h2 h1⟩, fun a o u h => ?_⟩, hB p (by simp)⟩
 ·by_cases hq : a ∈ p :: qs
  ·exact ⟨(Y2 (hj a hq)).2, rl.ext.ff.free (rl.fh.free (new a hq).1)⟩
  ·rw [M6 hq] at h; exact ok.out a h
 ·by_cases hq : a ∈ p :: qs
  ·rw [zz1 hq] at h
   rcases List.mem_cons.mp hq with e | hq
   ·subst e; rw [P.at'] at h; cases h
   ·obtain ⟨i, hi, hiq⟩ := getElem_of_mem hq
    have hr := P.rep
    have : ∃ xs, H' a = some (.lst xs) := by
     clear h
     have aux : ∀ {qs : List Addr} {dss : List (List D)}, RPs K F' H' qs dss -> a ∈ qs -> ∃ xs, H' a = some (.lst xs) := by
      intro qs dss r
      induction r with
      | nil => intro h; cases h
      | cons h1 _ _ ih =>
       intro h
       rcases List.mem_cons.mp h with e | h
       ·subst e; exact ⟨_, h1⟩
       ·exact ih h
     exact aux hr hq
    obtain ⟨xs, e⟩ := this
    rw [e] at h; cases h
  ·rw [M6 hq] at h; exact ok.plain a o u h
theorem FlR.at' {n : Nat} {ds : List D} : ∀ {n : Nat} {fp : List Addr} {xs : List V} {fs : List Fl}, FlR K F B fp xs fs -> fp.Nodup -> fs[n]? = some (.l ds) -> ∃ q ys, xs[n]? = some (.ref q) /\ q ∈ fp /\ B q = some (.lst ys) /\ Reps K F ys ds /\
  ∀ (B' F' : Hp) ys' ds', Same F F' -> B' q = some (.lst ys') -> Reps K F' ys' ds' -> (∀ a ∈ fp, a ≠ q -> B' a = B a) -> FlR K F' B' fp xs (fs.set n (.l ds'))
 | _, _, _, _, .nil, _, e => by simp at e
 | 0, _, _, _, .v _ _, _, e => by simp at e
 | n + 1, _, _, _, .v r t, nd, e => by
  obtain ⟨q, ys, a1, a2, a3, a4, a5⟩ := FlR.at' (n := n) t nd (by simpa using e)
  exact ⟨q, ys, by simpa using a1, a2, a3, a4, fun B' F' ys' ds' sf b1 b2 b3 => .v (r.mono sf) (a5 B' F' ys' ds' sf b1 b2 b3)⟩
 | 0, _, _, _, .l (fp := fp) (q := q) b r t, nd, e => by
  simp at e
  subst e
  have hn := List.nodup_cons.mp nd
  exact ⟨q, _, rfl, by simp, b, r, fun B' F' ys' ds' sf b1 b2 b3 => .l b1 b2 (t.mono sf fun a ha => b3 a (by simp [ha]) fun z => hn.1 (z ▸ ha))⟩
 | n + 1, _, _, _, .l (fp := fp) (q := q0) b r t, nd, e => by
  have hn := List.nodup_cons.mp nd
  obtain ⟨q, ys, a1, a2, a3, a4, a5⟩ := FlR.at' (n := n) t hn.2 (by simpa using e)
  exact ⟨q, ys, by simpa using a1, by simp [a2], a3, a4, fun B' F' ys' ds' sf b1 b2 b3 => .l (by rw [b3 q0 (by simp) fun z => hn.1 (z ▸ a2)]; exact b) (r.mono sf) (a5 B' F' ys' ds' sf b1 b2 fun a ha hq => b3 a (by simp [ha]) hq)⟩
end
noncomputable def zk2 (i : Nat) (mp : MP) (rest : MW) : MW := fun ρ β => (mp ρ).bind fun dss => anyN β fun x => (rest (ρ.set i (some (.sh (.ptr x)))) ((x, .row (dss.map .l)) :: β)).map (letGo i β.length)
section
variable {X : Cx} {a b c e : Expr} {pos : Pos} {st : Stmt} {rest : List Stmt} {E : XK} {es : List Expr} {mf : MFW} {m : ML}
theorem zw0 {i : Nat} {src : List (Option Nat)} {mi : ML} {g : Tg} {elt : ML} {mr : MW} (hS : PS X st (tAsg (zt8 src (TId X.K mi) (TGd X.K g) (TC X.K cyes) (TF X.K elt)) (F8 i))) (hr : PSsw X rest mr) : PSsw X (st :: rest) (zk2 i (N0 src mi g elt) mr) := PSs.imp (M3 hS hr) fun Dn σ H ⟨F0, H0, F, ρ, β, o, β', ⟨B, fp, rl, ok⟩, e, k⟩ => by
 unfold zk2 at e
 cases h1 : N0 src mi g elt ρ with
 | none => rw [h1] at e; cases e
 | some dss =>
  rw [h1, Option.bind_some] at e
  show zt8 src (TId X.K mi) (TGd X.K g) (TC X.K cyes) (TF X.K elt) σ H (fun v H' => TSw X.K mr Dn (σ.set i (some v)) H')
  refine ym9 ⟨F0, jn H0 B, F, ρ, dss, rl, h1, fun p qs F' H' x P => ?_⟩
  obtain ⟨⟨B2, fp2, rl2, ok2⟩, hBp⟩ := RlW.pots rl ok x P
  have e := yz0 e p fun z => ok.bx.keys p z hBp
  show TSw X.K mr Dn (σ.set i (some (.ref p))) H'
  cases h3 : mr (ρ.set i (some (.sh (.ptr p)))) ((p, .row (dss.map .l)) :: β) with
  | none => rw [h3] at e; cases e
  | some ob =>
   obtain ⟨o1, β2⟩ := ob
   rw [h3] at e
   have e : some (letGo i β.length (o1, β2)) = some (o, β') := e
   have e := Option.some.inj e
   refine ⟨F0, H0, F', _, _, o1, β2, ⟨B2, fp2, rl2.set (.ptr p), ok2⟩, h3, okW.letGo (i := i) (k := β.length) ?_⟩
   rw [e]
   exact k.mono x.ff
def setR (a b : Int) (d : D) (fs : List Fl) : Option (List Fl) := match ixN fs.length a with
 | some n => (match fs[n]? with
  | some (.l ds) => (match ixN ds.length b with | some m => some (fs.set n (.l (ds.set m d))) | none => none)
  | _ => none)
 | none => none
def zw9 (i : Nat) (k1 k2 : ME) (v : Ro -> Bx -> Option D) : MW := fun ρ β => match v ρ β, ρ[i]?, k1 ρ, k2 ρ with
 | some d, some (some (.sh (.ptr p))), some (.int a), some (.int b) => (match β.lookup p with
  | some (.row fs) => (setR a b d fs).map fun fs' => (.nx ρ, updB p (.row fs') β)
  | _ => none)
 | _, _, _, _ => none
theorem M1 {i : Nat} {k1 k2 : ME} {mv : Ro -> Bx -> Option D} (hE : PS X st (tAsg (TDw X.K mv) (gSub (tOp (rIxL X.K) (tVar i) (TD X.K k1)) (TD X.K k2) zg2))) : PSw X st (zw9 i k1 k2 mv) := PS.imp hE fun Dn σ H hpat => by
 obtain ⟨F0, H0, F, ρ, β, o, β', rw', e, k⟩ := hpat
 unfold zw9 at e
 split at e
 ·rename_i d p a b h1 hp hk1 hk2
  split at e
  ·rename_i fs hb
   cases h2 : setR a b d fs with
   | none => rw [h2] at e; cases e
   | some fs' =>
    rw [h2] at e; cases e
    unfold setR at h2
    split at h2
    ·rename_i n hn
     split at h2
     ·rename_i ds hfs
      split at h2
      ·rename_i m hm
       cases h2
       refine ⟨F0, H0, F, ρ, β, d, rw', h1, fun v F1 H1 r1 s1 _ rp => ?_⟩
       obtain ⟨B, fp, rl, ok⟩ := r1
       obtain ⟨w, hσ, rw1⟩ := rl.sh i _ hp
       cases rw1
       obtain ⟨fq, hc, nq, hin, up⟩ := ok.bx.upd ok.nd hb
       cases hc with
       | @row fq0 _ xs _ b0 fl =>
        have nq1 := List.nodup_cons.mp nq
        obtain ⟨q, ys, a1, a2, a3, a4, a5⟩ := FlR.at' (n := n) fl nq1.2 hfs
        refine ⟨_, hσ, F0, jn H0 B, F1, ρ, _, rl, hk1, fun w2 F2 H2 x2 r2 => ?_⟩
        cases r2
        have hat : atI xs a = some (.ref q) := by
         unfold atI
         rw [fl.length, hn]
         exact a1
        refine ⟨p, xs, a, .ref q, rfl, rfl, SqL.of (x2.hh _ _ (rl.ext.hh _ _ (c9 b0))), hat, F0, jn H0 B, F2, ρ, _, rl.go x2, hk2, fun w3 F3 H3 x3 r3 => ?_⟩
        cases r3
        have rl3 := (rl.go x2).go x3
        refine ⟨q, ys, b, m, rfl, rfl, rl3.ext.hh _ _ (c9 a3), by rw [a4.length]; exact hm, ?_⟩
        obtain ⟨rl4, _, hq0, hqF⟩ := rl3.putB (a := q) (o := .lst (ys.set m v)) ok.out (.inl (by rw [a3]; simp))
        have pq : p ≠ q := fun z => nq1.1 (z ▸ a2)
        have s13 : Same F1 F3 := x2.ff.trans x3.ff
        have hcell : CellR X.K F3 (upd B q (.lst (ys.set m v))) (p :: fq0) p (.row (fs.set n (.l (ds.set m d)))) := .row (by rw [w8 pq]; exact b0) (a5 _ F3 _ _ s13 w9 ((a4.mono s13).set (rp.mono s13) m) fun a _ hne => w8 hne)
        obtain ⟨fp', r', nd', hm'⟩ := up _ _ _ F3 s13 hcell nq (fun a _ hn => w8 fun z => hn (by rw [z]; simp [a2])) fun a ha => .inl ha
        exact k F3 _ σ ⟨_, fp', rl4, ys7 ok.out ⟨hq0, hqF⟩, r', nd', zi8 ok.plain fun _ _ z => by cases z⟩ (s1.trans s13)
      ·cases h2
     ·cases h2
    ·cases h2
  ·cases e
 ·cases e
end
end
section
section
variable {X : Cx} {pins : List (Addr × Obj)} {σ : St}
end
section
variable {X : Cx}
end
end
section
section
variable {X : Cx} {pins : List (Addr × Obj)} {σ : St}
set_option maxHeartbeats 8000000 in
theorem ze8 (hc : X.calm = true) (hu : X.A.units + 64 < cLine) {l I S : Addr} {xs : List V} {ds : List D} {kw : List (Str × Value)} {dm : D} (hIS : I ≠ S) (hlI : l ≠ I) (hlS : l ≠ S) :
  ∀ (r j : Nat) (H F H0 F0 : Hp) (s : Shared) (xb : V) (vb : Value) (db : D) (c : Nat) (R : Result -> Shared -> Prop),
   ds.length - (j + 1) = r -> j + 1 <= ds.length -> Inv X pins σ H s -> Ext F0 H0 F H -> SqT X.K H l xs -> Reps X.K F xs ds -> s.heap.IsTupleIter I l (j + 1) -> s.heap.get? S = some (seqObj "list" #[vb, vb] c) -> FpOk X pins H I -> FpOk X pins H S ->
   RelV xb vb -> Rep X.K F xb db -> minP (ds.drop (j + 1)) db = some dm ->
   (∀ x v F' H' s', Inv X pins σ H' s' -> RelV x v -> Ext F0 H0 F' H' -> Rep X.K F' x dm -> R (.ok (.ret v)) s') ->
   codeAny (model X.prog X.w) X.A (.builtin "min.loop" ⟨[.ref I, .none, .ref S], kw⟩) R s := by
 have hname : (toString "min" ++ toString ".loop" : String) = "min.loop" := by decide
 intro r
 induction r with
 | zero =>
  intro j H F H0 F0 s xb vb db c R hr hj I' ext sq rs hit hS fI fS rb pb hm hR
  have hin : j + 1 = ds.length := by omega
  obtain ⟨its, vr, pl, _⟩ := I'.tuple sq
  have zl : its.length = ds.length := by rw [<- vr.length, rs.length]
  rw [hin, drop_length] at hm
  have hm : some db = some dm := hm
  cases hm
  refine codeAny_builtin PySem.F.entry_min_loop ?_
  rw [Around.under_plainId PySem.F.plain_min_loop _]
  show wpAny _ X.A.in1 (seqItems? (.ref S) >>= _) _ _ _
  refine wpAny_bind (wpAny_seqItems hS rfl ?_)
  show wpAny _ X.A.in1 (tryCatch (pyNext (.ref I)) _ >>= _) _ _ _
  refine wpAny_bind (wpAny_tryCatch (wpAny_pyNext_tuple_end (I'.ok.hd hc) hit pl (by simp; omega) fun h' hk' => ?_))
  have hS' : h'.get? S = some (seqObj "list" #[vb, vb] c) := hk' S _ (Ne.symm hIS) hS
  have s1 := Heap.SameBut.update h' S (Obj.mapSeq fun _ => (#[] : Array Value))
  show wpAny _ X.A.in1 (updateSeq S (fun _ => #[]) >>= _) _ _ _
  refine wpAny_bind ?_
  refine wpAny_updateSeq hS' rfl (wpAny_bind (wpAny_letGo (wpAny_pure ?_)))
  have I9 : Inv X pins σ H { s with heap := h'.update S (Obj.mapSeq fun _ => (#[] : Array Value)), toks := s.toks } := I'.turnedL (fp := [I, S]) (t' := s.toks) (fun b o hb e => by
   simp only [mem_cons, not_mem_nil, or_false, not_or] at hb
   exact (s1.2 b hb.2).trans (hk' b o hb.1 e)) (fun b hb => by
   simp only [mem_cons, not_mem_nil, or_false] at hb
   rcases hb with rfl | rfl <;> assumption)
  exact hR xb vb F H _ I9 rb ext pb
 | succ r ih =>
  intro j H F H0 F0 s xb vb db c R hr hj I' ext sq rs hit hS fI fS rb pb hm hR
  have hlt : j + 1 < ds.length := by omega
  obtain ⟨its, vr, pl, _⟩ := I'.tuple sq
  have zl : its.length = ds.length := by rw [<- vr.length, rs.length]
  obtain ⟨d, hd⟩ : ∃ d, ds[j + 1]? = some d := ⟨_, getElem?_eq_getElem hlt⟩
  obtain ⟨x, hx, px⟩ := rs.get hd
  obtain ⟨v, hv, rx⟩ := vr.get hx
  rw [Q5 hd] at hm
  unfold minP at hm
  refine codeAny_builtin PySem.F.entry_min_loop ?_
  rw [Around.under_plainId PySem.F.plain_min_loop _]
  show wpAny _ X.A.in1 (seqItems? (.ref S) >>= _) _ _ _
  refine wpAny_bind (wpAny_seqItems hS rfl ?_)
  show wpAny _ X.A.in1 (tryCatch (pyNext (.ref I)) _ >>= _) _ _ _
  refine wpAny_bind (wpAny_tryCatch (wpAny_pyNext_tuple_item hit pl (by simpa using hv) fun h1 hit1 s1 => ?_))
  have I1 : Inv X pins σ H { s with heap := h1, toks := s.toks } := I'.turnedL (fp := [I]) (fun b o hb e => s1.extBut b o (by simpa using hb) e) (fun b hb => by rw [List.mem_singleton.mp hb]; exact fI)
  have hS1 : h1.get? S = some (seqObj "list" #[vb, vb] c) := s1.extBut _ _ (Ne.symm hIS) hS
  cases hlt8 : ltF 8 d db with
  | none => rw [hlt8] at hm; cases hm
  | some bt =>
   rw [hlt8] at hm
   have hcmp := yn8 I1 8 (A := X.A.in1) (by show X.A.units + 1 + 8 < cLine; omega) (px.mono ext.fh) (pb.mono ext.fh) rx rb hlt8
   refine wpAny_bind (wpAny_pure ?_)
   show wpAny _ X.A.in1 (tryCatch (holding [v, v] (richCompare .Lt v vb >>= _)) _ >>= _) _ _ _
   refine wpAny_bind (wpAny_tryCatch (wpAny_holding (wpAny_bind (hcmp X.prog X.w _ _ ?_))))
   refine wpAny_bind (wpAny_holding (wpAny_truthy_bool ?_))
   refine wpAny_bind (wpAny_letGo (wpAny_pure ?_))
   cases bt with
   | true =>
    have s3 := Heap.SameBut.update h1 S (Obj.mapSeq fun _ => #[v, v])
    obtain ⟨c2, hc2⟩ : ∃ c2, (h1.update S (Obj.mapSeq fun _ => #[v, v])).get? S = some (seqObj "list" #[v, v] c2) := ⟨_, get?_update_seq hS1 fun _ => #[v, v]⟩
    simp only [if_true]
    refine wpAny_bind ?_
    refine wpAny_updateSeq hS1 rfl (wpAny_bind (wpAny_letGo ?_))
    rw [hname]
    have I3 := I1.turnedL (h' := h1.update S (Obj.mapSeq fun _ => #[v, v])) (t' := s.toks) (fp := [S]) (fun b o hb e => (s3.2 b (by simpa using hb)).trans e) (fun b hb => by rw [List.mem_singleton.mp hb]; exact fS)
    refine wpAny_pure ⟨plainId_quiet PySem.F.plain_min_loop _, ih (j + 1) H F H0 F0 _ x v d c2 R (by omega) hlt I3 ext sq rs (hit1.at fun o e => (s3.2 I hIS).trans e) hc2 fI fS rx px hm hR⟩
   | false =>
    simp only [Bool.false_eq_true, if_false]
    refine wpAny_bind (wpAny_letGo ?_)
    rw [hname]
    refine wpAny_pure ⟨plainId_quiet PySem.F.plain_min_loop _, ih (j + 1) H F H0 F0 _ xb vb db c R (by omega) hlt I1 ext sq rs hit1 hS1 fI fS rb pb hm hR⟩
theorem zj8 (a b : Value) : argsOk "min" ⟨[a, b], []⟩ := by unfold argsOk; kernel_rfl
set_option maxHeartbeats 8000000 in
theorem yw4 (hc : X.calm = true) (hu : X.A.units + 64 < cLine) {xs : List V} {d : D} {ds : List D} {dm : D} {Hb Fb : Hp} {sb : Shared} {E : Value -> Shared -> Prop} {Q : Value -> Shared -> Prop}
  {u1 u2 : Value} (Ib : Inv X pins σ Hb sb) (sfb : Same Fb Hb) (vb : Vals xs [u1, u2]) (rsb : Reps X.K Fb xs (d :: ds)) (hm : minP ds d = some dm)
  (hQ : ∀ x v F' H' s', Inv X pins σ H' s' -> RelV x v -> Ext Fb Hb F' H' -> Rep X.K F' x dm -> Q v s') :
  wpAny (model X.prog X.w) X.A (call (.builtin "min") [u1, u2]) Q E sb := by
 have hname : (toString "min" ++ toString ".loop" : String) = "min.loop" := by decide
 refine kmk_tree PySem.F.kind_min PySem.F.plain_min PySem.F.entry_min (zj8 _ _) ?_
 show wpAny _ X.A.in1 (Builtin.Builtins.bindParams "min" ["key", "default"] 0 ⟨[], []⟩ >>= _) _ _ sb
 refine wpAny_bind (wpAny_of_eq (show Builtin.Builtins.bindParams "min" ["key", "default"] 0 ⟨[], []⟩ = pure [none, none] from rfl) ?_)
 have hzl : xs.length = 2 := vb.length
 have hfr : Hb sb.heap.objs.size = none := Ib.hok.fresh (Nat.le_refl _)
 show wpAny _ X.A.in1 (newTuple [u1, u2] >>= _) _ _ sb
 refine wpAny_bind (wpAny_newTuple ?_ (by show 2 <= sizeLine; rw [sizeLine_eq]; decide))
 have I : Inv X pins σ (upd Hb sb.heap.objs.size (.tup xs)) { sb with heap := sb.heap.push (seqObj "tuple" #[u1, u2] 0), toks := sb.toks } := Ib.laid (t' := sb.toks) (fun b u e => Heap.get?_push_of_some _ e) (Nat.le_refl _) ⟨by rw [hzl, sizeLine_eq]; decide, _, vb, ⟨_, Heap.get?_push_size _ rfl, rfl, _, rfl⟩⟩
 have xb : Ext Fb Hb (upd Fb sb.heap.objs.size (.tup xs)) (upd Hb sb.heap.objs.size (.tup xs)) := Ext.laid sfb hfr
 have sf : Same (upd Fb sb.heap.objs.size (.tup xs)) (upd Hb sb.heap.objs.size (.tup xs)) := xb.fh
 have sq : SqT X.K (upd Hb sb.heap.objs.size (.tup xs)) sb.heap.objs.size xs := SqT.of w9
 have rs : Reps X.K (upd Fb sb.heap.objs.size (.tup xs)) xs (d :: ds) := rsb.mono xb.ff
 have hQ : ∀ x v F' H' s', Inv X pins σ H' s' -> RelV x v -> Ext (upd Fb sb.heap.objs.size (.tup xs)) (upd Hb sb.heap.objs.size (.tup xs)) F' H' -> Rep X.K F' x dm -> Q v s' := fun x v F' H' s' a b c d => hQ x v F' H' s' a b (xb.trans c) d
 generalize upd Fb sb.heap.objs.size (.tup xs) = F at *
 generalize upd Hb sb.heap.objs.size (.tup xs) = H at *
 show wpAny _ X.A.in1 (pyIter (.ref sb.heap.objs.size) >>= _) _ _ { sb with heap := sb.heap.push (seqObj "tuple" #[u1, u2] 0), toks := sb.toks }
 generalize sb.heap.objs.size = l at *
 generalize ({ sb with heap := sb.heap.push (seqObj "tuple" #[u1, u2] 0), toks := sb.toks } : Shared) = s at *
 obtain ⟨its, vr, pl, _⟩ := I.tuple sq
 have hls := pl
 obtain ⟨ol, hol, _⟩ := id hls
 have hll : l < s.heap.objs.size := Heap.lt_size hol
 refine wpAny_bind (wpAny_pyIter_tuple hls ?_)
 refine wpAny_bind (wpAny_newList ?_ (Nat.zero_le _))
 rw [hname]
 refine wpAny_pure ⟨plainId_quiet PySem.F.plain_min_loop _, ?_⟩
 generalize hIo : ({ cls := .type "tuple_iterator", data := .fields #[.ref l, .int 0 0] } : Obj) = oI0
 have hS : (s.heap.push oI0).objs.size = s.heap.objs.size + 1 := size_push' ..
 have hlI : l ≠ s.heap.objs.size := Nat.ne_of_lt hll
 have hlS : l ≠ (s.heap.push oI0).objs.size := by rw [hS]; exact Nat.ne_of_lt (Nat.lt_succ_of_lt hll)
 have hIS : s.heap.objs.size ≠ (s.heap.push oI0).objs.size := by rw [hS]; exact Nat.ne_of_lt (Nat.lt_succ_self _)
 have gI : ((s.heap.push oI0).push (seqObj "list" #[] 0)).get? s.heap.objs.size = some oI0 := Heap.get?_push_of_some _ (Heap.get?_push_size _ (by rw [<- hIo]; rfl))
 have gS : ((s.heap.push oI0).push (seqObj "list" #[] 0)).get? (s.heap.push oI0).objs.size = some (seqObj "list" #[] 0) := Heap.get?_push_size _ rfl
 have fI : FpOk X pins H s.heap.objs.size := I.fpOk (Nat.le_refl _) (I.hok.fresh (Nat.le_refl _))
 have fS : FpOk X pins H (s.heap.push oI0).objs.size := I.fpOk (by rw [hS]; exact Nat.le_succ _) (I.hok.fresh (by rw [hS]; exact Nat.le_succ _))
 have I0 : Inv X pins σ H { s with heap := (s.heap.push oI0).push (seqObj "list" #[] 0), toks := s.toks } := I.turnedL (fp := []) (fun b o _ e => Heap.get?_push_of_some _ (Heap.get?_push_of_some _ e)) (fun b hb => by cases hb)
 generalize (s.heap.push oI0).objs.size = S at *
 generalize hI : s.heap.objs.size = J at *
 generalize (s.heap.push oI0).push (seqObj "list" #[] 0) = h0 at *
 have hit : h0.IsTupleIter J l 0 := ⟨_, gI, by rw [<- hIo], by rw [<- hIo]; rfl⟩
 have zl : its.length = (d :: ds).length := by rw [<- vr.length, rs.length]
 obtain ⟨its', vr', pl', _⟩ := I0.tuple sq
 have zl' : its'.length = (d :: ds).length := by rw [<- vr'.length, rs.length]
 refine codeAny_builtin PySem.F.entry_min_loop ?_
 rw [Around.under_plainId PySem.F.plain_min_loop _]
 show wpAny _ X.A.in1 (seqItems? (.ref S) >>= _) _ _ _
 refine wpAny_bind (wpAny_seqItems gS rfl ?_)
 show wpAny _ X.A.in1 (tryCatch (pyNext (.ref J)) _ >>= _) _ _ _
 obtain ⟨x, hx, px⟩ := rs.get (i := 0) (d := d) rfl
 obtain ⟨v, hv, rx⟩ := vr'.get hx
 refine wpAny_bind (wpAny_tryCatch (wpAny_pyNext_tuple_item hit pl' (by simpa using hv) fun h1 hit1 s1 => ?_))
 have I1 := I0.turnedL (h' := h1) (t' := s.toks) (fp := [J]) (fun b o hb e => s1.extBut b o (by simpa using hb) e) (fun b hb => by rw [List.mem_singleton.mp hb]; exact fI)
 have hS1 : h1.get? S = some (seqObj "list" #[] 0) := s1.extBut _ _ (Ne.symm hIS) gS
 refine wpAny_bind (wpAny_pure ?_)
 have s3 := Heap.SameBut.update h1 S (Obj.mapSeq fun _ => #[v, v])
 obtain ⟨c2, hc2⟩ : ∃ c2, (h1.update S (Obj.mapSeq fun _ => #[v, v])).get? S = some (seqObj "list" #[v, v] c2) := ⟨_, get?_update_seq hS1 fun _ => #[v, v]⟩
 show wpAny _ X.A.in1 (updateSeq S (fun _ => #[v, v]) >>= _) _ _ _
 refine wpAny_bind (wpAny_updateSeq hS1 rfl ?_)
 rw [hname]
 have I3 := I1.turnedL (h' := h1.update S (Obj.mapSeq fun _ => #[v, v])) (t' := s.toks) (fp := [S]) (fun b o hb e => (s3.2 b (by simpa using hb)).trans e) (fun b hb => by rw [List.mem_singleton.mp hb]; exact fS)
 refine wpAny_pure ⟨plainId_quiet PySem.F.plain_min_loop _, ze8 hc hu (ds := d :: ds) (dm := dm) hIS hlI hlS _ 0 H F H F _ x v d c2 _ rfl (by simp) I3 (.refl sf) sq rs (hit1.at fun o e => (s3.2 J hIS).trans e) hc2 fI fS rx px hm fun x v F' H' s' a b c d => hQ x v F' H' s' a b c d⟩
end
def yw5 : List D -> Option D
 | [d, e] => minP [e] d
 | _ => none
def yi5 (K : W.Frag) : List V -> Hp -> VK -> Prop := fun vs H Q => ∃ x y d e dm F, vs = [x, y] /\ Same F H /\ Reps K F [x, y] [d, e] /\ minP [e] d = some dm /\ ∀ z F' H', Ext F H F' H' -> Rep K F' z dm -> Q z H'
section
variable {X : Cx} {pos : Pos}
theorem D7 (hc : X.calm = true) (hu : X.A.units + 64 < cLine) : J7 X (.builtin "min") (yi5 X.K) := by
 intro pins s σ H vs us Q I r h
 obtain ⟨x, y, d, e, dm, F, rfl, sf, rs, hm, q⟩ := h
 obtain ⟨u, w, rfl, r1, r2⟩ := zi6 r
 exact yw4 hc hu I sf (.cons r1 (.cons r2 .nil)) rs hm fun z v F' H' s' a b c g => ⟨z, H', a, b, q z F' H' c g⟩
theorem zj6 {K : W.Frag} : yz3 K (yi5 K) yw5 := by
 intro F H vs ds g Q sf rs e q
 unfold yw5 at e
 split at e
 ·rename_i d e'
  cases rs with
  | cons r rr =>
   cases rr with
   | cons r2 rr =>
    cases rr
    exact ⟨_, _, d, e', g, F, rfl, sf, .cons r (.cons r2 .nil), e, q⟩
 ·cases e
theorem yx5 {x y : Expr} {p : Pos} {m : ML} (hc : X.calm = true) (hu : X.A.units + 64 < cLine) (hg : Gl X "min") (hm : X.mg "min" = none) (ha : PAs X [x, y] m) (he : starEach [x, y] X.env = (false, eval x X.env) :: starEach [y] X.env := by rfl) (hpl : (backTo pos (starEach [y] X.env)).any (·.1) = false := by rfl) : PD X (.Call (.Name "min" p) [x, y] [] pos) (Z2 yw5 m) :=
 (Y3 (D7 hc hu) hg hm PyProof.Rows.boot_min ha (by decide) (by decide) he hpl).imp fun _ _ _ h => zt0 zj6 h
end
end
section
section
variable {X : Cx} {e : Expr} {pos : Pos} {es : List Expr} {m : ML} {mf : MF} {E : XK}
end
section
variable {X : Cx} {pos : Pos}
end
end
section
structure BlkC (X : Cx) (sc : Scope) (N : List Str) (src : List (Option Nat)) : Prop where
 kind : sc.kind = .function
 cells : ∀ y ∈ sc.names, y.2 = .cell -> sc.names.lookup y.1 = some .cell
 names : ∀ y ∈ sc.names, y.2 = .local -> sc.names.lookup y.1 = some .local
 free : ∀ y ∈ sc.names, y.2 = .free -> X.env.kindOf y.1 = some .cell \/ X.env.kindOf y.1 = some .free
 fv : ∀ (j i : Nat), src[j]? = some (some i) -> ∃ x, N[j]? = some x /\ X.N[i]? = some x /\ sc.names.lookup x = some .free
 len : src.length = N.length
section
variable {X : Cx} {pins : List (Addr × Obj)} {σ : St} {H : Hp} {s : Shared}
end
section
variable {X : Cx}
end
section
variable {X : Cx} {pos : Pos}
end
end
section
section
variable {X : Cx} {pos : Pos}
end
end
section
def delB (p : Addr) : Bx -> Bx
 | [] => []
 | (q, c) :: β => match p == q with | true => β | false => (q, c) :: delB p β
def flS : Fl -> D
 | .v d => d
 | .l ds => .lst ds
section
variable {K : W.Frag} {F0 H0 F H B : Hp} {σ : St} {ρ : Ro} {β : Bx} {fp : List Addr}
theorem BxR.take {p : Addr} {c : Cell} : ∀ {fp : List Addr} {β : Bx}, BxR K F B fp β -> β.lookup p = some c -> ∃ fq fr, CellR K F B fq p c /\ BxR K F B fr (delB p β) /\ (fq ++ fr).Perm fp
 | _, _, .nil, e => by cases e
 | _, _, .cons (fp := f1) (fq := f2) (p := q) (c := c') (β := β) h t, e => by
  rw [lookup_cons] at e
  unfold delB
  cases hq : p == q with
  | true =>
   rw [hq] at e
   cases e
   have : p = q := by simpa using hq
   subst this
   exact ⟨f1, f2, h, t, List.Perm.refl _⟩
  | false =>
   rw [hq] at e
   obtain ⟨fq, fr, a1, a2, a3⟩ := BxR.take t e
   refine ⟨fq, f1 ++ fr, a1, .cons h a2, ?_⟩
   rw [<- append_assoc]
   refine (List.Perm.append_right fr perm_append_comm).trans ?_
   rw [append_assoc]
   exact List.Perm.append_left f1 a3
theorem FlR.shared {F' : Hp} {fq : List Addr} {xs : List V} {fs : List Fl} (h : FlR K F B fq xs fs) (s : Same F F') (k : ∀ a ∈ fq, F' a = B a) : Reps K F' xs (fs.map flS) := by
 induction h with
 | nil => exact .nil
 | v r _ ih => exact .cons (r.mono s) (ih k)
 | l b r _ ih => exact .cons (.lst (SqL.of (by rw [k _ (by simp)]; exact b)) (r.mono s)) (ih fun a ha => k a (mem_cons_of_mem _ ha))
theorem FlR.memL {fq : List Addr} {xs : List V} {fs : List Fl} (h : FlR K F B fq xs fs) : ∀ a ∈ fq, ∃ ys, B a = some (.lst ys) := by
 induction h with
 | nil => intro a ha; cases ha
 | v _ _ ih => exact ih
 | l b _ _ ih =>
  intro a ha
  rcases List.mem_cons.mp ha with rfl | ha
  ·exact ⟨_, b⟩
  ·exact ih a ha
theorem yy1 {σ : St} {i : Nat} {x : Option V} (h : σ[i]? = some x) : σ.set i x = σ := by
 apply ext_getElem?
 intro j
 by_cases hj : i = j
 ·subst hj
  rw [getElem?_set_self (List.getElem?_eq_some_iff.mp h).1, h]
 ·rw [getElem?_set_ne hj]
theorem RlW.freezeR {i : Nat} {p : Addr} {fs : List Fl} (r : RlW K F0 H0 F H σ ρ β) (hi : ρ[i]? = some (some (.sh (.ptr p)))) (hb : β.lookup p = some (.row fs)) : ∃ F', Same F F' /\ RlW K F0 H0 F' H σ (ρ.set i (some (.sh (.lst (fs.map flS))))) (delB p β) := by
 obtain ⟨B, fp, rl, ok⟩ := r
 obtain ⟨fq, fr, hc, hrest, perm⟩ := ok.bx.take hb
 cases hc with
 | @row fq0 _ xs _ b0 fl =>
  have at' : ∀ a ∈ p :: fq0, ∃ ys, B a = some (.lst ys) := fun a ha => by
   rcases List.mem_cons.mp ha with rfl | ha
   ·exact ⟨_, b0⟩
   ·exact fl.memL a ha
  have nb : ∀ a ∈ p :: fq0, B a ≠ none := fun a ha => by obtain ⟨ys, e⟩ := at' a ha; rw [e]; simp
  have nF : ∀ a ∈ p :: fq0, F a = none := fun a ha => by
   cases hF : F a with
   | none => rfl
   | some o =>
    have h1 := rl.ext.new a (ok.out a (nb a ha)).2 (by rw [hF]; simp)
    exact absurd (Y2 h1).1 (nb a ha)
  have nd : (p :: fq0 ++ fr).Nodup := (perm.nodup_iff).mpr ok.nd
  have dis : ∀ a ∈ fr, a ∉ p :: fq0 := fun a ha hb => (List.nodup_append.mp nd).2.2 a hb a ha rfl
  refine ⟨fun a => if a ∈ p :: fq0 then B a else F a, fun a o e => ?_, fun a => if a ∈ p :: fq0 then none else B a, fr, ?_, ?_⟩
  ·have : a ∉ p :: fq0 := fun z => by rw [nF a z] at e; cases e
   show (if a ∈ p :: fq0 then B a else F a) = some o
   rw [if_neg this]; exact e
  ·have sF : Same F (fun a => if a ∈ p :: fq0 then B a else F a) := fun a o e => by
    have : a ∉ p :: fq0 := fun z => by rw [nF a z] at e; cases e
    show (if a ∈ p :: fq0 then B a else F a) = some o
    rw [if_neg this]; exact e
   have jo : ∀ a, a ∉ p :: fq0 -> jn H0 (fun a => if a ∈ p :: fq0 then none else B a) a = jn H0 B a := fun a ha => by unfold jn; simp only [if_neg ha]
   have ji : ∀ a, a ∈ p :: fq0 -> jn H0 (fun a => if a ∈ p :: fq0 then none else B a) a = none := fun a ha => by unfold jn; simp only [if_pos ha]; exact (ok.out a (nb a ha)).1
   have own : ∀ a, jn H0 B a = none -> a ∉ p :: fq0 := fun a h z => nb a z (Y2 h).1
   have rl' : Rl K F0 (jn H0 (fun a => if a ∈ p :: fq0 then none else B a)) (fun a => if a ∈ p :: fq0 then B a else F a) H σ ρ := by
    refine ⟨⟨rl.ext.ff.trans sF, fun b u e => ?_, fun b u e => ?_, fun b e n => ?_, fun b o u e => ?_⟩, rl.len, fun j d e => ?_, fun j ds e => ?_, rl.inj, fun j q ds e => ?_, rl.obn, rl.ob1⟩
    ·by_cases z : b ∈ p :: fq0
     ·rw [ji b z] at e; cases e
     ·rw [jo b z] at e; exact rl.ext.hh b u e
    ·by_cases z : b ∈ p :: fq0
     ·have e : B b = some u := by
       have e : (if b ∈ p :: fq0 then B b else F b) = some u := e
       rw [if_pos z] at e; exact e
      exact rl.ext.hh b u (c9 e)
     ·have e : F b = some u := by
       have e : (if b ∈ p :: fq0 then B b else F b) = some u := e
       rw [if_neg z] at e; exact e
      exact rl.fh b u e
    ·by_cases z : b ∈ p :: fq0
     ·exact ji b z
     ·rw [jo b z]
      have n : (if b ∈ p :: fq0 then B b else F b) ≠ none := n
      rw [if_neg z] at n
      exact rl.ext.new b e n
    ·by_cases z : b ∈ p :: fq0
     ·have e : (if b ∈ p :: fq0 then B b else F b) = some (.frz o u) := e
      rw [if_pos z] at e
      exact absurd e (ok.plain b o u)
     ·have e : (if b ∈ p :: fq0 then B b else F b) = some (.frz o u) := e
      rw [if_neg z] at e
      exact rl.ext.nf b o u e
    ·obtain ⟨v, a1, a2⟩ := rl.sh j d e
     exact ⟨v, a1, a2.mono sF⟩
    ·obtain ⟨q, ys, a1, a2, a3, a4, a5⟩ := rl.own j ds e
     have z := own q a5
     exact ⟨q, ys, a1, by show (if q ∈ p :: fq0 then B q else F q) = none; rw [if_neg z]; exact a2, a3, a4.mono sF, by rw [jo q z]; exact a5⟩
    ·obtain ⟨a1, a2, a3, ys, a4, a5⟩ := rl.ob j q ds e
     have z := own q a3
     exact ⟨a1, by show (if q ∈ p :: fq0 then B q else F q) = none; rw [if_neg z]; exact a2, by rw [jo q z]; exact a3, ys, a4, a5.mono sF⟩
   obtain ⟨v, hv, rv⟩ := rl.sh i _ hi
   cases rv
   have := rl'.set (i := i) (v := .ref p) (d := .lst (fs.map flS)) (.lst (SqL.of (by show (if p ∈ p :: fq0 then B p else F p) = _; rw [if_pos (by simp)]; exact b0)) (fl.shared sF fun a ha => by show (if a ∈ p :: fq0 then B a else F a) = _; rw [if_pos (mem_cons_of_mem _ ha)]))
   rw [yy1 hv] at this
   exact this
  ·have sF : Same F (fun a => if a ∈ p :: fq0 then B a else F a) := fun a o e => by
    have : a ∉ p :: fq0 := fun z => by rw [nF a z] at e; cases e
    show (if a ∈ p :: fq0 then B a else F a) = some o
    rw [if_neg this]; exact e
   refine ⟨fun a h => ?_, hrest.mono sF fun a ha => ?_, (List.nodup_append.mp nd).2.1, fun a o u e => ?_⟩
   ·have h : (if a ∈ p :: fq0 then none else B a) ≠ none := h
    by_cases z : a ∈ p :: fq0
    ·rw [if_pos z] at h; exact absurd rfl h
    ·rw [if_neg z] at h; exact ok.out a h
   ·show (if a ∈ p :: fq0 then none else B a) = B a
    rw [if_neg (dis a ha)]
   ·have e : (if a ∈ p :: fq0 then none else B a) = some (.frz o u) := e
    by_cases z : a ∈ p :: fq0
    ·rw [if_pos z] at e; cases e
    ·rw [if_neg z] at e; exact ok.plain a o u e
end
def R9 (i : Nat) (m : MW) : MW := fun ρ β => match ρ[i]? with
 | some (some (.sh (.ptr p))) => (match β.lookup p with | some (.row fs) => m (ρ.set i (some (.sh (.lst (fs.map flS))))) (delB p β) | _ => none)
 | _ => none
theorem O3 {X : Cx} {sts : List Stmt} {m : MW} (i : Nat) (h : PSsw X sts m) : PSsw X sts (R9 i m) := PSs.imp h fun D σ H hpat => by
 obtain ⟨F0, H0, F, ρ, β, o, β', r, e, ok⟩ := hpat
 unfold R9 at e
 split at e
 ·rename_i p h1
  split at e
  ·rename_i fs h2
   obtain ⟨F', s, r'⟩ := r.freezeR h1 h2
   exact ⟨F0, H0, F', _, _, o, β', r', e, ok.mono s⟩
  ·cases e
 ·cases e
end
section
section
variable {K : W.Frag} {F0 J F H : Hp} {σ : St} {ρ : Ro}
theorem Rl.share {q : Addr} {ys : List V} (rl : Rl K F0 J F H σ ρ) (hH : H q = some (.lst ys)) (hF : F q = none) (hJ : J q = none) (hn : ∀ (i : Nat) ds, ρ[i]? = some (some (.own ds)) -> σ[i]? ≠ some (some (.ref q))) (hb : ∀ (i : Nat) p ds, ρ[i]? = some (some (.ob p ds)) -> p ≠ q) : Rl K F0 J (upd F q (.lst ys)) H σ ρ := by
 have s : Same F (upd F q (.lst ys)) := (Same.refl F).put hF
 refine ⟨⟨rl.ext.ff.trans s, rl.ext.hh, fun b u e => ?_, fun b e n => ?_, fun b o u e => ?_⟩, rl.len, fun i d e => ?_, fun i ds e => ?_, rl.inj, fun i p ds e => ?_, rl.obn, rl.ob1⟩
 ·by_cases z : b = q
  ·subst z; rw [w9] at e; cases e; exact hH
  ·rw [w8 z] at e; exact rl.fh b u e
 ·by_cases z : b = q
  ·subst z; exact hJ
  ·rw [w8 z] at n; exact rl.ext.new b e n
 ·by_cases z : b = q
  ·subst z; rw [w9] at e; cases e
  ·rw [w8 z] at e; exact rl.ext.nf b o u e
 ·obtain ⟨v, a1, a2⟩ := rl.sh i d e
  exact ⟨v, a1, a2.mono s⟩
 ·obtain ⟨p, xs, a1, a2, a3, a4, a5⟩ := rl.own i ds e
  have z : p ≠ q := fun w => hn i ds e (by rw [<- w]; exact a1)
  exact ⟨p, xs, a1, by rw [w8 z]; exact a2, a3, a4.mono s, a5⟩
 ·obtain ⟨a1, a2, a3, xs, a4, a5⟩ := rl.ob i p ds e
  exact ⟨a1, by rw [w8 (hb i p ds e)]; exact a2, a3, xs, a4, a5.mono s⟩
end
def lsW (m : Ro -> Bx -> Option (List D)) : Ro -> Bx -> Option D := fun ρ β => (m ρ β).map D.lst
section
variable {X : Cx} {a b c e e1 e2 : Expr} {pos p1 p2 : Pos} {st : Stmt}
theorem zf7 {m : ML} (h : PF X e m) : PDw X e (lsW (zd9 m)) := PE.imp h fun σ H Q ⟨F0, H0, F, ρ, β, d, ⟨B, fp, rl, ok⟩, e, q⟩ => by
 unfold lsW zd9 at e
 cases h1 : m (thaw ρ β) with
 | none => rw [h1] at e; cases e
 | some d' =>
  rw [h1, Option.bind_some] at e
  split at e
  ·rename_i hs
   cases e
   obtain ⟨r1, fb⟩ := RlW.frozen rl ok
   refine ⟨_, _, _, _, _, r1, h1, fun p xs F' H' x hp hF hH r => ?_⟩
   have rl1 := rl.go ⟨Same.refl F, x.hh, rl.fh.trans x.hh, fun b e n => absurd e n, fun _ _ _ z => z⟩
   have hFp := rl.fh.free hp
   have sh := rl1.share hH hFp (rl.ext.hh.free hp) (fun i ds e z => by
    obtain ⟨p', xs, a1, _, a3, _⟩ := rl.own i ds e
    rw [z] at a1; cases a1
    rw [hp] at a3; cases a3) (fun i p' ds e z => by
    obtain ⟨_, _, _, xs, a4, _⟩ := rl.ob i p' ds e
    rw [z, hp] at a4; cases a4)
   have s : Same F (upd F p (.lst xs)) := (Same.refl F).put hFp
   exact q (.ref p) (upd F p (.lst xs)) H' ⟨B, fp, sh, ok.mono s⟩ s x.hh (.lst (SqL.of w9) (zh6 hs r))
  ·cases e
def mixR (i : Nat) (k1 k2 : ME) : Ro -> Bx -> Option D := fun ρ β => match ρ[i]?, k1 ρ, k2 ρ with
 | some (some (.sh (.ptr p))), some (.int a), some (.int b) => (match β.lookup p with
  | some (.row fs) => (match ixN fs.length a with
   | some n => (match fs[n]? with | some (.l ds) => atI ds b | _ => none)
   | none => none)
  | _ => none)
 | _, _, _ => none
theorem ya7 {K : W.Frag} {F : Hp} {ys : List V} {ds : List D} {b : Int} {d : D} (r : Reps K F ys ds) (h : atI ds b = some d) : ∃ v, atI ys b = some v /\ Rep K F v d := by
 unfold atI at h ⊢
 rw [r.length]
 cases hn : ixN ds.length b with
 | none => rw [hn] at h; cases h
 | some n => rw [hn] at h; exact r.get h
theorem zf8 {i : Nat} {k1 k2 : ME} (h : PE X e (tOp (rIxL X.K) (tOp (rIxL X.K) (tVar i) (TD X.K k1)) (TD X.K k2))) : PDw X e (mixR i k1 k2) := PE.imp h fun σ H Q ⟨F0, H0, F, ρ, β, d, ⟨B, fp, rl, ok⟩, e, q⟩ => by
 unfold mixR at e
 split at e
 ·rename_i p a b hp hk1 hk2
  split at e
  ·rename_i fs hb
   split at e
   ·rename_i n hn
    split at e
    ·rename_i ds hfs
     obtain ⟨w, hσ, rw1⟩ := rl.sh i _ hp
     cases rw1
     obtain ⟨fq, hc, nq, hin, up⟩ := ok.bx.upd ok.nd hb
     cases hc with
     | @row fq0 _ xs _ b0 fl =>
      have nq1 := List.nodup_cons.mp nq
      obtain ⟨y, ys, a1, a2, a3, a4, a5⟩ := FlR.at' (n := n) fl nq1.2 hfs
      refine ⟨_, hσ, F0, jn H0 B, F, ρ, _, rl, hk1, fun w2 F2 H2 x2 r2 => ?_⟩
      cases r2
      have hat : atI xs a = some (.ref y) := by
       unfold atI
       rw [fl.length, hn]
       exact a1
      refine ⟨p, xs, a, .ref y, rfl, rfl, SqL.of (x2.hh _ _ (rl.ext.hh _ _ (c9 b0))), hat, F0, jn H0 B, F2, ρ, _, rl.go x2, hk2, fun w3 F3 H3 x3 r3 => ?_⟩
      cases r3
      have x23 := x2.trans x3
      obtain ⟨v, hv, rv⟩ := ya7 a4 e
      exact ⟨y, ys, b, v, rfl, rfl, SqL.of (x23.hh _ _ (rl.ext.hh _ _ (c9 a3))), hv, q v F3 H3 ⟨B, fp, rl.go x23, ok.mono x23.ff⟩ x23.ff x23.hh (rv.mono x23.ff)⟩
    ·cases e
   ·cases e
  ·cases e
 ·cases e
def yw7 (g : Tg) (m : Ro -> Bx -> Option D) : MW := fun ρ β => (m ρ β).bind fun d => (tgD g d ρ).map fun ρ' => (.nx ρ', β)
theorem yy6 {g : Tg} {m : Ro -> Bx -> Option D} (h : PS X st (tAsg (TDw X.K m) (TGd X.K g))) : PSw X st (yw7 g m) := PS.imp h fun Dn σ H hpat => by
 obtain ⟨F0, H0, F, ρ, β, o, β', r, e, k⟩ := hpat
 unfold yw7 at e
 cases h1 : m ρ β with
 | none => rw [h1] at e; cases e
 | some d =>
  rw [h1, Option.bind_some] at e
  cases h2 : tgD g d ρ with
  | none => rw [h2] at e; cases e
  | some ρ' =>
   rw [h2] at e; cases e
   refine ⟨F0, H0, F, ρ, β, d, r, h1, fun v F1 H1 r1 s1 _ rp => ?_⟩
   obtain ⟨B, fp, rl, ok⟩ := r1
   exact ⟨F0, jn H0 B, F1, ρ, d, ρ', rl, rp, h2, fun F2 H2 σ2 rl2 x2 => k F2 H2 σ2 ⟨B, fp, rl2, ok.mono x2.ff⟩ (s1.trans x2.ff)⟩
end
end
section
def tOrN (K : W.Frag) (ta tb : TE) : TE := fun σ H Q => ta σ H fun x H1 => ∃ k, TruV K x H1 k /\ if k = true then Q x H1 else tb σ H1 Q
section
variable {X : Cx} {a b e : Expr} {pos : Pos} {ta tb : TE} {ma mb : Ro -> Bx -> Option D}
theorem yh9 {rest : List Expr} (ha : PE X a ta) (hb : PE X (.BoolOp .Or (b :: rest) pos) tb) : PE X (.BoolOp .Or (a :: b :: rest) pos) (tOrN X.K ta tb) := by
 intro pins s σ H Q I h
 refine BoolOp_or (thn (ha pins s σ H _ I h) fun v s1 hpat => ?_)
 obtain ⟨x, H1, I1, r1, k, ht, q1⟩ := hpat
 refine thn (yu6 pins s1 σ H1 x v (fun c H2 => c = k /\ H2 = H1) I1 r1 ⟨k, ht, rfl, rfl⟩) fun c s2 hpat => ?_
 obtain ⟨H2, I2, e1, e2⟩ := hpat
 subst e1 e2
 cases c with
 | false => exact hb pins s2 σ _ Q I2 q1
 | true => exact ⟨x, _, I2, r1, q1⟩
theorem ys8 {K : W.Frag} {F H : Hp} {x : V} {d : D} {k : Bool} (s : Same F H) (r : Rep K F x d) (e : truD d = some k) : TruV K x H k := by
 cases r with
 | non => cases e; rfl
 | bl => cases e; rfl
 | int => cases e; rfl
 | str x =>
  have e : (if x.length <= sizeLine then some ((x.length : Int) != 0) else none) = some k := e
  split at e
  ·rename_i hz
   cases e
   exact ⟨hz, rfl⟩
  ·cases e
 | lst q rs => cases e; exact .inl ⟨_, s.seq q, X4 rs⟩
 | tup q rs => cases e; exact .inr (.inl ⟨_, s.seqT q, X4 rs⟩)
 | exc => cases e
 | ptr => cases e
 | obj => cases e
def morW (ma mb : Ro -> Bx -> Option D) : Ro -> Bx -> Option D := fun ρ β => (ma ρ β).bind fun d => (truD d).bind fun k => if k = true then some d else mb ρ β
theorem yg4 {rest : List Expr} (ha : PDw X a ma) (hb : PDw X (.BoolOp .Or (b :: rest) pos) mb) : PDw X (.BoolOp .Or (a :: b :: rest) pos) (morW ma mb) := PE.imp (yh9 ha hb) fun σ H Q hpat => by
 obtain ⟨F0, H0, F, ρ, β, g, r, e, q⟩ := hpat
 unfold morW at e
 cases h1 : ma ρ β with
 | none => rw [h1] at e; cases e
 | some d =>
  rw [h1, Option.bind_some] at e
  cases h2 : truD d with
  | none => rw [h2] at e; cases e
  | some k =>
   rw [h2, Option.bind_some] at e
   refine ⟨F0, H0, F, ρ, β, d, r, h1, fun v F1 H1 r1 s1 t1 rp => ⟨k, ?_, ?_⟩⟩
   ·obtain ⟨B, fp, rl, ok⟩ := r1
    exact ys8 rl.fh rp h2
   ·cases k with
    | true => cases e; exact iteT (q v F1 H1 r1 s1 t1 rp)
    | false => exact iteF ⟨F0, H0, F1, ρ, β, g, r1, e, fun w F2 H2 r2 s2 t2 rp2 => q w F2 H2 r2 (s1.trans s2) (t1.trans t2) rp2⟩
theorem yo3 {op} (h : PDw X a ma) : PDw X (.BoolOp op [a] pos) ma := yt1 h
def zv0 (ma mb : Ro -> Bx -> Option D) : Ro -> Bx -> Option D := fun ρ β => (ma ρ β).bind fun d => (mb ρ β).bind fun e => minP [e] d
theorem yx4 {x y : Expr} {p : Pos} (hc : X.calm = true) (hu : X.A.units + 64 < cLine) (hg : Gl X "min") (hm : X.mg "min" = none) (ha : PDw X x ma) (hb : PDw X y mb) (he : starEach [x, y] X.env = (false, eval x X.env) :: starEach [y] X.env := by rfl) (he2 : starEach [y] X.env = (false, eval y X.env) :: starEach [] X.env := by rfl) (hpl : (backTo pos (starEach [y] X.env)).any (·.1) = false := by rfl) : PDw X (.Call (.Name "min" p) [x, y] [] pos) (zv0 ma mb) :=
 PE.imp (Y3 (D7 hc hu) hg hm PyProof.Rows.boot_min (X0 ha (X0 hb pa_nil he2) he) (by decide) (by decide) he hpl) fun σ H Q hpat => by
  obtain ⟨F0, H0, F, ρ, β, g, r, e, q⟩ := hpat
  unfold zv0 at e
  cases h1 : ma ρ β with
  | none => rw [h1] at e; cases e
  | some d =>
   rw [h1, Option.bind_some] at e
   cases h2 : mb ρ β with
   | none => rw [h2] at e; cases e
   | some d2 =>
    rw [h2, Option.bind_some] at e
    refine ⟨F0, H0, F, ρ, β, d, r, h1, fun v F1 H1 r1 s1 t1 rp => ⟨F0, H0, F1, ρ, β, d2, r1, h2, fun w F2 H2 r2 s2 t2 rp2 => ?_⟩⟩
    obtain ⟨B, fp, rl, ok⟩ := r2
    refine ⟨v, w, d, d2, g, F2, rfl, rl.fh, .cons (rp.mono s2) (.cons rp2 .nil), e, fun z F3 H3 x3 r3 => ?_⟩
    exact q z F3 H3 ⟨B, fp, rl.go x3, ok.mono x3.ff⟩ ((s1.trans s2).trans x3.ff) ((t1.trans t2).trans x3.hh) r3
end
end
section
@[irreducible] def yw3 (i : Nat) : MS := fun ρ => match ρ[i]? with
 | some (some (.own ds)) => if 0 < ds.length then some (.nx (ρ.set i (some (.own ds.dropLast)))) else none
 | _ => none
theorem Reps.dropLast {K : W.Frag} {F : Hp} : ∀ {vs : List V} {ds : List D}, Reps K F vs ds -> Reps K F vs.dropLast ds.dropLast
 | _, _, .nil => .nil
 | _, _, .cons _ .nil => .nil
 | _, _, .cons r (.cons r2 rr) => .cons r (Reps.dropLast (.cons r2 rr))
section
variable {X : Cx} {pos : Pos}
theorem yy8 {i : Nat} {x : Str} {px apos cpos : Pos} (hv : PE X (.Name x px) (tVar i))
  (hE : PE X (.Call (.Attribute (.Name x px) "pop" apos) [] [] cpos) (tBM0 X.K "list" rPop (tVar i))) (hs : swapsWith (.Call (.Attribute (.Name x px) "pop" apos) [] [] cpos) none pos.line X.env = pure false := by rfl) :
  PSd X (.Expr (.Call (.Attribute (.Name x px) "pop" apos) [] [] cpos) pos) (yw3 i) := (B5 hE hs).imp fun D σ H hpat => by
 obtain ⟨F0, H0, F, ρ, o, rl, e, ok⟩ := hpat
 unfold yw3 at e
 split at e
 ·rename_i ds h1
  obtain ⟨p, xs, e1, e2, e3, e4, e5⟩ := rl.own i _ h1
  split at e
  ·rename_i hz
   cases e
   have hl := e4.length
   exact ⟨_, e1, .inl ⟨rfl, _, SqL.of e3⟩, p, xs, _, rfl, rfl, e3, getElem?_eq_getElem (by omega), ok F _ σ (rl.write h1 e1 (Reps.dropLast e4)) (Same.refl F)⟩
  ·cases e
 ·cases e
end
end
end L2
set_option maxHeartbeats 4000000
namespace Lw
open List
open PySem L2
section
noncomputable section
def b_Z5 : MS := (mif (l6 (m2 ltD (mvar 0) (mc (.int 1)))) R8 Z1)
def m_Z5 : MF := runB 1 b_Z5
def yk4 : MXs := (xif (l6 (m2 ltD (mvar 0) (mc (.int 1)))) (zy8 "NoStep" (z7 (mc (.str "a least step is 1 or more")) anil)) yk9)
def N6 : MFX := runX 1 yk4
def zz6 : MS := (mseq (mif (cor (l6 (m2 ltD (mvar 3) (mvar 2))) (l6 (m2 geD (mvar 3) (mlen (bvar 0))))) (mret (mc (.bl false))) Z1) (mset 2 (m2 addD (mvar 3) (mc (.int 1)))))
def b_Z7 : MS := (mseq (mset 2 (mc (.int 0))) (mseq (mfor (l9 (mvar 1)) (.nm 3) zz6) (mret (mc (.bl true)))))
def m_Z7 : MF := runB 4 b_Z7
def zo9 : MS := (mif (cor (l6 (m2 ltD (Z2 zk4 (z7 (mvar 2) (z7 (mvar 4) anil))) (mvar 3))) (l6 (m2 ltD (mvar 3) (Z2 ze9 (z7 (mvar 2) (z7 (mvar 4) anil)))))) (maug 1 (mc (.int 1))) Z1)
def b_Z12 : MS := (mseq (mset 1 (mc (.int 0))) (mseq (mfor (j8 zip3 (z7 (mvar 0) (z7 (mlst (mcut (bvar 0) (d5 (mc (.int 1))) Z0)) (z7 (mlst (mcut (bvar 0) (d5 (mc (.int 2))) Z0)) anil)))) (.tp [2, 3, 4]) zo9) (S6 1)))
def zd4 : MF := runB 5 b_Z12
def zq2 : MS := (mif (l6 (m2 ltD (Z2 absF (z7 (m2 subD (mvar 3) (mvar 2)) anil)) (mvar 1))) (mret (mc (.bl false))) Z1)
def b_Z4 : MS := (mseq (mfor (j8 zip2 (z7 (mvar 0) (z7 (mlst (mcut (bvar 0) (d5 (mc (.int 1))) Z0)) anil))) (.tp [2, 3]) zq2) (mret (m2 eqSD (m5 zd4 (z7 (mvar 0) anil)) (Z2 zk4 (z7 (mc (.int 0)) (z7 (m2 subD (mlen (bvar 0)) (mc (.int 2))) anil))))))
def m_Z4 : MF := runB 4 b_Z4
def b_Z8 : MS := (mseq (P8 (m5 m_Z5 (z7 (mvar 1) anil))) (mseq (mif (cnot (mtru (m5 m_Z7 (z7 (mvar 0) (z7 (mvar 2) anil))))) (mret (mc (.bl false))) Z1) (mseq (mset 3 (mlst (Q0 [none, some 0] (l9 (mvar 2)) (.nm 0) cyes (mix (bvar 1) (mvar 0))))) (mret (m5 m_Z4 (z7 (mlst (mcat (bvar 3) (mcut (bvar 3) Z0 (d5 (mc (.int 2)))))) (z7 (mvar 1) anil)))))))
def m_Z8 : MF := runB 4 b_Z8
def yk3 : MXs := (xE (J9 N6 (z7 (mvar 1) anil)))
def zi2 : MFX := runX 4 yk3
def b_Z1 : MS := (mseq (P8 (m5 m_Z5 (z7 (mvar 1) anil))) (mseq R8 R8))
def m_Z1 : MF := runB 3 b_Z1
def yk6 : MXs := (xE (J9 N6 (z7 (mvar 1) anil)))
def zi4 : MFX := runX 3 yk6
def yk7 : MS := (mseq R8 R8)
def b_Z2 : MS := (mseq (P8 (m5 m_Z5 (z7 (mvar 1) anil))) (mseq R8 (mseq R8 yk7)))
def m_Z2 : MF := runB 8 b_Z2
def yk5 : MXs := (xE (J9 N6 (z7 (mvar 1) anil)))
def zi3 : MFX := runX 8 yk5
def b_Z16 : MS := (mseq (mif (l6 (m2 geD (mvar 0) (m2 powD (mc (.int 10)) (mc (.int 18))))) (mret (m2 modD (m2 shrD (m2 subD (mvar 0) (m2 powD (mc (.int 10)) (mc (.int 18)))) (m2 mulD (mc (.int 28)) (mvar 1))) (m2 powD (mc (.int 2)) (mc (.int 28))))) Z1) (mseq (mset 2 (m2 modD (m2 mulD (m2 addD (m2 addD (mvar 0) (m2 mulD (mc (.int 1013)) (mvar 1))) (mc (.int 1))) (mc (.int 16807))) (mc (.int 2147483647)))) (mseq (mset 2 (m2 modD (m2 mulD (mvar 2) (mvar 2)) (mc (.int 2147483629)))) (mret (m2 U3 (m2 modD (m2 mulD (mvar 2) (mc (.int 39373))) (mc (.int 2147483587))) (mc (.int 8)))))))
def c6 : MF := runB 3 b_Z16
def b_Z9 : MS := (zz0 (mcut (mcat (mcut (bvar 0) Z0 (d5 (mvar 1))) (v0 (z7 (mc (.int 0)) anil))) Z0 (d5 (Z2 zk4 (z7 (mc (.int 1)) (z7 (Z2 ze9 (z7 (mvar 1) (z7 (mlen (bvar 0)) anil))) anil))))))
def m_Z9 : MF := runB 2 b_Z9
def zy1 : MS := (mseq (mset 9 (m2 modD (m5 c6 (z7 (mvar 0) (z7 (m2 addD (mc (.int 10)) (mvar 8)) anil))) (mvar 4))) (mseq (mset 7 (m2 subD (m2 addD (mvar 7) (mvar 9)) (m2 U3 (mvar 4) (mc (.int 2))))) (mseq (mset 10 (mlst (v0 (z7 (m2 subD (mvar 9) (m2 U3 (mvar 4) (mc (.int 2)))) (z7 (m2 addD (mvar 8) (m2 U3 (mvar 9) (mc (.int 2)))) (z7 (m2 subD (m2 subD (mc (.int 0)) (mvar 8)) (m2 U3 (mvar 9) (mc (.int 2)))) (z7 (mix (v0 (z7 (mvar 9) (z7 (m2 subD (mc (.int 0)) (mvar 9)) anil))) (m2 modD (mvar 8) (mc (.int 2)))) anil))))))) (mseq (mset 10 (mlst (mcat (bvar 10) (v0 (z7 (m2 addD (mvar 9) (m2 mulD (m2 modD (m2 U3 (mvar 8) (mvar 5)) (mc (.int 2))) (mvar 4))) (z7 (mvar 4) (z7 (m2 addD (m2 mulD (m2 subD (mvar 9) (m2 U3 (mvar 4) (mc (.int 2)))) (m2 powD (mc (.int 10)) (mc (.int 23)))) (m2 modD (m5 c6 (z7 (mvar 0) (z7 (m2 addD (mc (.int 10)) (mvar 8)) anil))) (mc (.int 3)))) anil))))))) (mapp 6 (mix (mcat (bvar 10) (v0 (z7 (mvar 7) anil))) (mvar 3)))))))
def b_Z17 : MS := (mseq (mset 2 (m2 modD (m5 c6 (z7 (mvar 0) (z7 (mc (.int 0)) anil))) (mix (v0 (z7 (mc (.int 4)) (z7 (mc (.int 13)) (z7 (mc (.int 41)) (z7 (m2 addD (mvar 1) (mc (.int 1))) anil))))) (m2 modD (m5 c6 (z7 (mvar 0) (z7 (mc (.int 1)) anil))) (mc (.int 4)))))) (mseq (mset 3 (m2 modD (m5 c6 (z7 (mvar 0) (z7 (mc (.int 2)) anil))) (mc (.int 8)))) (mseq (mset 4 (mix (v0 (z7 (mc (.int 2)) (z7 (mc (.int 5)) (z7 (mc (.int 50)) (z7 (m2 powD (mc (.int 10)) (mc (.int 6))) anil))))) (m2 modD (m5 c6 (z7 (mvar 0) (z7 (mc (.int 3)) anil))) (mc (.int 4))))) (mseq (mset 5 (m2 addD (mc (.int 1)) (m2 modD (m5 c6 (z7 (mvar 0) (z7 (mc (.int 4)) anil))) (mc (.int 9))))) (mseq (U1 6 (v0 anil)) (mseq (mset 7 (mc (.int 0))) (mseq (mfor (j8 rng1 (z7 (Z2 ze9 (z7 (mvar 2) (z7 (mvar 1) anil))) anil)) (.nm 8) zy1) (S6 6))))))))
def zk7 : MF := runB 11 b_Z17
def b_Z13 : MS := (mseq (mset 1 (mlst (v0 (z7 (mc (.int 1)) (z7 (m2 addD (mc (.int 1)) (m2 modD (m5 c6 (z7 (mvar 0) (z7 (mc (.int 5)) anil))) (mc (.int 9)))) (z7 (m2 addD (mc (.int 1)) (m2 modD (m5 c6 (z7 (mvar 0) (z7 (mc (.int 6)) anil))) (mc (.int 1000)))) anil)))))) (mret (mix (mcat (bvar 1) (v0 (z7 (m2 addD (mc (.int 1)) (m2 mulD (m2 modD (m5 c6 (z7 (mvar 0) (z7 (mc (.int 6)) anil))) (m2 powD (mc (.int 10)) (mc (.int 6)))) (m2 powD (mc (.int 10)) (mc (.int 23))))) anil))) (m2 modD (m5 c6 (z7 (mvar 0) (z7 (mc (.int 7)) anil))) (mc (.int 4))))))
def zd3 : MF := runB 2 b_Z13
def b_Z10 : MS := (mseq (mset 1 (mlst (v0 (z7 (misX [("NoStep", true)] (mvar 0)) (z7 (misX [("NoStep", false)] (mvar 0)) (z7 (misX [("NoStep", false)] (mvar 0)) (z7 (misX [("NoStep", false)] (mvar 0)) anil))))))) (mseq (mset 1 (mlst (mcat (bvar 1) (v0 (z7 (misX [("NoStep", false)] (mvar 0)) (z7 (misX [("NoStep", false)] (mvar 0)) (z7 (misX [("NoStep", false)] (mvar 0)) anil))))))) (zz0 (mcat (bvar 1) (v0 (z7 (m1 notD (misX [("NoStep", true)] (mvar 0))) anil))))))
def zd6 : MF := runB 2 b_Z10
def b_Z18 : MS := (mret (mix (v0 (z7 (mc (.int 0)) (z7 (mc (.int 1)) (z7 (m2 modD (m5 c6 (z7 (mvar 0) (z7 (m2 addD (mvar 1) (mc (.int 1))) anil))) (mc (.int 1000))) (z7 (m2 powD (mc (.int 10)) (mc (.int 29))) anil))))) (m2 modD (m5 c6 (z7 (mvar 0) (z7 (mvar 1) anil))) (mc (.int 4)))))
def zv3 : MF := runB 2 b_Z18
def zo8 : MS := (mseq (mset 5 (m2 andD (m2 shrD (m5 c6 (z7 (mvar 0) (z7 (m2 addD (m2 addD (mvar 1) (mc (.int 1))) (m2 U3 (mvar 4) (mc (.int 28)))) anil))) (m2 modD (mvar 4) (mc (.int 28)))) (mc (.int 1)))) (mseq (mif (l6 (m2 gtD (m2 modD (m5 c6 (z7 (mvar 0) (z7 (mvar 1) anil))) (mc (.int 3))) (mc (.int 0)))) (mset 5 (m2 mulD (mvar 5) (m2 andD (m2 shrD (m5 c6 (z7 (mvar 0) (z7 (m2 addD (m2 addD (mvar 1) (mc (.int 13))) (m2 U3 (mvar 4) (mc (.int 28)))) anil))) (m2 modD (mvar 4) (mc (.int 28)))) (mc (.int 1))))) Z1) (mif (l6 (m2 eqSD (mvar 5) (mc (.int 1)))) (mapp 3 (mvar 4)) Z1)))
def b_Z14 : MS := (mseq (U1 3 (v0 anil)) (mseq (mfor (j8 rng1 (z7 (mvar 2) anil)) (.nm 4) zo8) (S6 3)))
def zr3 : MF := runB 6 b_Z14
def za7 : MS := (mseq (mset 8 (mand (m2 eqSD (m2 andD (m2 shrD (m5 c6 (z7 (mvar 0) (z7 (m2 addD (mvar 1) (m2 U3 (mvar 6) (mc (.int 28)))) anil))) (m2 modD (mvar 6) (mc (.int 28)))) (mc (.int 1))) (mc (.int 1))) (m2 gtD (m2 modD (mvar 6) (mc (.int 3))) (mc (.int 0))))) (mif (cand (l6 (meqB false (bvar 4) (v0 anil))) (cnot (mtru (mvar 8)))) (mapp 4 (mvar 6)) (mif (cand (l6 (meqB true (bvar 4) (v0 anil))) (cnot (mtru (mvar 8)))) (mseq (mset 9 (m2 subD (mvar 7) (mix (bvar 2) (mix (bvar 4) (m1 negD (mc (.int 1))))))) (mif (cand (l6 (m2 geD (Z2 absF (z7 (mvar 9) anil)) (mvar 3))) (l6 (m2 neSD (mvar 5) (m2 gtD (mvar 9) (mc (.int 0)))))) (mseq (mset 5 (m2 gtD (mvar 9) (mc (.int 0)))) (mapp 4 (mvar 6))) Z1)) Z1)))
def b_Z3 : MS := (mseq (U1 4 (v0 anil)) (mseq (mset 5 (mc .non)) (mseq (mfor (j8 zz3 (z7 (mvar 2) anil)) (.tp [6, 7]) za7) (S6 4))))
def m_Z3 : MF := runB 10 b_Z3
def zq4 : MS := (mseq (mapp 8 (mlst (mcat (mcat (mcut (bvar 2) Z0 (d5 (mvar 4))) (v0 (z7 (mvar 9) anil))) (mcut (bvar 2) (d5 (mvar 4)) Z0)))) (mapp 8 (mlst (mcat (mcat (mcut (bvar 2) Z0 (d5 (mvar 4))) (v0 (z7 (mvar 9) anil))) (mcut (bvar 2) (d5 (m2 addD (mvar 4) (mc (.int 1)))) Z0)))))
def zq3 : MS := (X7 8 (mseq (U1 10 (bvar 2)) (mseq (mif (l6 (m2 ltD (Z2 zk4 (z7 (mvar 4) (z7 (mvar 5) anil))) (mlen (bvar 2)))) (A8 10 (mvar 4) (mvar 5) (mtup (z7 (mix (bvar 2) (mvar 5)) (z7 (mix (bvar 2) (mvar 4)) anil)))) Z1) (X7 10 (zz0 (mcat (bvar 8) (v0 (z7 (mvar 10) (z7 (mlst (v0 anil)) anil)))))))))
def b_Z0 : MS := (mseq (mset 4 (m2 modD (m5 c6 (z7 (mvar 0) (z7 (mvar 1) anil))) (m2 addD (mlen (bvar 2)) (mc (.int 1))))) (mseq (mset 5 (m2 modD (m5 c6 (z7 (mvar 0) (z7 (m2 addD (mvar 1) (mc (.int 1))) anil))) (m2 addD (mlen (bvar 2)) (mc (.int 1))))) (mseq (mset 6 (m5 zv3 (z7 (mvar 0) (z7 (m2 addD (mvar 1) (mc (.int 2))) anil)))) (mseq (mset 7 (m2 modD (m5 c6 (z7 (mvar 0) (z7 (m2 addD (mvar 1) (mc (.int 4))) anil))) (m2 addD (mvar 3) (mc (.int 1))))) (mseq (U1 8 (v0 (z7 (mlst (mcat (mcut (bvar 2) Z0 (d5 (mvar 4))) (mcut (bvar 2) (d5 (m2 addD (mvar 4) (mc (.int 1)))) Z0))) (z7 (mlst (mcat (mcat (mcut (bvar 2) Z0 (d5 (mvar 4))) (mcut (bvar 2) (d5 (m2 subD (mvar 4) (mc (.int 1)))) (d5 (mvar 4)))) (mcut (bvar 2) (d5 (mvar 4)) Z0))) (z7 (mlst (mrev (bvar 2) (d5 (m1 negD (mc (.int 1)))))) anil))))) (mseq (mfor (l9 (mlst (v0 (z7 (mvar 7) (z7 (m1 negD (mc (.int 1))) (z7 (m2 subD (m1 negD (mc (.int 1))) (mvar 6)) (z7 (mvar 3) (z7 (m2 addD (mvar 3) (mvar 6)) anil)))))))) (.nm 9) zq4) zq3))))))
def m_Z0 : MF := runB 11 b_Z0
def zy4 : MS := (mseq (mif (cor (l6 (m2 leD (mvar 4) (mvar 3))) (l6 (m2 geD (mvar 4) (mlen (bvar 0))))) (mret (mc (.bl false))) Z1) (mset 3 (mvar 4)))
def zn0 : MS := (mseq (mset 8 (m2 subD (mix (bvar 0) (mvar 7)) (mix (bvar 0) (mvar 6)))) (mseq (mif (cor (l6 (m2 ltD (Z2 absF (z7 (mvar 8) anil)) (mvar 1))) (l6 (meqB false (mcut (bvar 5) (d5 (m1 negD (mc (.int 1)))) Z0) (v0 (z7 (m2 gtD (mvar 8) (mc (.int 0))) anil))))) (mret (mc (.bl false))) Z1) (mapp 5 (m2 gtD (mvar 8) (mc (.int 0))))))
def zy3 : MS := (mseq (U1 5 (v0 anil)) (mseq (mfor (j8 zip2 (z7 (mvar 2) (z7 (mlst (mcat (mcut (bvar 2) (d5 (mc (.int 1))) Z0) (mcut (bvar 2) Z0 (d5 (mc (.int 1)))))) anil))) (.tp [6, 7]) zn0) (mret (m2 eqSD (m2 modD (mlen (bvar 2)) (mc (.int 2))) (mc (.int 0))))))
def b_Z11 : MS := (mseq (mset 3 (m1 negD (mc (.int 1)))) (mseq (mfor (l9 (mvar 2)) (.nm 4) zy4) zy3))
def zd5 : MF := runB 9 b_Z11
def zy0 : MS := (J1 2 (m2 addD (mvar 3) (mc (.int 1))) (m2 addD (mix (bvar 2) (m2 addD (mvar 3) (mc (.int 1)))) (mvar 4)))
def b_Z19 : MS := (mseq (U1 2 (mcat (bvar 0) (mrep (v0 (z7 (mc (.int 0)) anil)) (m2 subD (m2 addD (mlen (bvar 1)) (mc (.int 1))) (mlen (bvar 0)))))) (mseq (mfor (j8 zz3 (z7 (mvar 1) anil)) (.tp [3, 4]) zy0) (S6 2)))
def zk6 : MF := runB 5 b_Z19
def b9 : MW := (G7 (wS (mset 7 (Z2 intF (z7 (m2 gtD (mix (bvar 0) (mvar 5)) (mix (bvar 0) (mvar 6))) anil)))) (mifW (yw8 (cand (l6 (m2 geD (Z2 absF (z7 (m2 subD (mix (bvar 0) (mvar 5)) (mix (bvar 0) (mvar 6))) anil)) (mvar 1))) (l6 (meqB true (l9 (mix (l9 (mix (bvar 3) (mvar 6))) (m2 subD (mc (.int 1)) (mvar 7)))) (v0 anil))))) (G7 (zw9 3 (mvar 5) (mvar 7) (lsW (zd9 (N1 zk6 (z7 (mix (l9 (mix (bvar 3) (mvar 5))) (mvar 7)) (z7 (mix (l9 (mix (bvar 3) (mvar 6))) (m2 subD (mc (.int 1)) (mvar 7))) anil)))))) (G7 (yw7 (.tp [8, 9]) (mixR 4 (mvar 6) (m2 subD (mc (.int 1)) (mvar 7)))) (zw9 4 (mvar 5) (mvar 7) (zv0 (morW (mixR 4 (mvar 5) (mvar 7)) (wE (mtup (z7 (mc (.int 1)) (z7 (mlst (v0 anil)) anil))))) (wE (mtup (z7 (m2 subD (mvar 8) (mc (.int 1))) (z7 (mlst (mcat (bvar 9) (v0 (z7 (mvar 5) anil)))) anil)))))))) (wS Z1)))
def Y6 : MW := (zk3 (j8 rng2 (z7 (mvar 2) (z7 (mvar 5) anil))) (.nm 6) b9)
def P0 : MW := (R9 4 (R9 3 (yw2 (wE (mtup (z7 (mvar 3) (z7 (mvar 4) anil)))))))
def Y5 : MW := (G7 (zw9 3 (mvar 2) (mc (.int 0)) (wE (mlst (v0 (z7 (mc (.int 0)) (z7 (mc (.int 1)) anil)))))) (G7 (zw9 4 (mvar 2) (mc (.int 0)) (wE (mtup (z7 (m1 negD (mc (.int 1))) (z7 (mlst (v0 (z7 (mvar 2) anil))) anil))))) (G7 (zk3 (j8 rng2 (z7 (m2 addD (mvar 2) (mc (.int 1))) (z7 (mlen (bvar 0)) anil))) (.nm 5) Y6) P0)))
def Y4 : MW := (zk2 4 (N0 [none] (l9 (mvar 0)) (.nm 0) (v0 (z7 (mc .non) (z7 (mc .non) anil)))) Y5)
def b_law_come : MW := (zk2 3 (N0 [none] (l9 (mvar 0)) (.nm 0) (v0 (z7 (mlst (v0 anil)) (z7 (mlst (v0 anil)) anil)))) Y4)
def W5 : MF := plainW (runW 10 b_law_come)
def P1 : MS := (J1 2 (m2 U3 (mvar 9) (mc (.int 2))) (m2 addD (mix (bvar 2) (m2 U3 (mvar 9) (mc (.int 2)))) (mvar 10)))
def L9 : MS := (mif (cand (l6 (meqB true (l9 (mix (l9 (mix (bvar 6) (mvar 8))) (mc (.int 1)))) (v0 anil))) (l6 (m2 geD (m2 subD (mix (bvar 4) (mvar 8)) (mix (bvar 4) (mvar 5))) (mvar 1)))) (mseq (mfor (j8 zz3 (z7 (mix (l9 (mix (bvar 6) (mvar 8))) (mc (.int 1))) anil)) (.tp [9, 10]) P1) (mset 3 (Z2 yw5 (z7 (mvar 3) (z7 (mix (l9 (mix (bvar 7) (mvar 8))) (mc (.int 1))) anil))))) Z1)
def L8 : MS := (mseq (masg (.tp [6, 7]) (m5 W5 (z7 (mvar 4) (z7 (mvar 1) (z7 (mvar 5) anil))))) (mfor (j8 rng2 (z7 (m2 addD (mvar 5) (mc (.int 1))) (z7 (mlen (bvar 0)) anil))) (.nm 8) L9))
def zy2 : MS := (mfor (j8 rng1 (z7 (mlen (bvar 0)) anil)) (.nm 5) L8)
def L7 : MS := (yw3 2)
def zo7 : MS := (X7 2 (mret (mtup (z7 (mvar 2) (z7 (m2 ixTD (mvar 3) (mc (.int 1))) anil)))))
def zo6 : MS := (mseq (S8 (l6 (m2 eqSD (mix (bvar 2) (m1 negD (mc (.int 1)))) (mc (.int 0)))) L7 1000) zo7)
def b_Z15 : MS := (mseq (U1 2 (mcat (v0 (z7 (mc (.int 1)) anil)) (mrep (v0 (z7 (mc (.int 0)) anil)) (mlen (bvar 0))))) (mseq (mset 3 (mtup (z7 (mc (.int 0)) (z7 (mlst (v0 anil)) anil)))) (mseq (mfor (l9 (mlst (v0 (z7 (mvar 0) (z7 (mlst (Q0 [none] (l9 (mvar 0)) (.nm 0) cyes (m2 subD (mc (.int 0)) (mvar 0)))) anil))))) (.nm 4) zy2) zo6)))
def zd2 : MF := runB 11 b_Z15
def b_Z6 : MS := (mseq (U1 4 (v0 anil)) (mseq (mset 5 (mlst (v0 (z7 (mlst (bvar 1)) (z7 (mlst (bvar 3)) anil))))) (mseq (mtry ["NoStep"] (mif (l6 (m2 eqSD (mvar 0) (mc (.int 0)))) (P8 (m5 m_Z8 (z7 (mix (bvar 5) (mc (.int 0))) (z7 (mvar 2) (z7 (mix (bvar 5) (mc (.int 1))) anil))))) (mif (l6 (m2 eqSD (mvar 0) (mc (.int 1)))) (P8 (m5 m_Z1 (z7 (mix (bvar 5) (mc (.int 0))) (z7 (mvar 2) anil)))) (P8 (m5 m_Z2 (z7 (mix (bvar 5) (mc (.int 0))) (z7 (mvar 2) anil)))))) (xif (l6 (m2 eqSD (mvar 0) (mc (.int 0)))) (xE (J9 zi2 (z7 (mix (bvar 5) (mc (.int 0))) (z7 (mvar 2) (z7 (mix (bvar 5) (mc (.int 1))) anil))))) (xif (l6 (m2 eqSD (mvar 0) (mc (.int 1)))) (xE (J9 zi4 (z7 (mix (bvar 5) (mc (.int 0))) (z7 (mvar 2) anil)))) (xE (J9 zi3 (z7 (mix (bvar 5) (mc (.int 0))) (z7 (mvar 2) anil)))))) 6 (U1 4 (N1 zd6 (z7 (mvar 6) anil)))) (mseq (mif (l6 (meqB true (bvar 5) (v0 (z7 (mvar 1) (z7 (mvar 3) anil))))) (zz0 (v0 (z7 (mc (.str "changed")) anil))) Z1) (S6 4)))))
def m_Z6 : MF := runB 7 b_Z6
def L6 : MS := (mseq (mset 9 (m5 m_Z8 (z7 (mix (bvar 7) (mc (.int 0))) (z7 (mvar 3) (z7 (mix (bvar 7) (mc (.int 1))) anil))))) (mif (cor (cnot (mtru (misi "bool" (mvar 9)))) (l6 (m2 neSD (mvar 9) (m5 zd5 (z7 (mvar 2) (z7 (mvar 3) (z7 (mvar 6) anil))))))) (mret (mc (.bl false))) Z1))
def L5 : MS := (mseq (mset 7 (mlst (v0 (z7 (mlst (bvar 2)) (z7 (mlst (bvar 6)) anil))))) (mseq (mfor (j8 rng1 (z7 (mc (.int 2)) anil)) (.nm 8) L6) (mif (l6 (meqB true (bvar 7) (v0 (z7 (mvar 2) (z7 (mvar 6) anil))))) (mret (mc (.bl false))) Z1)))
def zz9 : MS := (mfor (l9 (mlst (mcat (v0 (z7 (mvar 5) anil)) (l9 (m5 m_Z0 (z7 (mvar 1) (z7 (mc (.int 370)) (z7 (mvar 5) (z7 (mlen (bvar 2)) anil))))))))) (.nm 6) L5)
def M9 : MS := (mseq (mset 6 (mix (v0 (z7 (mvar 4) (z7 (mvar 4) (z7 (mvar 4) (z7 (mlst (v0 (z7 (m1 negD (mc (.int 1))) anil))) (z7 (mlst (v0 (z7 (mlen (bvar 2)) anil))) anil)))))) (mvar 11))) (mif (l6 (meqB true (l9 (m5 m_Z6 (z7 (m2 modD (mvar 11) (mc (.int 3))) (z7 (mvar 2) (z7 (mvar 10) (z7 (mvar 6) anil)))))) (Q0 [none] (j8 rng1 (z7 (mc (.int 8)) anil)) (.nm 0) cyes (m2 eqSD (mvar 0) (mc (.int 0)))))) (mret (mc (.bl false))) Z1))
def zz8 : MS := (mfor (j8 rng1 (z7 (mc (.int 5)) anil)) (.nm 11) M9)
def zz7 : MS := (mseq (mset 2 (m5 zk7 (z7 (mvar 1) (z7 (mc (.int 40)) anil)))) (mseq (mset 3 (m5 zd3 (z7 (mvar 1) anil))) (mseq (mset 4 (m2 ixTD (m5 zd2 (z7 (mlst (mcut (bvar 2) Z0 (d5 (mc (.int 14))))) (z7 (mvar 3) anil))) (mc (.int 1)))) (mseq (mfor (l9 (mlst (v0 (z7 (m5 zr3 (z7 (mvar 1) (z7 (mc (.int 320)) (z7 (mlen (bvar 2)) anil)))) (z7 (m5 m_Z3 (z7 (mvar 1) (z7 (mc (.int 350)) (z7 (mvar 2) (z7 (mvar 3) anil))))) (z7 (mvar 4) anil)))))) (.nm 5) zz9) (mfor (l9 (mlst (v0 (z7 (mc (.int 0)) (z7 (m1 negD (mc (.int 1))) (z7 (m2 subD (mc (.int 0)) (m5 zv3 (z7 (mvar 1) (z7 (mc (.int 376)) anil)))) (z7 (m2 subD (mc (.int 0)) (mvar 3)) anil))))))) (.nm 10) zz8)))))
def yu4 : MS := (mseq (mfor (l9 (m5 m_Z9 (z7 (mvar 0) (z7 (mc (.int 6)) anil)))) (.nm 1) zz7) (mret (mc (.bl true))))
def zr2 : MF := runB 12 yu4
end
end
section
theorem yt8 (i j : Int) : eqS (.int i) (.int j) = some (i == j) := rfl
theorem yt9 (i j : Bool) : eqS (.bl i) (.bl j) = some (i == j) := rfl
theorem yb7 (i j : Str) : eqS (.str i) (.str j) = some (i == j) := rfl
theorem yb8 : eqS .non .non = some true := rfl
theorem ya0 (j : Bool) : eqS .non (.bl j) = some false := rfl
theorem ya2 (j : Bool) : eqS (.bl j) .non = some false := rfl
theorem yb9 (j : Int) : eqS .non (.int j) = some false := rfl
theorem ya1 (j : Int) : eqS (.int j) .non = some false := rfl
local macro_rules | `(tactic| simp_arith [$ls,*]) => `(tactic| simp (config := {decide := true, implicitDefEqProofs := false}) only [runB, j7, map_cons, map_nil, length_cons, length_nil, List.replicate, cons_append, nil_append, mvar, bvar, mc, mlst, l9, m2, l6, subD, mulD, U3, modD, powD, shrD, andD, ltD, leD, gtD, geD, eqSD, neSD, yt8, yt9, yb7, yb8, ya0, ya2, yb9, ya1, m1, negD, notD, mand, mtru, truD, cand, cor, cnot, anil, z7, v0, mtup, mlen, mix, Z0, d5, mcut, mcat, addD, Z2, absF, zk4, ze9, two2, intF, Z1, mseq, mif, R8, mset, U1, maug, P8, mret, zz0, S6, mapp, J1, X7, masg, j8, zip2, zip3, zz3, cyes, m5, N1, meqB, misi, mrev, A8, tyD, int2, bl2, tgD, K2, Option.bind_some, Option.map_some, Option.bind_none, Option.map_none, getElem?_cons_zero, getElem?_cons_succ, set_cons_zero, set_cons_succ, isEmpty_cons, isEmpty_nil, Bool.not_true, Bool.not_false, $ls,*])
def stir (c k : Int) : Int := if 10 ^ 18 <= c then (c - 10 ^ 18) / 2 ^ (28 * k).toNat % 2 ^ 28 else
 (((c + 1013 * k + 1) * 16807 % 2147483647) * ((c + 1013 * k + 1) * 16807 % 2147483647) % 2147483629) * 39373 % 2147483587 / 8
theorem W8 (c k : Int) : 0 <= stir c k := by
 unfold stir
 split
 ·exact Int.emod_nonneg _ (by decide)
 ·exact Int.ediv_nonneg (Int.emod_nonneg _ (by decide)) (by decide)
theorem ze3 (i j : Int) (h1 : -(2 ^ 64) < j) (h2 : j < 2 ^ 64) : S5 i j = true := by
 unfold S5; simp only [h1, h2, decide_true, Bool.and_self, Bool.or_true]
theorem S4 (i j : Int) (h1 : -(2 ^ 64) < i) (h2 : i < 2 ^ 64) : S5 i j = true := by
 unfold S5; simp only [h1, h2, decide_true, Bool.and_self, Bool.true_or]
theorem u6 (i j : Int) (h : 0 < j) : G8 i j = true := by unfold G8; simp only [h, decide_true]
theorem seqI {x y : MS} {ρ ρ' : Ro} {o : Option Out} (h : x ρ = some (.nx ρ')) (h2 : y ρ' = o) : mseq x y ρ = o := by
 unfold mseq; rw [h]; exact h2
theorem seqR {x y : MS} {ρ : Ro} {d : D} (h : x ρ = some (.rt d)) : mseq x y ρ = some (.rt d) := by
 unfold mseq; rw [h]
def zt9 {α : Type} (I : List α -> Ro -> Prop) (Q : Out -> Prop) (ds : List α) : Out -> Prop
 | .nx ρ => I ds ρ | .ct ρ => I ds ρ | .bk ρ => Q (.nx ρ) | .rt d => Q (.rt d) | .rf es => Q (.rf es) | .rp d es => Q (.rp d es) | .rg d p r => Q (.rg d p r) | .rgf d p r => Q (.rgf d p r)
theorem Q3 {α : Type} {g : Tg} {body : MS} {f : α -> D} (I : List α -> Ro -> Prop) (Q : Out -> Prop)
  (hs : ∀ d ds ρ, I (d :: ds) ρ -> ∃ ρ1 o, tgD g (f d) ρ = some ρ1 /\ body ρ1 = some o /\ zt9 I Q ds o) (hd : ∀ ρ, I [] ρ -> Q (.nx ρ)) :
  ∀ (ds : List α) (ρ : Ro), I ds ρ -> ∃ o, forD g body (ds.map f) ρ = some o /\ Q o
 | [], ρ, h => ⟨.nx ρ, rfl, hd ρ h⟩
 | d :: ds, ρ, h => by
  obtain ⟨ρ1, o, h1, h2, h3⟩ := hs d ds ρ h
  rw [map_cons]
  unfold forD
  rw [h1]
  simp only [h2]
  cases o with
  | nx ρ2 => exact Q3 I Q hs hd ds ρ2 h3
  | ct ρ2 => exact Q3 I Q hs hd ds ρ2 h3
  | bk ρ2 => exact ⟨_, rfl, h3⟩
  | rt d => exact ⟨_, rfl, h3⟩
  | rf d => exact ⟨_, rfl, h3⟩
  | rp d es => exact ⟨_, rfl, h3⟩
  | rg d p r => exact ⟨_, rfl, h3⟩
  | rgf d p r => exact ⟨_, rfl, h3⟩
theorem Q7 {α : Type} {g : Tg} {c : MB} {elt : ME} {f : α -> D} {G : α -> D} (I : List α -> Ro -> Prop)
  (hs : ∀ d ds ρ, I (d :: ds) ρ -> ∃ ρ1, tgD g (f d) ρ = some ρ1 /\ c ρ1 = some true /\ elt ρ1 = some (G d) /\ I ds ρ1) :
  ∀ (ds : List α) (ρ : Ro) (acc : List D), I ds ρ -> acc.length + ds.length <= sizeLine -> O1 g c elt (ds.map f) ρ acc = some (acc ++ ds.map G)
 | [], ρ, acc, h, hl => by simp [O1]
 | d :: ds, ρ, acc, h, hl => by
  obtain ⟨ρ1, h1, h2, h3, h4⟩ := hs d ds ρ h
  rw [map_cons]
  unfold O1
  rw [h1]
  simp only [h2, h3]
  rw [length_cons] at hl
  rw [if_pos (by omega), Q7 I hs ds ρ1 _ h4 (by simp; omega)]
  simp
def cutI {α : Type} (xs : List α) (lo hi : Option Int) : List α := (xs.drop (HT.sIx xs.length 0 lo)).take (HT.sIx xs.length xs.length hi - HT.sIx xs.length 0 lo)
theorem d6 {α : Type} (f : α -> D) (xs : List α) (lo hi : Option Int) : cutL (xs.map f) lo hi = (cutI xs lo hi).map f := by
 unfold cutL cutI; rw [length_map, <- map_drop, <- map_take]
theorem Q6 {α : Type} (xs : List α) (k : Nat) : cutI xs (some (k : Int)) none = xs.drop k := by
 unfold cutI
 rw [HT.sIx_nat, HT.sIx_none]
 rcases Nat.le_total k xs.length with h | h
 ·rw [Nat.min_eq_left h]; exact take_of_length_le (by simp)
 ·rw [Nat.min_eq_right h]; simp [drop_eq_nil_of_le h]
theorem zz4 {α : Type} (xs : List α) (k : Nat) : cutI xs none (some (k : Int)) = xs.take k := by
 unfold cutI
 rw [HT.sIx_nat, HT.sIx_none]
 simp
theorem X9 {α : Type} (f : α -> D) (xs : List α) (k : Int) (h0 : 0 <= k) (h1 : k < xs.length) (dflt : α) : atI (xs.map f) k = some (f (xs.getD k.toNat dflt)) := by
 unfold atI ixN
 rw [length_map, if_pos h0, if_pos h1]
 have hl : k.toNat < xs.length := by omega
 simp [getElem?_map, hl]
theorem atI_last {α : Type} (f : α -> D) (xs : List α) (x : α) : atI ((xs ++ [x]).map f) (-1) = some (f x) := by
 unfold atI ixN
 rw [length_map, if_neg (by decide), if_pos (by simp; omega)]
 have e : (-1 + ((xs ++ [x]).length : Int)).toNat = xs.length := by simp; omega
 rw [e]
 simp
theorem Z9 {n : Nat} {m : MS} {ds : List D} {d : D} (h : m (j7 n ds) = some (.rt d)) : runB n m ds = some (.sh d) := by unfold runB; rw [h]
theorem B3 {n : Nat} {m : MS} {ds : List D} {d : List D} (h : m (j7 n ds) = some (.rf d)) : runB n m ds = some (.fr d) := by unfold runB; rw [h]
def after (rest : MS) : Out -> Option Out
 | .nx ρ => rest ρ | .bk ρ => some (.bk ρ) | .ct ρ => some (.ct ρ) | .rt d => some (.rt d) | .rf d => some (.rf d) | .rp d es => some (.rp d es) | .rg d p r => some (.rg d p r) | .rgf d p r => some (.rgf d p r)
theorem Z7 {x y : MS} {ρ : Ro} {o : Out} (h : x ρ = some o) : mseq x y ρ = after y o := by
 unfold mseq; rw [h]; cases o <;> rfl
theorem P2 {α : Type} {mi : ML} {g : Tg} {body rest : MS} {ρ : Ro} {res : Option Out} {f : α -> D} (ds : List α) (hi : mi ρ = some (ds.map f)) (I : List α -> Ro -> Prop) (Q : Out -> Prop) (h0 : I ds ρ)
  (hs : ∀ d ds ρ, I (d :: ds) ρ -> ∃ ρ1 o, tgD g (f d) ρ = some ρ1 /\ body ρ1 = some o /\ zt9 I Q ds o) (hd : ∀ ρ, I [] ρ -> Q (.nx ρ)) (hq : ∀ o, Q o -> after rest o = res) : mseq (mfor mi g body) rest ρ = res := by
 obtain ⟨o, e, q⟩ := Q3 (g := g) (body := body) I Q hs hd ds ρ h0
 rw [Z7 (o := o) (by unfold mfor; rw [hi]; exact e)]
 exact hq o q
theorem J2 (i j : Int) : (if j > i then j else i) = max i j := by omega
theorem zv1 (i j : Int) : (if j < i then j else i) = min i j := by omega
theorem J6 (i : Int) : (if i < 0 then -i else i) = (i.natAbs : Int) := by omega
theorem g9 : 1000000 <= sizeLine := by rw [show sizeLine = 2 ^ 24 from rfl]; decide
theorem w6 {n : Nat} (h : n <= 1000000) : n <= sizeLine := Nat.le_trans h g9
theorem E8 (j n : Nat) (h : j < n) : List.range' j (n - j) = j :: List.range' (j + 1) (n - (j + 1)) := by
 have : n - j = (n - (j + 1)) + 1 := by omega
 rw [this, range'_succ]
theorem n4 {x n : Int} (hn : 0 < n) : 0 <= x % n /\ x % n < n := ⟨Int.emod_nonneg _ (by omega), Int.emod_lt_of_pos _ hn⟩
def Run (m : MS) (ρ : Ro) (R : Out -> Prop) : Prop := ∃ o, m ρ = some o /\ R o
def zn3 (rest : MS) (R : Out -> Prop) : Out -> Prop
 | .nx ρ => Run rest ρ R | .bk ρ => R (.bk ρ) | .ct ρ => R (.ct ρ) | .rt d => R (.rt d) | .rf d => R (.rf d) | .rp d es => R (.rp d es) | .rg d p r => R (.rg d p r) | .rgf d p r => R (.rgf d p r)
theorem t7 {x y : MS} {ρ ρ' : Ro} {R : Out -> Prop} (h : x ρ = some (.nx ρ')) (h2 : Run y ρ' R) : Run (mseq x y) ρ R := by
 obtain ⟨o, e, r⟩ := h2
 exact ⟨o, seqI h e, r⟩
theorem S9 {x y : MS} {ρ : Ro} {R : Out -> Prop} (h : Run x ρ (zn3 y R)) : Run (mseq x y) ρ R := by
 obtain ⟨o, e, r⟩ := h
 cases o with
 | nx ρ' => exact t7 e r
 | bk ρ' => exact ⟨_, Z7 e, r⟩
 | ct ρ' => exact ⟨_, Z7 e, r⟩
 | rt d => exact ⟨_, Z7 e, r⟩
 | rf d => exact ⟨_, Z7 e, r⟩
 | rp d es => exact ⟨_, Z7 e, r⟩
 | rg d p' r' => exact ⟨_, Z7 e, r⟩
 | rgf d p' r' => exact ⟨_, Z7 e, r⟩
theorem S0 {α : Type} {mi : ML} {g : Tg} {body : MS} {ρ : Ro} {f : α -> D} (ds : List α) (hi : mi ρ = some (ds.map f)) (I : List α -> Ro -> Prop) (Q : Out -> Prop) (h0 : I ds ρ)
  (hs : ∀ d ds ρ, I (d :: ds) ρ -> ∃ ρ1, tgD g (f d) ρ = some ρ1 /\ Run body ρ1 (zt9 I Q ds)) (hd : ∀ ρ, I [] ρ -> Q (.nx ρ)) : Run (mfor mi g body) ρ Q := by
 obtain ⟨o, e, q⟩ := Q3 (g := g) (body := body) I Q (fun d ds ρ h => by obtain ⟨ρ1, a, o, b, c⟩ := hs d ds ρ h; exact ⟨ρ1, o, a, b, c⟩) hd ds ρ h0
 exact ⟨o, by unfold mfor; rw [hi]; exact e, q⟩
theorem X3 {mi : ML} {g : Tg} {body : MS} {ρ : Ro} {f : Nat -> D} (n : Nat) (hi : mi ρ = some ((List.range n).map f)) (I : Nat -> Ro -> Prop) (Q : Out -> Prop) (h0 : I 0 ρ)
  (hs : ∀ j ρ, j < n -> I j ρ -> ∃ ρ1, tgD g (f j) ρ = some ρ1 /\ Run body ρ1 (zt9 (fun (_ : List Unit) ρ => I (j + 1) ρ) Q [])) (hd : ∀ ρ, I n ρ -> Q (.nx ρ)) : Run (mfor mi g body) ρ Q := by
 refine S0 (List.range n) hi (I := fun ks ρ => ∃ j, j <= n /\ ks = List.range' j (n - j) /\ I j ρ) (Q := Q) ⟨0, by omega, by rw [range_eq_range']; rfl, h0⟩ ?_ ?_
 ·rintro d ds ρ ⟨j, hj, e, h⟩
  have hlt : j < n := by
   rcases Nat.lt_or_ge j n with z | z
   ·exact z
   ·rw [show n - j = 0 by omega] at e; cases e
  rw [E8 j n hlt] at e
  obtain ⟨e1, e2⟩ := List.cons.inj e
  subst e1
  obtain ⟨ρ1, a1, o, a2, a3⟩ := hs d ρ hlt h
  refine ⟨ρ1, a1, o, a2, ?_⟩
  cases o with
  | nx r => exact ⟨d + 1, by omega, e2, a3⟩
  | ct r => exact ⟨d + 1, by omega, e2, a3⟩
  | bk r => exact a3
  | rt r => exact a3
  | rf r => exact a3
  | rp r r2 => exact a3
  | rg r r2 r3 => exact a3
  | rgf r r2 r3 => exact a3
 ·rintro ρ ⟨j, hj, e, h⟩
  have : n - j = 0 := by
   rcases Nat.eq_zero_or_pos (n - j) with z | z
   ·exact z
   ·rw [E8 j n (by omega)] at e; cases e
  have : j = n := by omega
  subst this
  exact hd ρ h
theorem E7 {i : Nat} {m : MS} {ρ : Ro} {ds : List D} {R : Out -> Prop} (h : ρ[i]? = some (some (.own ds))) (h2 : Run m (ρ.set i (some (.sh (.lst ds)))) R) : Run (X7 i m) ρ R := by
 obtain ⟨o, e, r⟩ := h2
 exact ⟨o, by unfold X7; rw [h]; exact e, r⟩
theorem E6 {c : MB} {x y : MS} {ρ : Ro} {R : Out -> Prop} {b : Bool} (h : c ρ = some b) (h2 : Run (if b then x else y) ρ R) : Run (mif c x y) ρ R := by
 obtain ⟨o, e, r⟩ := h2
 refine ⟨o, ?_, r⟩
 unfold mif; rw [h]
 cases b <;> exact e
theorem C9 {ρ : Ro} {R : Out -> Prop} (h : R (.nx ρ)) : Run Z1 ρ R := ⟨_, rfl, h⟩
theorem yd6 {x : Int} (h : 0 <= x) : ∃ n : Nat, x = n := ⟨x.toNat, by omega⟩
theorem yn6 {x y : ME} {ρ : Ro} {a b : Bool} (h1 : x ρ = some (.bl a)) (h2 : y ρ = some (.bl b)) : mand x y ρ = some (.bl (a && b)) := by
 unfold mand; rw [h1]; cases a <;> simp [h2]
theorem P4 (lo : Int) (n : Nat) : T7 lo n = (List.range n).map fun (i : Nat) => D.int (lo + (i : Int)) := rfl
theorem zx6 (n : Nat) : T7 0 n = ((List.range n).map fun (i : Nat) => (i : Int)).map .int := by
 rw [P4, map_map]
 apply map_congr_left
 intro i _
 simp
theorem O9 {j : Int} (h1 : -(2 ^ 62) <= j) (h2 : j < 2 ^ 62) : okR j = true := by unfold okR; simp only [h1, h2, decide_true, Bool.and_self]
theorem P3 {j : Int} (h : okR j = true) : rng1 [.int j] = some (T7 0 j.toNat) := by
 unfold rng1
 simp only [h, if_true]
theorem yq3 {i j : Int} (h : okR i = true) (h2 : okR j = true) : rng2 [.int i, .int j] = some (T7 i (j - i).toNat) := by
 unfold rng2
 simp only [h, h2, Bool.and_self, if_true]
theorem R0 {n : Nat} {m : MS} {ds : List D} {P : List D -> Prop} (h : Run m (j7 n ds) (fun o => ∃ es, o = .rf es /\ P es)) : ∃ es, runB n m ds = some (.fr es) /\ P es := by
 obtain ⟨o, e, es, rfl, p⟩ := h
 exact ⟨es, B3 e, p⟩
theorem C8 {i : Nat} {ρ : Ro} {ds : List D} {R : Out -> Prop} (h : ρ[i]? = some (some (.own ds))) (h2 : R (.rf ds)) : Run (S6 i) ρ R := ⟨_, by unfold S6; rw [h], h2⟩
theorem W6 (i j : Int) (h : 0 < j) (h2 : j < 1073741824) : N3 i j = true := by unfold N3; simp only [h, h2, decide_true, Bool.and_self]
theorem C7 (i j : Int) (h : 0 <= j) : zh4 i j = true := by unfold zh4; simp only [h, decide_true]
theorem at4 (a b c d : Int) (k : Int) (h0 : 0 <= k) (h1 : k < 4) : ∃ x, atI [D.int a, .int b, .int c, .int d] k = some (.int x) /\ (x = a \/ x = b \/ x = c \/ x = d) := by
 have : k = 0 \/ k = 1 \/ k = 2 \/ k = 3 := by omega
 rcases this with h | h | h | h <;> subst h
 ·exact ⟨_, rfl, by simp⟩
 ·exact ⟨_, rfl, by simp⟩
 ·exact ⟨_, rfl, by simp⟩
 ·exact ⟨_, rfl, by simp⟩
theorem at8 (a b c d e f g h : Int) (k : Int) (h0 : 0 <= k) (h1 : k < 8) : ∃ x, atI [D.int a, .int b, .int c, .int d, .int e, .int f, .int g, .int h] k = some (.int x) := by
 have : k = 0 \/ k = 1 \/ k = 2 \/ k = 3 \/ k = 4 \/ k = 5 \/ k = 6 \/ k = 7 := by omega
 rcases this with h | h | h | h | h | h | h | h <;> subst h <;> exact ⟨_, rfl⟩
theorem at2 (a b : Int) (k : Int) (h0 : 0 <= k) (h1 : k < 2) : ∃ x, atI [D.int a, .int b] k = some (.int x) := by
 have : k = 0 \/ k = 1 := by omega
 rcases this with h | h <;> subst h <;> exact ⟨_, rfl⟩
theorem xv0 (x : Int) (h : 0 <= x) : 0 <= Builtin.bitAnd x 1 /\ Builtin.bitAnd x 1 <= 1 := by
 unfold Builtin.bitAnd
 rw [show decide (0 <= x) = true from decide_eq_true h]
 have : (x.toNat &&& (1 : Int).toNat : Nat) <= (1 : Int).toNat := Nat.and_le_right
 refine ⟨?_, ?_⟩
 ·show (0 : Int) <= ((x.toNat &&& (1 : Int).toNat : Nat) : Int)
  omega
 ·show ((x.toNat &&& (1 : Int).toNat : Nat) : Int) <= 1
  have e : (1 : Int).toNat = 1 := rfl
  omega
theorem zn8 {x : Int} (h : 0 <= x) (k : Nat) : 0 <= x / 2 ^ k := Int.ediv_nonneg h (Int.pow_nonneg (by decide))
theorem zu2 : ∀ (row : List Int) (k : Nat), O0 k (row.map .int) = (List.range row.length).map fun (i : Nat) => D.tup [.int ((k + i : Nat) : Int), .int (row.getD i 0)]
 | [], k => rfl
 | x :: row, k => by
  rw [map_cons, O0, zu2 row (k + 1), length_cons, range_succ_eq_map, map_cons, map_map]
  congr 1
  apply map_congr_left
  intro i _
  simp only [Function.comp, Nat.succ_eq_add_one, getD_cons_succ]
  rw [show k + 1 + i = k + (i + 1) by omega]
theorem ym4 (ds : List D) : eqFD false (.lst ds) (.lst []) = some (.bl ds.isEmpty) := by
 unfold eqFD eqF
 cases ds with
 | nil => rfl
 | cons d ds => rfl
theorem zr5 (ds : List D) : eqFD true (.lst ds) (.lst []) = some (.bl (!ds.isEmpty)) := by
 unfold eqFD eqF
 cases ds with
 | nil => rfl
 | cons d ds => rfl
theorem V3 {α : Type} (xs : List α) (lo hi : Option Int) : (cutI xs lo hi).length <= xs.length := by
 unfold cutI; rw [length_take, length_drop]; omega
theorem zc3 {n : Nat} {k : Int} (h0 : 0 <= k) (h1 : k < n) : ixN n k = some k.toNat := by unfold ixN; rw [if_pos h0, if_pos h1]
theorem zq7 (n : Nat) : ∀ xs : List Int, zipE (eqF (n + 1)) (xs.map .int) (xs.map .int) = some true
 | [] => rfl
 | x :: xs => by
  rw [map_cons, zipE, zq7 n xs]
  show (some (x == x)).bind _ = _
  rw [beq_self_eq_true]; rfl
theorem ya4 (n : Nat) (xs : List Int) : eqF (n + 2) (.lst (xs.map .int)) (.lst (xs.map .int)) = some true := by
 show (if _ = _ then zipE (eqF (n + 1)) (xs.map .int) (xs.map .int) else some false) = _
 rw [if_pos rfl, zq7]
theorem zc7 (xs ys : List Int) : eqFD true (.lst [.lst (xs.map .int), .lst (ys.map .int)]) (.lst [.lst (xs.map .int), .lst (ys.map .int)]) = some (.bl false) := by
 have : eqF 8 (.lst [.lst (xs.map .int), .lst (ys.map .int)]) (.lst [.lst (xs.map .int), .lst (ys.map .int)]) = some true := by
  show (if _ = _ then zipE (eqF 7) [.lst (xs.map .int), .lst (ys.map .int)] [.lst (xs.map .int), .lst (ys.map .int)] else some false) = _
  rw [if_pos rfl]
  simp only [zipE, ya4 5, Option.bind_some, Bool.and_self]
 unfold eqFD
 rw [this]; rfl
theorem yc2 : kitB "bool" "bool" = some true := by decide +kernel
theorem T6 {f : MF} {m : ML} {ρ : Ro} {ds es : List D} (h : m ρ = some ds) (h2 : f ds = some (.fr es)) : m5 f m ρ = some (.lst es) := by
 unfold m5; rw [h]; show (match f ds with | some (.sh d) => some d | some (.fr es) => some (D.lst es) | some (.pr d es) => some (.tup [d, .lst es]) | none => none) = _; rw [h2]
theorem Z5 {f : MF} {m : ML} {ρ : Ro} {ds : List D} {d : D} (h : m ρ = some ds) (h2 : f ds = some (.sh d)) : m5 f m ρ = some d := by
 unfold m5; rw [h]; show (match f ds with | some (.sh d) => some d | some (.fr es) => some (D.lst es) | some (.pr d es) => some (.tup [d, .lst es]) | none => none) = _; rw [h2]
theorem z9 {x : ME} {r : ML} {ρ : Ro} {d : D} {ds : List D} (h : x ρ = some d) (h2 : r ρ = some ds) : z7 x r ρ = some (d :: ds) := by
 unfold z7; rw [h, h2]; rfl
theorem x9 {ρ : Ro} : anil ρ = some [] := rfl
theorem zn1 (row : List Int) (i : Nat) (h : i < row.length) : atI (row.map D.int) (i : Int) = some (.int (row.getD i 0)) := by
 have := X9 D.int row (i : Int) (by omega) (by omega) 0
 rw [Int.toNat_natCast] at this
 exact this
theorem zh2 {x y : ME} {ρ : Ro} {i j : Int} (h1 : x ρ = some (.int i)) (h2 : y ρ = some (.int j)) : l6 (m2 ltD x y) ρ = some (decide (i < j)) := by
 unfold l6 m2; rw [h1, h2]; rfl
theorem zb0 {m : ML} {ρ : Ro} {ds : List D} (h : m ρ = some ds) : l6 (meqB true m (v0 anil)) ρ = some (!ds.isEmpty) := by
 have i0 : 0 <= sizeLine := Nat.zero_le _
 have e : v0 anil ρ = some [] := by simp_arith [i0, if_true]
 unfold l6 meqB
 rw [h, e]
 simp only [Option.bind_some, zr5]
theorem zu4 {α β : Type} (xs : List α) (f : α -> β) : (xs.map f).isEmpty = xs.isEmpty := by cases xs <;> rfl
theorem ys1 {x y : MB} {ρ : Ro} {a b : Bool} (h1 : x ρ = some a) (h2 : y ρ = some b) : cor x y ρ = some (a || b) := by
 unfold cor; rw [h1]; cases a <;> simp [h2]
theorem za0 {x y : MB} {ρ : Ro} {a b : Bool} (h1 : x ρ = some a) (h2 : y ρ = some b) : cand x y ρ = some (a && b) := by
 unfold cand; rw [h1]; cases a <;> simp [h2]
theorem c8 {i : Nat} {x : ME} {ρ : Ro} {d : D} (h : x ρ = some d) : mset i x ρ = some (.nx (ρ.set i (some (.sh d)))) := by unfold mset; rw [h]; rfl
theorem l7 {m : ML} {ρ : Ro} {ds : List D} (h : m ρ = some ds) : mlst m ρ = some (.lst ds) := by unfold mlst; rw [h]; rfl
theorem u8 {m : ML} {ρ : Ro} {ds : List D} (h : m ρ = some ds) (hz : ds.length <= sizeLine) : v0 m ρ = some ds := by
 unfold v0; rw [h]; show (if ds.length <= sizeLine then some ds else none) = _; rw [if_pos hz]
theorem d8 {m : ML} {i : ME} {ρ : Ro} {ds : List D} {k : Int} {d : D} (h1 : m ρ = some ds) (h2 : i ρ = some (.int k)) (h3 : atI ds k = some d) : mix m i ρ = some d := by
 unfold mix; rw [h1, h2]; exact h3
theorem e6 {m : ME} {ρ : Ro} {ds : List D} (h : m ρ = some (.lst ds)) : l9 m ρ = some ds := by unfold l9; rw [h]
theorem U2 {x y : ML} {ρ : Ro} {ds es : List D} (h1 : x ρ = some ds) (h2 : y ρ = some es) (hz : ds.length + es.length <= sizeLine) : mcat x y ρ = some (ds ++ es) := by
 unfold mcat; rw [h1, h2]; show (if ds.length + es.length <= sizeLine then some (ds ++ es) else none) = _; rw [if_pos hz]
theorem P7 {m : ML} {ρ : Ro} {ds : List D} (h : m ρ = some ds) (hz : ds.length <= sizeLine) : mtup m ρ = some (.tup ds) := by
 unfold mtup; rw [u8 h hz]; rfl
theorem A9 {x : ME} {ρ : Ro} {d : D} (h : x ρ = some d) : mret x ρ = some (.rt d) := by unfold mret; rw [h]; rfl
section
open PySem L2
theorem xz3 {names : List Str} {mb ms : MS} {xb : MXs} {i : Nat} {ρ ρ1 ρ2 : Ro} {c : Str} (h : mb ρ = none) (hx : xb ρ = some (c, ρ1)) (hc : c ∈ names) (hs : ms (ρ1.set i (some (.sh (.exc c)))) = some (.nx ρ2)) : mtry names mb xb i ms ρ = some (.nx (ρ2.set i none)) := by
 unfold mtry
 rw [h, hx]
 dsimp only
 rw [if_pos hc, hs]
theorem zd0 {c : MB} {x y : MS} {ρ : Ro} {b : Bool} (h : c ρ = some b) : mif c x y ρ = (if b then x else y) ρ := by unfold mif; rw [h]; cases b <;> rfl
theorem zi5 {c : MB} {x y : MXs} {ρ : Ro} {b : Bool} (h : c ρ = some b) : xif c x y ρ = (if b then x else y) ρ := by unfold xif; rw [h]; cases b <;> rfl
theorem T3 {x : ME} {ρ : Ro} (h : x ρ = none) : P8 x ρ = none := by unfold P8; rw [h]; rfl
theorem T5 {f : MF} {m : ML} {ρ : Ro} {ds : List D} (h : m ρ = some ds) (h2 : f ds = none) : m5 f m ρ = none := by unfold m5; rw [h]; show (match f ds with | some (.sh d) => some d | some (.fr es) => some (.lst es) | some (.pr d es) => some (.tup [d, .lst es]) | none => none) = _; rw [h2]
theorem U6 {x : MFX} {m : ML} {ρ : Ro} {ds : List D} {c : Str} (h : m ρ = some ds) (h2 : x ds = some c) : J9 x m ρ = some c := by unfold J9; rw [h]; exact h2
theorem zn5 {x : MXe} {ρ : Ro} {c : Str} (h : x ρ = some c) : xE x ρ = some (c, ρ) := by unfold xE; rw [h]; rfl
theorem B0 {n : Nat} {x : MXs} {ds : List D} {c : Str} {ρ : Ro} (h : x (j7 n ds) = some (c, ρ)) : runX n x ds = some c := by unfold runX; rw [h]; rfl
theorem zi1 {c : Str} {m : ML} {ρ : Ro} {ds : List D} (h : m ρ = some ds) : zy8 c m ρ = some (c, ρ) := by unfold zy8; rw [h]; rfl
theorem zr0 {x y : MS} {ρ : Ro} (h : x ρ = none) : mseq x y ρ = none := by unfold mseq; rw [h]
theorem B4 {n : Nat} {m : MS} {ds : List D} (h : m (j7 n ds) = none) : runB n m ds = none := by unfold runB; rw [h]
theorem ze7 {tab : List (Str × Bool)} {m : ME} {ρ : Ro} {c : Str} {k : Bool} (h : m ρ = some (.exc c)) (h2 : tab.lookup c = some k) : misX tab m ρ = some (.bl k) := by unfold misX; rw [h]; simp only [h2]; rfl
end
section
open PySem L2
theorem g7 (c k : Int) (hk : 0 <= k) : c6 [.int c, .int k] = some (.sh (.int (stir c k))) := by
 have hp : ((10 : Int) ^ (18 : Int).toNat) = 10 ^ 18 := rfl
 have hp2 : ((2 : Int) ^ (28 : Int).toNat) = 2 ^ 28 := rfl
 have o1 : B6 10 18 = true := by decide
 have o2 : B6 2 28 = true := by decide
 have o3 : S5 28 k = true := S4 _ _ (by decide) (by decide)
 have o4 : S5 1013 k = true := S4 _ _ (by decide) (by decide)
 have o5 : S5 (c + 1013 * k + 1) 16807 = true := ze3 _ _ (by decide) (by decide)
 have o6 : zh4 (c - 10 ^ 18) (28 * k) = true := by unfold zh4; exact decide_eq_true (by omega)
 have o7 : S5 ((c + 1013 * k + 1) * 16807 % 2147483647) ((c + 1013 * k + 1) * 16807 % 2147483647) = true := S4 _ _ (by omega) (by omega)
 have o8 : S5 (((c + 1013 * k + 1) * 16807 % 2147483647) * ((c + 1013 * k + 1) * 16807 % 2147483647) % 2147483629) 39373 = true := ze3 _ _ (by decide) (by decide)
 have q1 : ∀ i, G8 i (2 ^ 28) = true := fun i => u6 _ _ (by decide)
 have q2 : ∀ i, G8 i 2147483647 = true := fun i => u6 _ _ (by decide)
 have q3 : ∀ i, G8 i 2147483629 = true := fun i => u6 _ _ (by decide)
 have q4 : ∀ i, G8 i 2147483587 = true := fun i => u6 _ _ (by decide)
 have f1 : ∀ i, N3 i 8 = true := fun i => by unfold N3; decide
 unfold c6 b_Z16 stir
 by_cases h : 10 ^ 18 <= c
 ·simp_arith [hp, hp2, o1, o2, o3, o6, q1, h, decide_true, if_true]
 ·simp_arith [hp, hp2, o1, o2, o3, o4, o5, o7, o8, q1, q2, q3, q4, f1, h, decide_false, if_true, if_false]
theorem yu1 (ns : List Int) (many : Nat) (hl : ns.length <= 63) : ∃ cs : List Int, m_Z9 [.lst (ns.map .int), .int many] = some (.fr (cs.map .int)) := by
 unfold m_Z9 b_Z9
 have e1 : cutL (ns.map D.int) none (some (many : Int)) = (ns.take many).map .int := by rw [d6, zz4]
 have e2 : [D.int 0] = ([0] : List Int).map .int := rfl
 have g : ((ns.take many).map D.int).length + [D.int 0].length <= sizeLine := w6 (by simp; omega)
 have g2 : 1 <= sizeLine := w6 (by decide)
 refine ⟨cutI (ns.take many ++ [0]) none (some (max 1 (min (many : Int) (ns.length : Int)))), B3 ?_⟩
 simp_arith [e1, g2, if_true, length_map, J2, zv1]
 have g3 : (ns.take many).length + (0 + 1) <= sizeLine := w6 (by simp; omega)
 rw [if_pos g3]
 simp_arith []
 rw [e2, <- map_append, d6]
def envR (c most size kind wide block : Int) (f : List Int) (last : Int) (o8 o9 o10 : Option S) : Ro := [some (.sh (.int c)), some (.sh (.int most)), some (.sh (.int size)), some (.sh (.int kind)), some (.sh (.int wide)), some (.sh (.int block)), some (.own (f.map .int)), some (.sh (.int last)), o8, o9, o10]
theorem yy2 (c most size kind wide block : Int) (f : List Int) (last : Int) (j : Nat) (o9 o10 : Option S) (hk0 : 0 <= kind) (hk8 : kind < 8) (hw : 0 < wide) (hw6 : wide <= 1000000) (hb : 0 < block) (hb9 : block <= 9) (hf : f.length < 1000000) (Q : Out -> Prop)
  (hQ : ∀ x last o8 o9 o10, Q (.nx (envR c most size kind wide block (f ++ [x]) last o8 o9 o10))) : Run zy1 (envR c most size kind wide block f last (some (.sh (.int (j : Int)))) o9 o10) Q := by
 have s1 := g7 c (10 + (j : Int)) (by omega)
 have b1 := n4 (x := stir c (10 + (j : Int))) hw
 obtain ⟨one, eo⟩ : ∃ k, stir c (10 + (j : Int)) % wide = k := ⟨_, rfl⟩
 rw [eo] at b1
 have p23 : (10 : Int) ^ (23 : Int).toNat = 100000000000000000000000 := by decide
 have o23 : B6 10 23 = true := by decide
 have i1 : 0 + 1 <= sizeLine := w6 (by decide)
 have i2 : 0 + 1 + 1 <= sizeLine := w6 (by decide)
 have i3 : 0 + 1 + 1 + 1 <= sizeLine := w6 (by decide)
 have i4 : 0 + 1 + 1 + 1 + 1 <= sizeLine := w6 (by decide)
 have i7 : 0 + 1 + 1 + 1 + 1 + (0 + 1 + 1 + 1) <= sizeLine := w6 (by decide)
 have i8 : 0 + 1 + 1 + 1 + 1 + 1 + 1 + 1 + (0 + 1) <= sizeLine := w6 (by decide)
 have d2 : ∀ i, N3 i 2 = true := fun i => W6 _ _ (by decide) (by decide)
 have m2k := n4 (x := (j : Int)) (show (0 : Int) < 2 by decide)
 obtain ⟨x2, e2⟩ := at2 one (0 - one) ((j : Int) % 2) m2k.1 m2k.2
 have mb := n4 (x := (j : Int) / block) (show (0 : Int) < 2 by decide)
 have mu1 : S5 ((j : Int) / block % 2) wide = true := S4 _ _ (by omega) (by omega)
 have mu2 : S5 (one - wide / 2) 100000000000000000000000 = true := S4 _ _ (by omega) (by omega)
 unfold zy1 envR
 ((apply t7; focus (simp_arith [s1, u6 (stir c (10 + (j : Int))) wide hw, if_true, eo]; rfl)))
 ((apply t7; focus (simp_arith [d2, if_true]; rfl)))
 ((apply t7; focus (simp_arith [d2, if_true, i4, i2, u6 (j : Int) 2 (by decide), e2]; rfl)))
 ((apply t7; focus (simp_arith [d2, if_true, i3, i7, W6 (j : Int) block hb (by omega), u6 ((j : Int) / block) 2 (by decide), mu1, mu2, p23, o23, s1, u6 (stir c (10 + (j : Int))) 3 (by decide)]; rfl)))
 obtain ⟨x8, e8⟩ := at8 (one - wide / 2) ((j : Int) + one / 2) (0 - (j : Int) - one / 2) x2 (one + (j : Int) / block % 2 * wide) wide ((one - wide / 2) * 100000000000000000000000 + stir c (10 + (j : Int)) % 3) (last + one - wide / 2) kind hk0 hk8
 have hl : (f.map D.int).length < sizeLine := by simp; have := g9; omega
 refine ⟨_, by simp_arith [i1, i8, if_true, e8, hl]; rfl, ?_⟩
 have := fun a b d => hQ x8 (last + one - wide / 2) a b d
 unfold envR at this
 simp only [map_append] at this
 exact this _ _ _
theorem yi4 (c : Int) (most : Nat) (hm : most <= 300) : ∃ f : List Int, f.length <= most /\ zk7 [.int c, .int most] = some (.fr (f.map .int)) := by
 suffices h : ∃ es, zk7 [.int c, .int most] = some (.fr es) /\ ∃ f : List Int, f.length <= most /\ es = f.map .int by
  obtain ⟨es, e, f, hf, rfl⟩ := h
  exact ⟨f, hf, e⟩
 unfold zk7 b_Z17
 refine R0 ?_
 have i4 : 0 + 1 + 1 + 1 + 1 <= sizeLine := w6 (by decide)
 have i0 : 0 <= sizeLine := Nat.zero_le _
 have p6 : (10 : Int) ^ (6 : Int).toNat = 1000000 := by decide
 have o6 : B6 10 6 = true := by decide
 have b1 := n4 (x := stir c 1) (show (0 : Int) < 4 by decide)
 have b2 := n4 (x := stir c 2) (show (0 : Int) < 8 by decide)
 have b3 := n4 (x := stir c 3) (show (0 : Int) < 4 by decide)
 have b4 := n4 (x := stir c 4) (show (0 : Int) < 9 by decide)
 obtain ⟨sz, e1, hs1⟩ := at4 4 13 41 ((most : Int) + 1) (stir c 1 % 4) b1.1 b1.2
 have hsz : 0 < sz := by omega
 have b0 := n4 (x := stir c 0) hsz
 ((apply t7; focus (simp_arith [g7 c 0 (by decide), g7 c 1 (by decide), i4, if_true, u6 (stir c 1) 4 (by decide), e1, u6 (stir c 0) sz hsz]; rfl)))
 ((apply t7; focus (simp_arith [g7 c 2 (by decide), if_true, u6 (stir c 2) 8 (by decide)]; rfl)))
 obtain ⟨wide, e3, hw⟩ := at4 2 5 50 1000000 (stir c 3 % 4) b3.1 b3.2
 ((apply t7; focus (simp_arith [g7 c 3 (by decide), i4, if_true, u6 (stir c 3) 4 (by decide), p6, o6, e3]; rfl)))
 ((apply t7; focus (simp_arith [g7 c 4 (by decide), if_true, u6 (stir c 4) 9 (by decide)]; rfl)))
 ((apply t7; focus (simp_arith [i0, if_true]; rfl)))
 ((apply t7; focus (simp_arith []; rfl)))
 obtain ⟨n, en⟩ := yd6 (x := min (stir c 0 % sz) (most : Int)) (by omega)
 have hn : n <= 300 := by omega
 have hn2 : n <= most := by omega
 have k1 : okR (n : Int) = true := O9 (by omega) (by omega)
 refine S9 (X3 n (f := fun (j : Nat) => D.int (j : Int)) (by simp_arith [zv1, en, P3 k1, Int.toNat_natCast]; rw [zx6, map_map]; rfl)
  (I := fun j ρ => ∃ f last o8 o9 o10, f.length = j /\ ρ = envR c most (stir c 0 % sz) (stir c 2 % 8) wide (1 + stir c 4 % 9) f last o8 o9 o10) _ ⟨[], _, _, _, _, rfl, rfl⟩ ?_ ?_)
 ·rintro j ρ hj ⟨f, last, o8, o9, o10, hf, rfl⟩
  refine ⟨_, rfl, yy2 c most (stir c 0 % sz) (stir c 2 % 8) wide (1 + stir c 4 % 9) f last j o9 o10 b2.1 b2.2 (by omega) (by omega) (by omega) (by omega) (by omega) _ fun x last o8 o9 o10 => ⟨f ++ [x], last, o8, o9, o10, by simp [hf], rfl⟩⟩
 ·rintro ρ ⟨f, last, o8, o9, o10, hf, rfl⟩
  exact C8 rfl ⟨_, rfl, f, by omega, rfl⟩
theorem zs9 {x : ME} {ρ : Ro} {b : Bool} (h : x ρ = some (.bl b)) : mtru x ρ = some b := by unfold mtru; rw [h]; rfl
theorem zq0 {x : MB} {ρ : Ro} {b : Bool} (h : x ρ = some b) : cnot x ρ = some (!b) := by unfold cnot; rw [h]; rfl
theorem T1 {x : ME} {ρ : Ro} {b : Bool} (h : x ρ = some (.bl b)) : l6 x ρ = some b := by unfold l6; rw [h]
theorem zz5 {f : List D -> Option D} {m : ML} {ρ : Ro} {ds : List D} (h : m ρ = some ds) : Z2 f m ρ = f ds := by
 unfold Z2; rw [h]; rfl
theorem W4 {c : MB} {x : MS} {ρ : Ro} (h : c ρ = some false) : mif c x Z1 ρ = some (.nx ρ) := by unfold mif; rw [h]; rfl
theorem c7 {f : D -> D -> Option D} {x y : ME} {ρ : Ro} {a b : D} (h1 : x ρ = some a) (h2 : y ρ = some b) : m2 f x y ρ = f a b := by
 unfold m2; rw [h1, h2]; rfl
end
section
open PySem L2
def pok (n : Nat) : Int -> List Int -> Bool
 | _, [] => true
 | l, p :: ps => if p < l \/ (n : Int) <= p then false else pok n (p + 1) ps
theorem zy5 (row places : List Int) : m_Z7 [.lst (row.map .int), .lst (places.map .int)] = some (.sh (.bl (pok row.length 0 places))) := by
 unfold m_Z7 b_Z7
 refine Z9 ?_
 ((apply seqI; focus (simp_arith []; rfl)))
 refine P2 places (f := D.int) (by simp_arith []) (I := fun ps ρ => ∃ l x, ρ = [some (.sh (.lst (row.map .int))), some (.sh (.lst (places.map .int))), some (.sh (.int l)), x] /\ pok row.length 0 places = pok row.length l ps)
  (Q := fun o => (∃ ρ, o = .nx ρ /\ pok row.length 0 places = true) \/ (o = .rt (.bl false) /\ pok row.length 0 places = false)) ⟨0, none, rfl, rfl⟩ ?_ ?_ ?_
 ·rintro p ps ρ ⟨l, x, rfl, e⟩
  simp only [pok] at e
  by_cases h1 : p < l
  ·rw [if_pos (Or.inl h1)] at e
   exact ⟨_, .rt (.bl false), rfl, by unfold zz6; simp_arith [length_map, h1, decide_true], Or.inr ⟨rfl, e⟩⟩
  ·by_cases h2 : (row.length : Int) <= p
   ·rw [if_pos (Or.inr h2)] at e
    exact ⟨_, .rt (.bl false), rfl, by unfold zz6; simp_arith [length_map, h1, h2, decide_true, decide_false], Or.inr ⟨rfl, e⟩⟩
   ·rw [if_neg (by omega)] at e
    exact ⟨_, .nx _, rfl, by unfold zz6; simp_arith [length_map, h1, h2, decide_true, decide_false]; rfl, _, _, rfl, e⟩
 ·rintro ρ ⟨l, x, rfl, e⟩
  exact Or.inl ⟨_, rfl, e⟩
 ·rintro o (⟨ρ, rfl, e⟩ | ⟨rfl, e⟩)
  ·rw [e]; rfl
  ·rw [e]; rfl
def turn (t : Int × Int × Int) : Bool := decide (max t.1 t.2.2 < t.2.1) || decide (t.2.1 < min t.1 t.2.2)
def trip : List Int -> List (Int × Int × Int)
 | a :: b :: c :: r => (a, b, c) :: trip (b :: c :: r)
 | _ => []
theorem E2 : ∀ ns : List Int, N5 (ns.map .int) ((ns.drop 1).map .int) ((ns.drop 2).map .int) = (trip ns).map fun t => .tup [.int t.1, .int t.2.1, .int t.2.2]
 | [] => rfl
 | [_] => rfl
 | [_, _] => rfl
 | a :: b :: c :: r => by
  have := E2 (b :: c :: r)
  simp only [drop_succ_cons, drop_zero, map_cons] at this
  simp only [drop_succ_cons, drop_zero, map_cons, trip, N5, List.cons.injEq, true_and]
  exact this
theorem zt7 (ns : List Int) : zd4 [.lst (ns.map .int)] = some (.sh (.int (((trip ns).filter turn).length : Nat))) := by
 unfold zd4 b_Z12
 refine Z9 ?_
 ((apply seqI; focus (simp_arith []; rfl)))
 have h1 : cutI ns (some 1) none = ns.drop 1 := Q6 ns 1
 have h2 : cutI ns (some 2) none = ns.drop 2 := Q6 ns 2
 refine P2 (trip ns) (f := fun t => .tup [.int t.1, .int t.2.1, .int t.2.2]) (by simp_arith [d6, h1, h2, E2]) (I := fun ts ρ => ∃ k : Nat, ∃ x y z, ρ = [some (.sh (.lst (ns.map .int))), some (.sh (.int (k : Nat))), x, y, z] /\ ((trip ns).filter turn).length = k + (ts.filter turn).length)
  (Q := fun o => ∃ x y z, o = .nx [some (.sh (.lst (ns.map .int))), some (.sh (.int (((trip ns).filter turn).length : Nat))), x, y, z]) ⟨0, none, none, none, rfl, by simp⟩ ?_ ?_ ?_
 ·rintro ⟨a, b, c⟩ ts ρ ⟨k, x, y, z, rfl, e⟩
  refine ⟨_, .nx [some (.sh (.lst (ns.map .int))), some (.sh (.int ((k + if turn (a, b, c) then 1 else 0 : Nat) : Nat))), some (.sh (.int a)), some (.sh (.int b)), some (.sh (.int c))], rfl, ?_, ?_⟩
  ·unfold zo9
   by_cases q1 : max a c < b
   ·have t : turn (a, b, c) = true := by unfold turn; simp [q1]
    simp_arith [J2, zv1, q1, decide_true, t, if_true]; simp
   ·by_cases q2 : b < min a c
    ·have t : turn (a, b, c) = true := by unfold turn; simp [q2]
     simp_arith [J2, zv1, q1, q2, decide_true, decide_false, t, if_true]; simp
    ·have t : turn (a, b, c) = false := by unfold turn; simp [q1, q2]
     simp_arith [J2, zv1, q1, q2, decide_true, decide_false, t, if_true]; simp
  ·refine ⟨_, _, _, _, rfl, ?_⟩
   rw [e, filter_cons]
   split <;> simp_all <;> omega
 ·rintro ρ ⟨k, x, y, z, rfl, e⟩
  exact ⟨x, y, z, by rw [e]; simp⟩
 ·rintro o ⟨x, y, z, rfl⟩
  unfold after
  simp_arith []
def wD : Option Bool -> D
 | none => .non
 | some b => .bl b
theorem yt7 (c k : Int) (hk : 0 <= k) : ∃ x : Int, 0 <= x /\ zv3 [.int c, .int k] = some (.sh (.int x)) := by
 unfold zv3 b_Z18
 have i4 : 0 + 1 + 1 + 1 + 1 <= sizeLine := w6 (by decide)
 have p29 : (10 : Int) ^ (29 : Int).toNat = 100000000000000000000000000000 := by decide
 have o29 : B6 10 29 = true := by decide
 have b1 := n4 (x := stir c k) (show (0 : Int) < 4 by decide)
 have b2 := n4 (x := stir c (k + 1)) (show (0 : Int) < 1000 by decide)
 obtain ⟨x, e, hx⟩ := at4 0 1 (stir c (k + 1) % 1000) 100000000000000000000000000000 (stir c k % 4) b1.1 b1.2
 refine ⟨x, by omega, Z9 ?_⟩
 simp_arith [g7 c k hk, g7 c (k + 1) (by omega), i4, if_true, p29, o29, u6 (stir c (k + 1)) 1000 (by decide), u6 (stir c k) 4 (by decide), e]
theorem yr8 (c k : Int) (n : Nat) (hk : 0 <= k) (hn : n <= 300) : ∃ f : List Int, f.length <= n /\ zr3 [.int c, .int k, .int n] = some (.fr (f.map .int)) := by
 suffices h : ∃ es, zr3 [.int c, .int k, .int n] = some (.fr es) /\ ∃ f : List Int, f.length <= n /\ es = f.map .int by
  obtain ⟨es, e, f, hf, rfl⟩ := h
  exact ⟨f, hf, e⟩
 unfold zr3 b_Z14
 refine R0 ?_
 have i0 : 0 <= sizeLine := Nat.zero_le _
 have k1 : okR (n : Int) = true := O9 (by omega) (by omega)
 ((apply t7; focus (simp_arith [i0, if_true]; rfl)))
 refine S9 (X3 n (f := fun (j : Nat) => D.int (j : Int)) (by simp_arith [P3 k1, Int.toNat_natCast]; rw [zx6, map_map]; rfl)
  (I := fun j ρ => ∃ (f : List Int) (o4 o5 : Option S), f.length <= j /\ ρ = [some (.sh (.int c)), some (.sh (.int k)), some (.sh (.int (n : Int))), some (.own (f.map .int)), o4, o5]) _ ⟨[], _, _, Nat.le_refl _, rfl⟩ ?_ ?_)
 ·rintro j ρ hj ⟨f, o4, o5, hf, rfl⟩
  refine ⟨_, rfl, ?_⟩
  unfold zo8
  have m28 := n4 (x := (j : Int)) (show (0 : Int) < 28 by decide)
  have d28 : 0 <= (j : Int) / 28 := Int.ediv_nonneg (by omega) (by decide)
  have s1 := g7 c (k + 1 + (j : Int) / 28) (by omega)
  have s2 := g7 c (k + 13 + (j : Int) / 28) (by omega)
  have s0 := g7 c k hk
  have q1 := xv0 _ (zn8 (W8 c (k + 1 + (j : Int) / 28)) ((j : Int) % 28).toNat)
  obtain ⟨b0, e0⟩ : ∃ b, Builtin.bitAnd (stir c (k + 1 + (j : Int) / 28) / 2 ^ ((j : Int) % 28).toNat) 1 = b := ⟨_, rfl⟩
  rw [e0] at q1
  ((apply t7; focus (simp_arith [s1, W6 (j : Int) 28 (by decide) (by decide), u6 (j : Int) 28 (by decide), if_true, C7 (stir c (k + 1 + (j : Int) / 28)) ((j : Int) % 28) m28.1, e0]; rfl)))
  have l1 : (f.map D.int).length < sizeLine := by simp; have := g9; omega
  have fin : ∀ b : Int, Run (mif (l6 (m2 eqSD (mvar 5) (mc (.int 1)))) (mapp 3 (mvar 4)) Z1) [some (.sh (.int c)), some (.sh (.int k)), some (.sh (.int (n : Int))), some (.own (f.map .int)), some (.sh (.int (j : Int))), some (.sh (.int b))]
    (zt9 (fun (_ : List Unit) ρ => ∃ (f : List Int) (o4 o5 : Option S), f.length <= j + 1 /\ ρ = [some (.sh (.int c)), some (.sh (.int k)), some (.sh (.int (n : Int))), some (.own (f.map .int)), o4, o5]) (zn3 (S6 3) fun o => ∃ es, o = .rf es /\ ∃ f : List Int, f.length <= n /\ es = f.map .int) []) := by
   intro b
   by_cases hb : b = 1
   ·have e1 : (b == 1) = true := by rw [hb]; rfl
    refine ⟨_, by simp_arith [e1, l1, if_true]; rfl, ?_⟩
    refine ⟨f ++ [(j : Int)], some (.sh (.int (j : Int))), some (.sh (.int b)), by simp; omega, ?_⟩
    rw [map_append]
    rfl
   ·have e1 : (b == 1) = false := beq_eq_false_iff_ne.mpr hb
    refine ⟨_, by simp_arith [e1]; rfl, ?_⟩
    exact ⟨f, _, _, by omega, rfl⟩
  by_cases hs : 0 < stir c k % 3
  ·have mu : S5 b0 (Builtin.bitAnd (stir c (k + 13 + (j : Int) / 28) / 2 ^ ((j : Int) % 28).toNat) 1) = true := S4 _ _ (by omega) (by omega)
   ((apply t7; focus (simp_arith [s0, s2, u6 (stir c k) 3 (by decide), hs, decide_true, W6 (j : Int) 28 (by decide) (by decide), u6 (j : Int) 28 (by decide), if_true, C7 (stir c (k + 13 + (j : Int) / 28)) ((j : Int) % 28) m28.1, mu]; rfl)))
   exact fin _
  ·((apply t7; focus (simp_arith [s0, u6 (stir c k) 3 (by decide), hs, decide_false, if_true]; rfl)))
   exact fin _
 ·rintro ρ ⟨f, o4, o5, hf, rfl⟩
  exact C8 rfl ⟨_, rfl, f, hf, rfl⟩
theorem ym5 (w : Option Bool) (b : Bool) : ∃ t, eqS (wD w) (.bl b) = some t := by
 cases w with
 | none => exact ⟨false, rfl⟩
 | some i => exact ⟨i == b, rfl⟩
def envT (c k : Int) (row : List Int) (step : Int) (f : List Int) (w : Option Bool) (o6 o7 o8 o9 : Option S) : Ro := [some (.sh (.int c)), some (.sh (.int k)), some (.sh (.lst (row.map .int))), some (.sh (.int step)), some (.own (f.map .int)), some (.sh (wD w)), o6, o7, o8, o9]
theorem zq1 (c k : Int) (row : List Int) (step : Int) (hk : 0 <= k) (hn : row.length <= 300) : ∃ f : List Int, f.length <= row.length /\ m_Z3 [.int c, .int k, .lst (row.map .int), .int step] = some (.fr (f.map .int)) := by
 suffices h : ∃ es, m_Z3 [.int c, .int k, .lst (row.map .int), .int step] = some (.fr es) /\ ∃ f : List Int, f.length <= row.length /\ es = f.map .int by
  obtain ⟨es, e, f, hf, rfl⟩ := h
  exact ⟨f, hf, e⟩
 unfold m_Z3 b_Z3
 refine R0 ?_
 have i0 : 0 <= sizeLine := Nat.zero_le _
 ((apply t7; focus (simp_arith [i0, if_true]; rfl)))
 ((apply t7; focus (simp_arith []; rfl)))
 refine S9 (X3 row.length (f := fun (i : Nat) => D.tup [.int ((0 + i : Nat) : Int), .int (row.getD i 0)]) (by simp_arith [zu2])
  (I := fun j ρ => ∃ (f : List Int) (w : Option Bool) (o6 o7 o8 o9 : Option S), f.length <= j /\ (∀ p ∈ f, 0 <= p /\ p < row.length) /\ ρ = envT c k row step f w o6 o7 o8 o9) _ ⟨[], none, _, _, _, _, Nat.le_refl _, by simp, rfl⟩ ?_ ?_)
 ·rintro j ρ hj ⟨f, w, o6, o7, o8, o9, hf, hp, rfl⟩
  rw [show 0 + j = j by omega]
  refine ⟨_, rfl, ?_⟩
  unfold za7
  have m28 := n4 (x := (j : Int)) (show (0 : Int) < 28 by decide)
  have d28 : 0 <= (j : Int) / 28 := Int.ediv_nonneg (by omega) (by decide)
  have s1 := g7 c (k + (j : Int) / 28) (by omega)
  have l1 : (f.map D.int).length < sizeLine := by simp; have := g9; omega
  obtain ⟨passed, hpass⟩ : ∃ b, mand (m2 eqSD (m2 andD (m2 shrD (m5 c6 (z7 (mvar 0) (z7 (m2 addD (mvar 1) (m2 U3 (mvar 6) (mc (.int 28)))) anil))) (m2 modD (mvar 6) (mc (.int 28)))) (mc (.int 1))) (mc (.int 1))) (m2 gtD (m2 modD (mvar 6) (mc (.int 3))) (mc (.int 0)))
    (envT c k row step f w (some (.sh (.int (j : Int)))) (some (.sh (.int (row.getD j 0)))) o8 o9) = some (.bl b) :=
   ⟨_, yn6 (by unfold envT; simp_arith [s1, W6 (j : Int) 28 (by decide) (by decide), u6 (j : Int) 28 (by decide), if_true, C7 (stir c (k + (j : Int) / 28)) ((j : Int) % 28) m28.1]; rfl) (by unfold envT; simp_arith [u6 (j : Int) 3 (by decide), if_true]; rfl)⟩
  refine t7 (ρ' := envT c k row step f w (some (.sh (.int (j : Int)))) (some (.sh (.int (row.getD j 0)))) (some (.sh (.bl passed))) o9) (by unfold mset; show Option.map _ (mand _ _ (envT c k row step f w (some (.sh (.int (j : Int)))) (some (.sh (.int (row.getD j 0)))) o8 o9)) = _; rw [hpass]; rfl) ?_
  have keep : Run Z1 (envT c k row step f w (some (.sh (.int (j : Int)))) (some (.sh (.int (row.getD j 0)))) (some (.sh (.bl passed))) o9) (zt9 (fun (_ : List Unit) ρ => ∃ (f : List Int) (w : Option Bool) (o6 o7 o8 o9 : Option S), f.length <= j + 1 /\ (∀ p ∈ f, 0 <= p /\ p < row.length) /\ ρ = envT c k row step f w o6 o7 o8 o9) (zn3 (S6 4) fun o => ∃ es, o = .rf es /\ ∃ f : List Int, f.length <= row.length /\ es = f.map .int) []) :=
   C9 ⟨f, w, _, _, _, _, by omega, hp, rfl⟩
  have add : ∀ (w' : Option Bool) (o6 o7 o8 o9 : Option S), zt9 (fun (_ : List Unit) ρ => ∃ (f : List Int) (w : Option Bool) (o6 o7 o8 o9 : Option S), f.length <= j + 1 /\ (∀ p ∈ f, 0 <= p /\ p < row.length) /\ ρ = envT c k row step f w o6 o7 o8 o9) (zn3 (S6 4) fun o => ∃ es, o = .rf es /\ ∃ f : List Int, f.length <= row.length /\ es = f.map .int) []
    (.nx (envT c k row step (f ++ [(j : Int)]) w' o6 o7 o8 o9)) := fun w' o6 o7 o8 o9 => ⟨_, w', o6, o7, o8, o9, by simp; omega, by
     intro p hp'
     rcases List.mem_append.mp hp' with h | h
     ·exact hp p h
     ·rw [mem_singleton] at h; subst h; omega, rfl⟩
  unfold envT at add
  simp only [map_append, map_cons, map_nil] at add
  refine E6 (b := (f.map D.int).isEmpty && !passed) ?_ ?_
  ·unfold envT
   cases hE : (f.map D.int).isEmpty <;> simp_arith [ym4, i0, if_true, hE] <;> cases passed <;> rfl
  ·cases f with
   | nil =>
    cases passed with
    | false =>
     show Run (mapp 4 (mvar 6)) _ _
     unfold envT
     rw [map_nil, length_nil] at l1
     refine ⟨_, by simp_arith [l1, if_true]; rfl, ?_⟩
     exact add _ _ _ _ _
    | true =>
     show Run (mif _ _ Z1) _ _
     refine E6 (b := false) ?_ keep
     unfold envT
     simp_arith [zr5, i0, if_true]
   | cons p0 f0 =>
    show Run (mif _ _ Z1) _ _
    refine E6 (b := !passed) ?_ ?_
    ·unfold envT
     simp_arith [zr5, i0, if_true]
    ·cases passed with
     | true => exact keep
     | false =>
      show Run (mseq _ _) _ _
      obtain ⟨fi, pl, efl⟩ : ∃ fi pl, p0 :: f0 = fi ++ [pl] := ⟨_, _, (dropLast_concat_getLast (cons_ne_nil p0 f0)).symm⟩
      have hpl := hp pl (by rw [efl]; simp)
      have a1 : atI ((p0 :: f0).map D.int) (-1) = some (.int pl) := by rw [efl]; exact atI_last D.int fi pl
      have a2 := X9 D.int row pl hpl.1 hpl.2 0
      rw [map_cons] at a1
      unfold envT
      ((apply t7; focus (simp_arith [a1, a2]; rfl)))
      obtain ⟨far, efar⟩ : ∃ x, row.getD j 0 - row.getD pl.toNat 0 = x := ⟨_, rfl⟩
      rw [efar]
      obtain ⟨t, et⟩ := ym5 w (decide (0 < far))
      by_cases hst : step <= (far.natAbs : Int)
      ·cases t with
       | true =>
        refine E6 (b := false) (by simp_arith [J6, hst, decide_true, et]) ?_
        exact C9 ⟨p0 :: f0, w, _, _, _, _, by omega, hp, rfl⟩
       | false =>
        refine E6 (b := true) (by simp_arith [J6, hst, decide_true, et]) ?_
        show Run (mseq _ _) _ _
        ((apply t7; focus (simp_arith []; rfl)))
        rw [map_cons, length_cons] at l1
        refine ⟨_, by simp_arith [l1, if_true]; rfl, ?_⟩
        have := fun a b d e => add (some (decide (0 < far))) a b d e
        rw [map_cons, cons_append] at this
        exact this _ _ _ _
      ·refine E6 (b := false) (by simp_arith [J6, hst, decide_false]) ?_
       exact C9 ⟨p0 :: f0, w, _, _, _, _, by omega, hp, rfl⟩
 ·rintro ρ ⟨f, w, o6, o7, o8, o9, hf, hp, rfl⟩
  exact C8 rfl ⟨_, rfl, f, hf, rfl⟩
def LI (l : List Int) : D := .lst (l.map .int)
def envO (c k : Int) (pl : List Int) (size at_ to_ far any : Int) (found : S) (o9 o10 : Option S) : Ro := [some (.sh (.int c)), some (.sh (.int k)), some (.sh (.lst (pl.map .int))), some (.sh (.int size)), some (.sh (.int at_)), some (.sh (.int to_)), some (.sh (.int far)), some (.sh (.int any)), some found, o9, o10]
theorem yx9 (c k : Int) (pl : List Int) (size at_ to_ far any : Int) (ls : List (List Int)) (x : Int) (o10 : Option S) (hpl : pl.length <= 300) (hls : ls.length <= 100) (Q : Out -> Prop)
  (hQ : ∀ l1 l2 : List Int, l1.length <= 1000 -> l2.length <= 1000 -> ∀ o9 o10, Q (.nx (envO c k pl size at_ to_ far any (.own ((ls ++ [l1, l2]).map LI)) o9 o10))) :
  Run zq4 (envO c k pl size at_ to_ far any (.own (ls.map LI)) (some (.sh (.int x))) o10) Q := by
 have big := g9
 have i1 : 0 + 1 <= sizeLine := w6 (by decide)
 have h1 := V3 pl none (some at_)
 have h2 := V3 pl (some at_) none
 have h3 := V3 pl (some (at_ + 1)) none
 obtain ⟨c1, e1⟩ : ∃ r, cutI pl none (some at_) = r := ⟨_, rfl⟩
 obtain ⟨c2, e2⟩ : ∃ r, cutI pl (some at_) none = r := ⟨_, rfl⟩
 obtain ⟨c3, e3⟩ : ∃ r, cutI pl (some (at_ + 1)) none = r := ⟨_, rfl⟩
 rw [e1] at h1; rw [e2] at h2; rw [e3] at h3
 have g1 : c1.length + (0 + 1) <= sizeLine := w6 (by omega)
 have g2 : (c1.map D.int ++ [D.int x]).length + c2.length <= sizeLine := w6 (by simp; omega)
 have g3 : (c1.map D.int ++ [D.int x]).length + c3.length <= sizeLine := w6 (by simp; omega)
 have l1 : ls.length < sizeLine := by omega
 have l2 : (ls.map LI ++ [D.lst (c1.map D.int ++ [D.int x] ++ c2.map D.int)]).length < sizeLine := by simp; omega
 unfold zq4
 unfold envO
 ((apply t7; focus (simp_arith [d6, e1, e2, i1, if_true, length_map, g1, g2, l1]; rfl)))
 refine ⟨_, by simp_arith [d6, e1, e3, i1, if_true, length_map, g1, g3, l2]; rfl, ?_⟩
 have := fun a b => hQ (c1 ++ [x] ++ c2) (c1 ++ [x] ++ c3) (by simp; omega) (by simp; omega) a b
 unfold envO at this
 simp only [map_append, map_cons, map_nil, LI] at this
 simp only [append_assoc, cons_append, nil_append] at this ⊢
 exact this _ _
theorem yx8 (c k : Int) (pl : List Int) (size at_ to_ far any : Int) (ls : List (List Int)) (o9 o10 : Option S) (hpl : pl.length <= 300) (hls : ls.length <= 100) (ha : 0 <= at_) (ht : 0 <= to_) (hb : ∀ l ∈ ls, l.length <= 1000) :
  Run zq3 (envO c k pl size at_ to_ far any (.own (ls.map LI)) o9 o10) (fun o => ∃ es, o = .rf es /\ ∃ ls : List (List Int), ls.length <= 200 /\ (∀ l ∈ ls, l.length <= 1000) /\ es = ls.map LI) := by
 have big := g9
 have i0 : 0 <= sizeLine := Nat.zero_le _
 have i2 : 0 + 1 + 1 <= sizeLine := w6 (by decide)
 have g : ls.length + (0 + 1 + 1) <= sizeLine := w6 (by omega)
 have fin : ∀ tn : List Int, tn.length <= 1000 -> Run (X7 10 (zz0 (mcat (bvar 8) (v0 (z7 (mvar 10) (z7 (mlst (v0 anil)) anil)))))) [some (.sh (.int c)), some (.sh (.int k)), some (.sh (.lst (pl.map .int))), some (.sh (.int size)), some (.sh (.int at_)), some (.sh (.int to_)), some (.sh (.int far)), some (.sh (.int any)), some (.sh (.lst (ls.map LI))), o9, some (.own (tn.map .int))]
   (fun o => ∃ es, o = .rf es /\ ∃ ls : List (List Int), ls.length <= 200 /\ (∀ l ∈ ls, l.length <= 1000) /\ es = ls.map LI) := by
  intro tn htn
  refine E7 (ds := tn.map .int) rfl ?_
  refine ⟨_, by simp_arith [i0, i2, if_true, length_map, g]; rfl, _, rfl, ls ++ [tn, []], by simp; omega, ?_, ?_⟩
  ·intro l hl
   rcases List.mem_append.mp hl with h | h
   ·exact hb l h
   ·simp at h
    rcases h with h | h <;> subst h
    ·exact htn
    ·simp
  ·rw [map_append]; rfl
 unfold zq3
 refine E7 (ds := ls.map LI) rfl ?_
 unfold envO
 ((apply t7; focus (simp_arith []; rfl)))
 by_cases hm : max at_ to_ < (pl.length : Int)
 ·have a1 := X9 D.int pl at_ ha (by omega) 0
  have a2 := X9 D.int pl to_ ht (by omega) 0
  have x1 := zc3 (n := pl.length) ha (by omega)
  have x2 := zc3 (n := pl.length) ht (by omega)
  ((apply t7; focus (simp_arith [J2, length_map, hm, decide_true, a1, a2, i2, if_true, x1, x2]; rfl)))
  have := fin ((pl.set at_.toNat (pl.getD to_.toNat 0)).set to_.toNat (pl.getD at_.toNat 0)) (by simp; omega)
  rw [map_set, map_set] at this
  exact this
 ·((apply t7; focus (simp_arith [J2, length_map, hm, decide_false]; rfl)))
  exact fin pl (by omega)
theorem yd4 (c k : Int) (pl : List Int) (size : Int) (hk : 0 <= k) (hs : 0 <= size) (hpl : pl.length <= 300) : ∃ ls : List (List Int), ls.length <= 200 /\ (∀ l ∈ ls, l.length <= 1000) /\ m_Z0 [.int c, .int k, .lst (pl.map .int), .int size] = some (.fr (ls.map LI)) := by
 suffices h : ∃ es, m_Z0 [.int c, .int k, .lst (pl.map .int), .int size] = some (.fr es) /\ ∃ ls : List (List Int), ls.length <= 200 /\ (∀ l ∈ ls, l.length <= 1000) /\ es = ls.map LI by
  obtain ⟨es, e, ls, h1, h2, rfl⟩ := h
  exact ⟨ls, h1, h2, e⟩
 unfold m_Z0 b_Z0
 refine R0 ?_
 have big := g9
 have i3 : 0 + 1 + 1 + 1 <= sizeLine := w6 (by decide)
 have i5 : 0 + 1 + 1 + 1 + 1 + 1 <= sizeLine := w6 (by decide)
 have hl : (0 : Int) < (pl.length : Int) + 1 := by omega
 have bA := n4 (x := stir c k) hl
 have bT := n4 (x := stir c (k + 1)) hl
 obtain ⟨at_, eA⟩ : ∃ x, stir c k % ((pl.length : Int) + 1) = x := ⟨_, rfl⟩
 obtain ⟨to_, eT⟩ : ∃ x, stir c (k + 1) % ((pl.length : Int) + 1) = x := ⟨_, rfl⟩
 rw [eA] at bA
 rw [eT] at bT
 ((apply t7; focus (simp_arith [g7 c k hk, length_map, u6 (stir c k) ((pl.length : Int) + 1) hl, if_true, eA]; rfl)))
 ((apply t7; focus (simp_arith [g7 c (k + 1) (by omega), length_map, u6 (stir c (k + 1)) ((pl.length : Int) + 1) hl, if_true, eT]; rfl)))
 obtain ⟨far, hf, ef⟩ := yt7 c (k + 2) (by omega)
 ((apply t7; focus (simp_arith [ef]; rfl)))
 ((apply t7; focus (simp_arith [g7 c (k + 4) (by omega), u6 (stir c (k + 4)) (size + 1) (by omega), if_true]; rfl)))
 obtain ⟨any, ea⟩ : ∃ x, stir c (k + 4) % (size + 1) = x := ⟨_, rfl⟩
 rw [ea]
 have h1 := V3 pl none (some at_)
 have h2 := V3 pl (some at_) none
 have h3 := V3 pl (some (at_ + 1)) none
 have h4 := V3 pl (some (at_ - 1)) (some at_)
 obtain ⟨c1, e1⟩ : ∃ r, cutI pl none (some at_) = r := ⟨_, rfl⟩
 obtain ⟨c2, e2⟩ : ∃ r, cutI pl (some at_) none = r := ⟨_, rfl⟩
 obtain ⟨c3, e3⟩ : ∃ r, cutI pl (some (at_ + 1)) none = r := ⟨_, rfl⟩
 obtain ⟨c4, e4⟩ : ∃ r, cutI pl (some (at_ - 1)) (some at_) = r := ⟨_, rfl⟩
 rw [e1] at h1; rw [e2] at h2; rw [e3] at h3; rw [e4] at h4
 have g1 : c1.length + c3.length <= sizeLine := w6 (by omega)
 have g2 : c1.length + c4.length <= sizeLine := w6 (by omega)
 have g3 : (c1.map D.int ++ c4.map D.int).length + c2.length <= sizeLine := w6 (by simp; omega)
 refine t7 (ρ' := envO c k pl size at_ to_ far any (.own ([c1 ++ c3, c1 ++ c4 ++ c2, pl.reverse].map LI)) none none) ?_ ?_
 ·simp_arith [d6, e1, e2, e3, e4, length_map, g1, g2, g3, i3, if_true]
  unfold envO
  simp only [map_cons, map_nil, LI, map_append, map_reverse]
 refine S9 (S0 [any, -1, -1 - far, size, size + far] (f := D.int) (by unfold envO; simp_arith [i5, if_true])
  (I := fun xs ρ => ∃ (ls : List (List Int)) (o9 o10 : Option S), ls.length + 2 * xs.length <= 13 /\ (∀ l ∈ ls, l.length <= 1000) /\ ρ = envO c k pl size at_ to_ far any (.own (ls.map LI)) o9 o10) _ ⟨_, _, _, by simp, ?_, rfl⟩ ?_ ?_)
 ·intro l hl
  simp at hl
  rcases hl with h | h | h <;> subst h <;> simp <;> omega
 ·rintro x xs ρ ⟨ls, o9, o10, hn, hb, rfl⟩
  rw [length_cons] at hn
  refine ⟨_, rfl, yx9 c k pl size at_ to_ far any ls x o10 hpl (by omega) _ fun l1 l2 q1 q2 o9 o10 => ⟨ls ++ [l1, l2], o9, o10, by simp; omega, ?_, rfl⟩⟩
  intro l hl
  rcases List.mem_append.mp hl with h | h
  ·exact hb l h
  ·simp at h
   rcases h with h | h <;> subst h <;> assumption
 ·rintro ρ ⟨ls, o9, o10, hn, hb, rfl⟩
  exact yx8 c k pl size at_ to_ far any ls o9 o10 hpl (by simp at hn; omega) bA.1 bT.1 hb
end
section
open PySem L2
def lx : List Nat -> List Nat -> Bool
 | [], [] => false
 | [], _ :: _ => true
 | _ :: _, [] => false
 | a :: l, b :: m => decide (a < b) || (a == b && lx l m)
def far (s : Int) (d : Bool) (a b : Int) : Prop := if d then s <= b - a else s <= a - b
instance (s : Int) (d : Bool) (a b : Int) : Decidable (far s d a b) := by unfold far; exact inferInstance
section
variable {x : Nat -> Int} {n : Nat} {s : Int}
end
def num (row : List Int) (p : Int) : Int := row.getD p.toNat 0
def S3 (ns : List Int) : List (Int × Int) := ns.zip (ns.drop 1)
def V2 (step : Int) (p : Int × Int) : Bool := decide (step <= ((p.2 - p.1).natAbs : Int))
theorem zs3 {n : Nat} : ∀ {l : Int} {ps : List Int}, 0 <= l -> pok n l ps = true -> ∀ p ∈ ps, 0 <= p /\ p < n
 | l, [], _, _, p, hp => by simp at hp
 | l, q :: ps, hl, h, p, hp => by
  simp only [pok] at h
  split at h
  ·cases h
  ·rename_i hn
   rcases List.mem_cons.mp hp with rfl | hp
   ·omega
   ·exact zs3 (by omega) h p hp
theorem zy6 : ∀ (as bs : List Int), List.zipWith (fun d e => D.tup [d, e]) (as.map .int) (bs.map .int) = (as.zip bs).map fun p => .tup [.int p.1, .int p.2]
 | [], _ => by simp
 | _ :: _, [] => by simp
 | a :: as, b :: bs => by simp [zy6 as bs]
theorem F7 (ns : List Int) (step : Int) : m_Z4 [.lst (ns.map .int), .int step] = some (.sh (.bl ((S3 ns).all (V2 step) && decide ((((trip ns).filter turn).length : Int) = max 0 ((ns.length : Int) - 2))))) := by
 unfold m_Z4 b_Z4
 refine Z9 ?_
 have c1 : cutI ns (some 1) none = ns.drop 1 := Q6 _ 1
 refine P2 (S3 ns) (f := fun p => .tup [.int p.1, .int p.2]) (by simp_arith [d6, c1, zy6]; rfl)
  (I := fun ps ρ => ∃ x y, ρ = [some (.sh (.lst (ns.map .int))), some (.sh (.int step)), x, y] /\ (S3 ns).all (V2 step) = ps.all (V2 step))
  (Q := fun o => (∃ x y, o = .nx [some (.sh (.lst (ns.map .int))), some (.sh (.int step)), x, y] /\ (S3 ns).all (V2 step) = true) \/ (o = .rt (.bl false) /\ (S3 ns).all (V2 step) = false))
  ⟨none, none, rfl, rfl⟩ ?_ ?_ ?_
 ·rintro ⟨a, b⟩ ps ρ ⟨x, y, rfl, e⟩
  rw [all_cons] at e
  by_cases h2 : ((b - a).natAbs : Int) < step
  ·have hf : V2 step (a, b) = false := by unfold V2; exact decide_eq_false (by omega)
   rw [hf, Bool.false_and] at e
   exact ⟨_, .rt (.bl false), rfl, by unfold zq2; simp_arith [J6, h2, decide_true], Or.inr ⟨rfl, e⟩⟩
  ·have hf : V2 step (a, b) = true := by unfold V2; exact decide_eq_true (by omega)
   rw [hf, Bool.true_and] at e
   exact ⟨_, .nx _, rfl, by unfold zq2; simp_arith [J6, h2, decide_false]; rfl, _, _, rfl, e⟩
 ·rintro ρ ⟨x, y, rfl, e⟩
  exact Or.inl ⟨x, y, rfl, e⟩
 ·rintro o (⟨x, y, rfl, e⟩ | ⟨rfl, e⟩)
  ·rw [e, Bool.true_and]
   unfold after
   simp_arith [zt7, length_map, J2]
   rfl
  ·rw [e]; rfl
def altW (step : Int) : Option Bool -> List Int -> Bool
 | way, a :: b :: r => if ((b - a).natAbs : Int) < step \/ way = some (decide (0 < b - a)) then false else altW step (some (decide (0 < b - a))) (b :: r)
 | _, _ => true
theorem K1 : ∀ ns : List Int, (trip ns).length = ns.length - 2
 | [] => rfl
 | [_] => rfl
 | [_, _] => rfl
 | a :: b :: c :: r => by
  have := K1 (b :: c :: r)
  simp only [trip, length_cons] at this ⊢
  omega
theorem zj1 (ts : List (Int × Int × Int)) (n : Nat) (h : ts.length = n - 2) : decide (((ts.filter turn).length : Int) = max 0 ((n : Int) - 2)) = ts.all turn := by
 have e : max 0 ((n : Int) - 2) = (ts.length : Int) := by omega
 rw [e]
 have : ((((ts.filter turn).length : Int) = (ts.length : Int)) ↔ ts.all turn = true) := by
  rw [Int.natCast_inj, length_filter_eq_length_iff, all_eq_true]
 cases h2 : ts.all turn with
 | true => exact decide_eq_true (this.mpr h2)
 | false => exact decide_eq_false fun h3 => by rw [this.mp h3] at h2; cases h2
theorem zt6 (step : Int) (hs : 1 <= step) : ∀ (r : List Int) (a b : Int), step <= ((b - a).natAbs : Int) -> altW step (some (decide (0 < b - a))) (b :: r) = ((S3 (b :: r)).all (V2 step) && (trip (a :: b :: r)).all turn)
 | [], a, b, h => by simp [altW, S3, trip]
 | c :: r, a, b, h => by
  have ih := zt6 step hs r b c
  have hp : S3 (b :: c :: r) = (b, c) :: S3 (c :: r) := by simp [S3]
  simp only [altW, hp, trip, all_cons]
  by_cases h1 : ((c - b).natAbs : Int) < step
  ·rw [if_pos (Or.inl h1)]
   have : V2 step (b, c) = false := by unfold V2; exact decide_eq_false (by simp only; omega)
   rw [this]; rfl
  ·have hf : V2 step (b, c) = true := by unfold V2; exact decide_eq_true (by simp only; omega)
   rw [hf, Bool.true_and]
   by_cases h2 : some (decide (0 < b - a)) = some (decide (0 < c - b))
   ·rw [if_pos (Or.inr h2)]
    have h3 : (0 < b - a) ↔ (0 < c - b) := by simpa using h2
    have : turn (a, b, c) = false := by unfold turn; simp only [Bool.or_eq_false_iff, decide_eq_false_iff_not]; omega
    rw [this, Bool.false_and, Bool.and_false]
   ·rw [if_neg (by simp only [h1, h2, or_self, not_false_eq_true]), ih (by omega)]
    have h3 : ¬ ((0 < b - a) ↔ (0 < c - b)) := by simpa using h2
    have : turn (a, b, c) = true := by
     unfold turn
     simp only [Bool.or_eq_true, decide_eq_true_eq]
     omega
    rw [this, Bool.true_and]
theorem yz2 (step : Int) (hs : 1 <= step) (ns : List Int) : altW step none ns = ((S3 ns).all (V2 step) && (trip ns).all turn) := by
 match ns with
 | [] => rfl
 | [a] => simp [altW, S3, trip]
 | a :: b :: r =>
  have hp : S3 (a :: b :: r) = (a, b) :: S3 (b :: r) := by simp [S3]
  simp only [altW, hp, all_cons]
  by_cases h1 : ((b - a).natAbs : Int) < step
  ·rw [if_pos (Or.inl h1)]
   have : V2 step (a, b) = false := by unfold V2; exact decide_eq_false (by simp only; omega)
   rw [this]; rfl
  ·have hf : V2 step (a, b) = true := by unfold V2; exact decide_eq_true (by simp only; omega)
   rw [if_neg (by simp [h1]), hf, Bool.true_and, zt6 step hs r a b (by omega)]
theorem ym3 {s : Int} (hs : 1 <= s) {d : Bool} {a b : Int} (h : far s d a b) : ¬ ((b - a).natAbs : Int) < s /\ decide (0 < b - a) = d := by
 unfold far at h
 cases d
 ·simp only [Bool.false_eq_true, if_false] at h
  exact ⟨by omega, decide_eq_false (by omega)⟩
 ·simp only [if_true] at h
  exact ⟨by omega, decide_eq_true (by omega)⟩
theorem zj2 {s : Int} {a b : Int} (h : ¬ ((b - a).natAbs : Int) < s) : far s (decide (0 < b - a)) a b := by
 unfold far
 by_cases z : 0 < b - a
 ·rw [decide_eq_true z]; simp; omega
 ·rw [decide_eq_false z]; simp; omega
section
variable {x : Nat -> Int} {n : Nat} {s : Int}
end
section
variable {x : Nat -> Int} {n : Nat} {s : Int}
end
section
variable {x : Nat -> Int} {n : Nat} {s : Int}
end
section
variable {x : Nat -> Int} {n : Nat} {s : Int}
end
section
variable {x : Nat -> Int} {n : Nat} {s : Int}
end
section
variable {x : Nat -> Int} {n : Nat} {s : Int}
end
section
variable {x : Nat -> Int} {n : Nat} {s : Int}
end
def dir (d : Bool) (i : Nat) : Bool := if i % 2 = 0 then d else !d
theorem zo1 (d : Bool) (i : Nat) : dir d (i + 1) = !dir d i := by
 unfold dir
 rcases Nat.mod_two_eq_zero_or_one i with h | h
 ·rw [if_neg (by omega), if_pos h]
 ·rw [if_pos (by omega), if_neg (by omega), Bool.not_not]
theorem zb1 (d : Bool) (i : Nat) : dir (!d) i = !dir d i := by
 unfold dir; split <;> simp
theorem ym8 (d : Bool) {i j : Nat} (h : i % 2 = j % 2) : dir d i = dir d j := by unfold dir; rw [h]
def Cf (s : Int) (m : Nat) (u : Nat -> Int) : Prop := m % 2 = 0 /\ ∃ d, ∀ i, i < m -> far s (dir d i) (u i) (u ((i + 1) % m))
def Cx (s : Int) (v : List Int) : Prop := Cf s v.length fun i => v.getD i 0
theorem yb6 {s : Int} (hs : 1 <= s) {d e : Bool} {a b : Int} (h1 : far s d a b) (h2 : far s e a b) : d = e := by
 unfold far at h1 h2
 cases d <;> cases e <;> simp at h1 h2 ⊢ <;> omega
theorem U5 {s : Int} (hs : 1 <= s) {w : Option Bool} {a b : Int} {r : List Int} : altW s w (a :: b :: r) = true ↔ ∃ e, far s e a b /\ w ≠ some e /\ altW s (some e) (b :: r) = true := by
 rw [altW]
 constructor
 ·intro h
  split at h
  ·cases h
  ·rename_i z
   exact ⟨_, zj2 fun y => z (.inl y), fun y => z (.inr y), h⟩
 ·rintro ⟨e, h1, h2, h3⟩
  obtain ⟨f1, f2⟩ := ym3 hs h1
  rw [f2, if_neg]
  ·exact h3
  ·rintro (y | y)
   ·exact f1 y
   ·exact h2 y
theorem D8 {s : Int} (hs : 1 <= s) : ∀ (r : List Int) (a : Int) (d : Bool), altW s (some (!d)) (a :: r) = true ↔ ∀ i, i < r.length -> far s (dir d i) ((a :: r).getD i 0) ((a :: r).getD (i + 1) 0)
 | [], a, d => by
  constructor
  ·intro _ i hi; simp at hi
  ·intro _; rfl
 | b :: r, a, d => by
  have ih := D8 hs r b (!d)
  rw [Bool.not_not] at ih
  rw [U5 hs]
  constructor
  ·rintro ⟨e, h1, h2, h3⟩
   have : e = d := by cases e <;> cases d <;> simp at h2 ⊢
   subst this
   intro i hi
   cases i with
   | zero => exact h1
   | succ i =>
    have := ih.mp h3 i (by simpa using hi)
    rw [zo1, <- zb1]
    exact this
  ·intro h
   refine ⟨d, h 0 (by simp), by cases d <;> simp, ih.mpr fun i hi => ?_⟩
   have := h (i + 1) (by simpa using hi)
   rw [zo1, <- zb1] at this
   exact this
theorem D9 {s : Int} (hs : 1 <= s) (w : List Int) : altW s none w = true ↔ ∃ d, ∀ i, i + 1 < w.length -> far s (dir d i) (w.getD i 0) (w.getD (i + 1) 0) := by
 match w with
 | [] => exact ⟨fun _ => ⟨true, fun i hi => by simp at hi⟩, fun _ => rfl⟩
 | [a] => exact ⟨fun _ => ⟨true, fun i hi => by simp at hi⟩, fun _ => rfl⟩
 | a :: b :: r =>
  have key : ∀ d, altW s (some (!d)) (a :: b :: r) = true ↔ ∀ i, i < (b :: r).length -> far s (dir d i) ((a :: b :: r).getD i 0) ((a :: b :: r).getD (i + 1) 0) := D8 hs (b :: r) a
  constructor
  ·intro h
   obtain ⟨e, h1, _, h3⟩ := (U5 hs).mp h
   refine ⟨e, fun i hi => (key e).mp ((U5 hs).mpr ⟨e, h1, by cases e <;> simp, h3⟩) i (by simp at hi ⊢; omega)⟩
  ·rintro ⟨d, h⟩
   obtain ⟨e, h1, _, h3⟩ := (U5 hs).mp ((key d).mpr fun i hi => h i (by simp at hi ⊢; omega))
   exact (U5 hs).mpr ⟨e, h1, by simp, h3⟩
theorem zh8 {s : Int} (hs : 1 <= s) (v : List Int) : altW s none (v ++ v.take 2) = true ↔ Cx s v := by
 rw [D9 hs]
 match v with
 | [] => exact ⟨fun _ => ⟨rfl, true, fun i hi => by simp at hi⟩, fun _ => ⟨true, fun i hi => by simp at hi⟩⟩
 | [a] =>
  constructor
  ·rintro ⟨d, h⟩
   have := h 0 (by simp)
   exfalso
   unfold far dir at this
   simp at this
   omega
  ·rintro ⟨h, _⟩
   simp at h
 | a :: b :: r =>
  have hl : ((a :: b :: r) ++ (a :: b :: r).take 2).length = (a :: b :: r).length + 2 := by simp
  have hg : ∀ i, i < (a :: b :: r).length + 2 -> ((a :: b :: r) ++ (a :: b :: r).take 2).getD i 0 = (a :: b :: r).getD (i % (a :: b :: r).length) 0 := fun i hi => by
   rw [getD_eq_getElem?_getD, getD_eq_getElem?_getD]
   congr 1
   rcases Nat.lt_or_ge i (a :: b :: r).length with z | z
   ·rw [getElem?_append_left z, Nat.mod_eq_of_lt z]
   ·rw [getElem?_append_right z]
    have e : i % (a :: b :: r).length = i - (a :: b :: r).length := by
     rw [Nat.mod_eq_sub_mod z, Nat.mod_eq_of_lt (by simp at hi ⊢; omega)]
    rw [e, getElem?_take_of_lt (by omega)]
  have h2 : 2 <= (a :: b :: r).length := by simp
  generalize hw : (a :: b :: r) = w at *
  have hm1 : ∀ i, (i + 1) % w.length = (i % w.length + 1) % w.length := fun i => by rw [Nat.mod_add_mod]
  constructor
  ·rintro ⟨d, h⟩
   have f0 := h 0 (by omega)
   have fm := h w.length (by omega)
   rw [hg _ (by omega), hg _ (by omega)] at f0 fm
   rw [hm1 w.length, Nat.mod_self] at fm
   rw [Nat.zero_mod] at f0
   have := yb6 hs f0 fm
   have hev : w.length % 2 = 0 := by
    rcases Nat.mod_two_eq_zero_or_one w.length with z | z
    ·exact z
    ·unfold dir at this
     rw [if_pos rfl, if_neg (by omega)] at this
     cases d <;> simp at this
   refine ⟨hev, d, fun i hi => ?_⟩
   have := h i (by omega)
   rw [hg _ (by omega), hg _ (by omega), Nat.mod_eq_of_lt hi] at this
   exact this
  ·rintro ⟨hev, d, h⟩
   refine ⟨d, fun i hi => ?_⟩
   rw [hl] at hi
   rw [hg _ (by omega), hg _ (by omega)]
   have := h (i % w.length) (Nat.mod_lt _ (by omega))
   rw [<- hm1, ym8 d (Nat.mod_mod_of_dvd i (show 2 ∣ w.length by omega))] at this
   exact this
theorem yb3 (ns : List Int) (s : Int) (hs : 1 <= s) : m_Z4 [.lst (ns.map .int), .int s] = some (.sh (.bl (altW s none ns))) := by
 rw [F7, yz2 s hs, zj1 _ ns.length (K1 ns)]
end
section
open PySem L2
abbrev RI (r : List Int) : D := .lst (r.map .int)
theorem zp6 {c : MB} {x y : MS} {ρ : Ro} (h : c ρ = some true) : mif c x y ρ = x ρ := by unfold mif; rw [h]
theorem yw6 {x : ME} {ρ : Ro} {d : D} (h : x ρ = some d) : P8 x ρ = some (.nx ρ) := by unfold P8; rw [h]; rfl
theorem G2 (step : Int) (h : 1 <= step) : m_Z5 [.int step] = some (.sh .non) := by
 have : ¬ step < 1 := by omega
 unfold m_Z5 b_Z5
 simp_arith [this, decide_false]
def wr (row : List Int) (s : Int) (ps : List Int) : Bool := pok row.length 0 ps && altW s none (ps.map (num row) ++ (ps.map (num row)).take 2)
theorem C4 (row ps : List Int) (s : Int) (hs : 1 <= s) (hl : ps.length <= 2000) : m_Z8 [RI row, .int s, RI ps] = some (.sh (.bl (wr row s ps))) := by
 have big := g9
 unfold m_Z8 b_Z8
 refine Z9 ?_
 refine seqI (ρ' := [some (.sh (RI row)), some (.sh (.int s)), some (.sh (RI ps)), none]) (yw6 (Z5 (f := m_Z5) (z9 (d := .int s) rfl x9) (G2 s hs))) ?_
 have ep := zy5 row ps
 unfold wr
 cases hpk : pok row.length 0 ps with
 | false =>
  rw [hpk] at ep
  refine seqR ?_
  rw [zp6 ((zq0 (b := false) (zs9 (Z5 (z9 (d := RI row) rfl (z9 (d := RI ps) rfl x9)) ep))).trans rfl)]
  exact A9 rfl
 | true =>
  rw [hpk] at ep
  refine seqI (ρ' := [some (.sh (RI row)), some (.sh (.int s)), some (.sh (RI ps)), none]) (W4 ((zq0 (b := true) (zs9 (Z5 (z9 (d := RI row) rfl (z9 (d := RI ps) rfl x9)) ep))).trans rfl)) ?_
  have hm := zs3 (Int.le_refl 0) hpk
  have ec : Q0 [none, some 0] (l9 (mvar 2)) (.nm 0) cyes (mix (bvar 1) (mvar 0)) [some (.sh (RI row)), some (.sh (.int s)), some (.sh (RI ps)), none] = some ((ps.map (num row)).map .int) := by
   unfold Q0
   rw [e6 (ds := ps.map .int) rfl, Option.bind_some]
   refine (Q7 (f := D.int) (G := fun p => D.int (num row p)) (fun qs ρ => (∀ p ∈ qs, 0 <= p /\ p < row.length) /\ ∃ x, ρ = [x, some (.sh (RI row))]) (by
    rintro p qs ρ ⟨hp, x, rfl⟩
    have := hp p (by simp)
    exact ⟨[some (.sh (.int p)), some (.sh (RI row))], rfl, rfl, d8 (ds := row.map .int) (k := p) rfl rfl (X9 D.int row p this.1 this.2 0), fun q hq => hp q (by simp [hq]), _, rfl⟩) ps _ [] ⟨hm, none, rfl⟩ (by simp; omega)).trans ?_
   rw [nil_append, map_map]
   rfl
  refine seqI (ρ' := [some (.sh (RI row)), some (.sh (.int s)), some (.sh (RI ps)), some (.sh (RI (ps.map (num row))))]) ((c8 (l7 ec)).trans rfl) ?_
  have ecut : mcut (bvar 3) Z0 (d5 (mc (.int 2))) [some (.sh (RI row)), some (.sh (.int s)), some (.sh (RI ps)), some (.sh (RI (ps.map (num row))))] = some (((ps.map (num row)).take 2).map .int) := by
   have : cutL ((ps.map (num row)).map D.int) none (some ((2 : Nat) : Int)) = ((ps.map (num row)).take 2).map .int := by rw [d6, zz4]
   unfold mcut
   exact congrArg some this
  have ecat := l7 (U2 (show bvar 3 [some (.sh (RI row)), some (.sh (.int s)), some (.sh (RI ps)), some (.sh (RI (ps.map (num row))))] = some ((ps.map (num row)).map .int) from rfl) ecut (by simp; omega))
  rw [<- map_append] at ecat
  exact A9 (Z5 (z9 ecat (z9 (d := .int s) rfl x9)) (yb3 _ s hs))
theorem yz9 {s : Int} (hs : 1 <= s) (v : List Int) : (altW s none (v ++ v.take 1) = true /\ v.length % 2 = 0) ↔ Cx s v := by
 rw [D9 hs]
 unfold Cx Cf
 have hg : ∀ i, i < v.length + 1 -> 0 < v.length -> (v ++ v.take 1).getD i 0 = v.getD (i % v.length) 0 := fun i hi h0 => by
  rw [getD_eq_getElem?_getD, getD_eq_getElem?_getD]
  congr 1
  rcases Nat.lt_or_ge i v.length with z | z
  ·rw [getElem?_append_left z, Nat.mod_eq_of_lt z]
  ·have : i = v.length := by omega
   subst this
   rw [getElem?_append_right (Nat.le_refl _), Nat.sub_self, Nat.mod_self, getElem?_take_of_lt (by omega)]
 have hl : (v ++ v.take 1).length = v.length + min 1 v.length := by simp
 constructor
 ·rintro ⟨⟨d, h⟩, h2⟩
  refine ⟨h2, d, fun i hi => ?_⟩
  have := h i (by rw [hl]; omega)
  rw [hg i (by omega) (by omega), hg (i + 1) (by omega) (by omega), Nat.mod_eq_of_lt hi] at this
  exact this
 ·rintro ⟨h2, d, h⟩
  refine ⟨⟨d, fun i hi => ?_⟩, h2⟩
  rw [hl] at hi
  have hi' : i < v.length := by omega
  have := h i hi'
  rw [hg i (by omega) (by omega), hg (i + 1) (by omega) (by omega), Nat.mod_eq_of_lt hi']
  exact this
theorem zm8 {s : Int} (hs : 1 <= s) (v : List Int) : (altW s none (v ++ v.take 1) && decide (v.length % 2 = 0)) = altW s none (v ++ v.take 2) := by
 rw [Bool.eq_iff_iff, zh8 hs, <- yz9 hs, Bool.and_eq_true, decide_eq_true_eq]
end
section
open PySem L2
theorem U0 {i : Nat} {x : ML} {ρ : Ro} {ds : List D} (h : x ρ = some ds) : U1 i x ρ = some (.nx (ρ.set i (some (.own ds)))) := by unfold U1; rw [h]; rfl
theorem X6 {m : ML} {ρ : Ro} {ds : List D} (h : m ρ = some ds) : mlen m ρ = some (.int ds.length) := by unfold mlen; rw [h]; rfl
theorem yu0 {α : Type} (A : List α) (x : α) : cutI (A ++ [x]) (some (-1)) none = [x] := by
 unfold cutI HT.sIx
 simp
 have : ((-1 : Int) + ((A.length : Int) + 1)).toNat = A.length := by omega
 rw [this]
 simp
theorem zb6 {α : Type} : cutI ([] : List α) (some (-1)) none = [] := by unfold cutI; simp
def wsD (ws : List Bool) : List D := ws.map .bl
def eR (row : List Int) (s : Int) (ps : List Int) (last : Int) (o4 : Option S) (ws : List Bool) (o6 o7 o8 : Option S) : Ro := [some (.sh (.lst (row.map .int))), some (.sh (.int s)), some (.sh (RI ps)), some (.sh (.int last)), o4, some (.own (wsD ws)), o6, o7, o8]
theorem ym7 {ρ : Ro} {ws : List Bool} {b : Bool} {v : ME} (hw : ρ[5]? = some (some (.own (wsD ws)))) (hv : v ρ = some (.bl b)) : l6 (meqB false (mcut (bvar 5) (d5 (m1 negD (mc (.int 1)))) Z0) (v0 (z7 v anil))) ρ = some (decide (ws.getLast? = some b)) := by
 have i1 : 0 + 1 <= sizeLine := w6 (by decide)
 have e1 : mcut (bvar 5) (d5 (m1 negD (mc (.int 1)))) Z0 ρ = some ((cutI ws (some (-1)) none).map .bl) := by
  have hb : bvar 5 ρ = some (wsD ws) := by unfold bvar; rw [hw]
  unfold mcut
  rw [hb]
  show some (cutL (wsD ws) (some (-1)) none) = _
  unfold wsD
  rw [d6]
 have e2 := u8 (z9 hv x9) i1
 unfold l6 meqB
 rw [e1, e2]
 simp only [Option.bind_some]
 cases hws : ws.getLast? with
 | none =>
  rw [getLast?_eq_none_iff] at hws
  subst hws
  rw [zb6]
  rfl
 | some a =>
  obtain ⟨A, rfl⟩ := List.getLast?_eq_some_iff.mp hws
  rw [yu0]
  show (match (eqF 8 (.lst [.bl a]) (.lst [.bl b])).map (fun k => D.bl (if false then !k else k)) with | some (.bl b) => some b | _ => none) = _
  have : eqF 8 (.lst [.bl a]) (.lst [.bl b]) = some (a == b) := by
   show (if _ = _ then zipE (eqF 7) [.bl a] [.bl b] else some false) = _
   rw [if_pos (by rfl)]
   show (some (a == b)).bind (fun r => (zipE (eqF 7) [] []).map fun k => r && k) = _
   simp [zipE]
  rw [this]
  simp only [Bool.false_eq_true, if_false, Option.map_some, Option.some.injEq]
  rw [Bool.eq_iff_iff, beq_iff_eq, decide_eq_true_eq]
def rbi (x : Int -> Int) (s : Int) : Option Bool -> List (Int × Int) -> Bool
 | _, [] => true
 | w, (a, b) :: ps => if ((x b - x a).natAbs : Int) < s \/ w = some (decide (0 < x b - x a)) then false else rbi x s (some (decide (0 < x b - x a))) ps
theorem zg1 (x : Int -> Int) (s : Int) : ∀ (ps : List Int) (a z : Int) (w : Option Bool), rbi x s w ((a :: ps).zip (ps ++ [z])) = altW s w ((a :: ps).map x ++ [x z])
 | [], a, z, w => by
  show rbi x s w [(a, z)] = altW s w [x a, x z]
  rw [rbi, altW]
  rfl
 | b :: ps, a, z, w => by
  show rbi x s w ((a, b) :: (b :: ps).zip (ps ++ [z])) = altW s w (x a :: x b :: (ps.map x ++ [x z]))
  rw [rbi, altW, zg1 x s ps b z]
  rfl
theorem yq5 (x : Int -> Int) (s : Int) (ps : List Int) : rbi x s none (ps.zip (ps.drop 1 ++ ps.take 1)) = altW s none (ps.map x ++ (ps.map x).take 1) := by
 cases ps with
 | nil => rfl
 | cons a ps => exact zg1 x s ps a a none
def rbI (row : List Int) (s : Int) (ps : List Int) : Bool := rbi (num row) s none (ps.zip (ps.drop 1 ++ ps.take 1)) && ps.length % 2 == 0
theorem zv6 (row : List Int) (s : Int) (ps : List Int) (hs : 1 <= s) (hl : ps.length <= 2000) : zd5 [.lst (row.map .int), .int s, RI ps] = some (.sh (.bl (wr row s ps))) := by
 have big := g9
 have ew : wr row s ps = (pok row.length 0 ps && rbI row s ps) := by
  unfold wr rbI
  rw [yq5, <- zm8 hs, length_map]
  congr 2
 rw [ew]
 unfold zd5 b_Z11
 refine Z9 ?_
 refine seqI (ρ' := [some (.sh (.lst (row.map .int))), some (.sh (.int s)), some (.sh (RI ps)), some (.sh (.int (-1))), none, none, none, none, none]) rfl ?_
 refine P2 ps (f := D.int) rfl (I := fun ks ρ => ∃ last o4, ρ = [some (.sh (.lst (row.map .int))), some (.sh (.int s)), some (.sh (RI ps)), some (.sh (.int last)), o4, none, none, none, none] /\ pok row.length 0 ps = pok row.length (last + 1) ks)
  (Q := fun o => (∃ last o4, o = .nx [some (.sh (.lst (row.map .int))), some (.sh (.int s)), some (.sh (RI ps)), some (.sh (.int last)), o4, none, none, none, none] /\ pok row.length 0 ps = true) \/ (o = .rt (.bl false) /\ pok row.length 0 ps = false)) ⟨-1, none, rfl, rfl⟩ ?_ ?_ ?_
 ·rintro p ks ρ ⟨last, o4, rfl, h1⟩
  rw [pok] at h1
  by_cases z : p < last + 1 \/ (row.length : Int) <= p
  ·rw [if_pos z] at h1
   refine ⟨_, .rt (.bl false), rfl, ?_, .inr ⟨rfl, h1⟩⟩
   unfold zy4
   rcases z with z | z
   ·have c1 : p <= last := by omega
    simp_arith [length_map, c1, decide_true, Bool.true_or]
   ·by_cases c1 : p <= last
    ·simp_arith [length_map, c1, decide_true, Bool.true_or]
    ·simp_arith [length_map, c1, z, decide_true, decide_false, Bool.or_true]
  ·rw [if_neg z] at h1
   refine ⟨_, .nx [some (.sh (.lst (row.map .int))), some (.sh (.int s)), some (.sh (RI ps)), some (.sh (.int p)), some (.sh (.int p)), none, none, none, none], rfl, ?_, p, _, rfl, h1⟩
   unfold zy4
   have c1 : ¬ p <= last := fun y => z (.inl (by omega))
   have c2 : ¬ (row.length : Int) <= p := fun y => z (.inr y)
   simp_arith [length_map, c1, c2, decide_false, Bool.or_self]
 ·rintro ρ ⟨last, o4, rfl, h⟩
  exact .inl ⟨last, o4, rfl, h⟩
 ·rintro o (⟨last, o4, rfl, hpk⟩ | ⟨rfl, hpk⟩)
  rotate_left
  ·rw [hpk]; rfl
  have hm := zs3 (Int.le_refl 0) hpk
  rw [hpk, Bool.true_and]
  show zy3 _ = _
  unfold zy3
  refine seqI (ρ' := eR row s ps last o4 [] none none none) ((U0 (u8 x9 (Nat.zero_le _))).trans rfl) ?_
  have ez : j8 zip2 (z7 (mvar 2) (z7 (mlst (mcat (mcut (bvar 2) (d5 (mc (.int 1))) Z0) (mcut (bvar 2) Z0 (d5 (mc (.int 1)))))) anil)) (eR row s ps last o4 [] none none none) = some ((ps.zip (ps.drop 1 ++ ps.take 1)).map fun ab => D.tup [D.int ab.1, D.int ab.2]) := by
   have e1 : mcut (bvar 2) (d5 (mc (.int 1))) Z0 (eR row s ps last o4 [] none none none) = some ((ps.drop 1).map D.int) := by
    have : cutL (ps.map D.int) (some ((1 : Nat) : Int)) none = (ps.drop 1).map D.int := by rw [d6, Q6]
    unfold mcut
    exact congrArg some this
   have e2 : mcut (bvar 2) Z0 (d5 (mc (.int 1))) (eR row s ps last o4 [] none none none) = some ((ps.take 1).map D.int) := by
    have : cutL (ps.map D.int) none (some ((1 : Nat) : Int)) = (ps.take 1).map D.int := by rw [d6, zz4]
    unfold mcut
    exact congrArg some this
   have e3 := l7 (U2 e1 e2 (by simp; omega))
   rw [<- map_append] at e3
   unfold j8
   rw [z9 (d := RI ps) rfl (z9 e3 x9), Option.bind_some]
   show some (List.zipWith (fun d e => D.tup [d, e]) (ps.map D.int) ((ps.drop 1 ++ ps.take 1).map D.int)) = _
   rw [zipWith_map, zip_eq_zipWith, map_zipWith]
  refine P2 (ps.zip (ps.drop 1 ++ ps.take 1)) (f := fun ab => D.tup [D.int ab.1, D.int ab.2]) ez
   (I := fun qs ρ => ∃ ws o6 o7 o8, ρ = eR row s ps last o4 ws o6 o7 o8 /\ ws.length + qs.length <= 2000 /\ (∀ ab ∈ qs, (0 <= ab.1 /\ ab.1 < row.length) /\ 0 <= ab.2 /\ ab.2 < row.length) /\ rbi (num row) s none (ps.zip (ps.drop 1 ++ ps.take 1)) = rbi (num row) s ws.getLast? qs)
   (Q := fun o => (∃ ws o6 o7 o8, o = .nx (eR row s ps last o4 ws o6 o7 o8) /\ rbi (num row) s none (ps.zip (ps.drop 1 ++ ps.take 1)) = true) \/ (o = .rt (.bl false) /\ rbi (num row) s none (ps.zip (ps.drop 1 ++ ps.take 1)) = false))
   ⟨[], none, none, none, rfl, ?_, ?_, rfl⟩ ?_ ?_ ?_
  ·have : (ps.zip (ps.drop 1 ++ ps.take 1)).length <= ps.length := by rw [length_zip]; omega
   simp; omega
  ·rintro ⟨a, b⟩ hab
   have h1 := of_mem_zip hab
   refine ⟨hm a h1.1, hm b ?_⟩
   rcases List.mem_append.mp h1.2 with z | z
   ·exact mem_of_mem_drop z
   ·exact mem_of_mem_take z
  ·rintro ⟨a, b⟩ qs ρ ⟨ws, o6, o7, o8, rfl, h1, h2, h3⟩
   have hab := h2 (a, b) (by simp)
   simp only [length_cons] at h1
   have ea := X9 D.int row a hab.1.1 hab.1.2 0
   have eb := X9 D.int row b hab.2.1 hab.2.2 0
   rw [rbi] at h3
   refine ⟨eR row s ps last o4 ws (some (.sh (.int a))) (some (.sh (.int b))) o8, ?_⟩
   unfold zn0
   have s1 : mset 8 (m2 subD (mix (bvar 0) (mvar 7)) (mix (bvar 0) (mvar 6))) (eR row s ps last o4 ws (some (.sh (.int a))) (some (.sh (.int b))) o8) = some (.nx (eR row s ps last o4 ws (some (.sh (.int a))) (some (.sh (.int b))) (some (.sh (.int (num row b - num row a)))))) :=
    (c8 ((c7 (d8 (ds := row.map .int) (k := b) rfl rfl eb) (d8 (ds := row.map .int) (k := a) rfl rfl ea)).trans rfl)).trans rfl
   have t1 : l6 (m2 ltD (Z2 absF (z7 (mvar 8) anil)) (mvar 1)) (eR row s ps last o4 ws (some (.sh (.int a))) (some (.sh (.int b))) (some (.sh (.int (num row b - num row a))))) = some (decide (((num row b - num row a).natAbs : Int) < s)) := by
    refine zh2 (i := ((num row b - num row a).natAbs : Int)) ?_ rfl
    unfold Z2
    rw [z9 (d := .int (num row b - num row a)) rfl x9]
    show some (D.int (if num row b - num row a < 0 then -(num row b - num row a) else num row b - num row a)) = _
    rw [J6]
   have gt1 : m2 gtD (mvar 8) (mc (.int 0)) (eR row s ps last o4 ws (some (.sh (.int a))) (some (.sh (.int b))) (some (.sh (.int (num row b - num row a))))) = some (.bl (decide (0 < num row b - num row a))) := by
    refine (c7 (a := .int (num row b - num row a)) (b := .int 0) rfl rfl).trans ?_
    rfl
   have t2 := ym7 (ρ := eR row s ps last o4 ws (some (.sh (.int a))) (some (.sh (.int b))) (some (.sh (.int (num row b - num row a))))) (ws := ws) rfl gt1
   have cc := ys1 t1 t2
   by_cases z : ((num row b - num row a).natAbs : Int) < s \/ ws.getLast? = some (decide (0 < num row b - num row a))
   ·rw [if_pos z] at h3
    refine ⟨.rt (.bl false), rfl, ?_, .inr ⟨rfl, h3⟩⟩
    refine (seqI s1 (seqR ?_))
    unfold mif
    rw [cc]
    have : (decide (((num row b - num row a).natAbs : Int) < s) || decide (ws.getLast? = some (decide (0 < num row b - num row a)))) = true := by
     rw [Bool.or_eq_true, decide_eq_true_eq, decide_eq_true_eq]; exact z
    rw [this]
    rfl
   ·rw [if_neg z] at h3
    refine ⟨.nx (eR row s ps last o4 (ws ++ [decide (0 < num row b - num row a)]) (some (.sh (.int a))) (some (.sh (.int b))) (some (.sh (.int (num row b - num row a))))), rfl, ?_, _, _, _, _, rfl, by simp; omega, fun ab hab => h2 ab (by simp [hab]), ?_⟩
    ·refine seqI s1 (seqI (ρ' := eR row s ps last o4 ws (some (.sh (.int a))) (some (.sh (.int b))) (some (.sh (.int (num row b - num row a))))) ?_ ?_)
     ·unfold mif
      rw [cc]
      have : (decide (((num row b - num row a).natAbs : Int) < s) || decide (ws.getLast? = some (decide (0 < num row b - num row a)))) = false := by
       rw [<- Bool.not_eq_true, Bool.or_eq_true, decide_eq_true_eq, decide_eq_true_eq]; exact z
      rw [this]
      rfl
     ·unfold mapp
      rw [gt1]
      show (if (wsD ws).length < sizeLine then some (Out.nx _) else none) = _
      rw [if_pos (by unfold wsD; simp; omega)]
      unfold eR wsD
      rw [map_append]
      rfl
    ·rw [h3]; simp
  ·rintro ρ ⟨ws, o6, o7, o8, rfl, _, _, h⟩
   exact .inl ⟨ws, o6, o7, o8, rfl, by rw [h]; rfl⟩
  ·rintro o (⟨ws, o6, o7, o8, rfl, h⟩ | ⟨rfl, h⟩)
   ·show mret _ _ = _
    refine A9 ?_
    have em : mlen (bvar 2) (eR row s ps last o4 ws o6 o7 o8) = some (.int (ps.length : Int)) := by rw [X6 (ds := ps.map D.int) rfl, length_map]
    have e2 : m2 modD (mlen (bvar 2)) (mc (.int 2)) (eR row s ps last o4 ws o6 o7 o8) = some (.int ((ps.length : Int) % 2)) := by
     rw [c7 em (b := .int 2) rfl]
     show (if G8 (ps.length : Int) 2 = true then some (D.int ((ps.length : Int) % 2)) else none) = _
     rw [if_pos (u6 _ _ (by decide))]
    rw [c7 e2 (b := .int 0) rfl]
    show some (D.bl ((ps.length : Int) % 2 == 0)) = _
    unfold rbI
    rw [h, Bool.true_and]
    congr 2
    rw [Bool.eq_iff_iff, beq_iff_eq, beq_iff_eq]
    omega
   ·show some (Out.rt _) = _
    unfold rbI
    rw [h]
    rfl
end
section
open PySem L2
theorem yr7 (c : Int) : ∃ s : Int, 1 <= s /\ zd3 [.int c] = some (.sh (.int s)) := by
 unfold zd3 b_Z13
 have n5 := W8 c 5
 have n6 := W8 c 6
 have n7 := W8 c 7
 have s5 := g7 c 5 (by decide)
 have s6 := g7 c 6 (by decide)
 have s7 := g7 c 7 (by decide)
 have g3 : 0 + 1 + 1 + 1 <= sizeLine := w6 (by decide)
 have g1 : 0 + 1 <= sizeLine := w6 (by decide)
 have g4 : 0 + 1 + 1 + 1 + (0 + 1) <= sizeLine := w6 (by decide)
 have p6 : (10 : Int) ^ (6 : Int).toNat = 1000000 := by decide
 have p23 : (10 : Int) ^ (23 : Int).toNat = 100000000000000000000000 := by decide
 have o6 : B6 10 6 = true := by decide
 have o23 : B6 10 23 = true := by decide
 have mo : ∀ i j : Int, 0 < j -> G8 i j = true := u6
 have b6 := n4 (x := stir c 6) (show (0 : Int) < 1000000 by decide)
 have mu : S5 (stir c 6 % 1000000) 100000000000000000000000 = true := S4 _ _ (by omega) (by omega)
 have b7 := n4 (x := stir c 7) (show (0 : Int) < 4 by decide)
 have b5 := n4 (x := stir c 5) (show (0 : Int) < 9 by decide)
 have b6' := n4 (x := stir c 6) (show (0 : Int) < 1000 by decide)
 have main : ∀ k : Int, stir c 7 % 4 = k -> ∀ s : D, atI [D.int 1, .int (1 + stir c 5 % 9), .int (1 + stir c 6 % 1000), .int (1 + stir c 6 % 1000000 * 100000000000000000000000)] k = some s -> b_Z13 (j7 2 [.int c]) = some (.rt s) := by
  intro k hk s hs
  unfold b_Z13
  ((apply seqI; focus (simp_arith [s5, s6, g3, if_true, mo 0 9, u6 (stir c 5) 9 (by decide), u6 (stir c 6) 1000 (by decide)]; rfl)))
  simp_arith [s5, s6, s7, g1, g4, if_true, u6 (stir c 6) 1000000 (by decide), u6 (stir c 7) 4 (by decide), p6, p23, o6, o23, mu, hk, hs]
 have : stir c 7 % 4 = 0 \/ stir c 7 % 4 = 1 \/ stir c 7 % 4 = 2 \/ stir c 7 % 4 = 3 := by omega
 rcases this with h | h | h | h
 ·exact ⟨_, by decide, Z9 (main _ h _ rfl)⟩
 ·exact ⟨_, by omega, Z9 (main _ h _ rfl)⟩
 ·exact ⟨_, by omega, Z9 (main _ h _ rfl)⟩
 ·exact ⟨_, by omega, Z9 (main _ h _ rfl)⟩
abbrev D3 : List D := [.bl true, .bl false, .bl false, .bl false, .bl false, .bl false, .bl false, .bl false]
theorem yv8 : zd6 [.exc "NoStep"] = some (.fr D3) := by
 unfold zd6 b_Z10
 refine B3 ?_
 have t : ∀ {ρ : Ro}, mvar 0 ρ = some (.exc "NoStep") -> misX [("NoStep", true)] (mvar 0) ρ = some (.bl true) := fun h => ze7 h rfl
 have f : ∀ {ρ : Ro}, mvar 0 ρ = some (.exc "NoStep") -> misX [("NoStep", false)] (mvar 0) ρ = some (.bl false) := fun h => ze7 h rfl
 refine seqI (ρ' := [some (.sh (.exc "NoStep")), some (.sh (.lst [.bl true, .bl false, .bl false, .bl false]))]) ((c8 (l7 (u8 (z9 (t rfl) (z9 (f rfl) (z9 (f rfl) (z9 (f rfl) x9)))) (w6 (by decide))))).trans rfl) ?_
 refine seqI (ρ' := [some (.sh (.exc "NoStep")), some (.sh (.lst [.bl true, .bl false, .bl false, .bl false, .bl false, .bl false, .bl false]))]) ((c8 (l7 (U2 (ds := [.bl true, .bl false, .bl false, .bl false]) (es := [.bl false, .bl false, .bl false]) rfl (u8 (z9 (f rfl) (z9 (f rfl) (z9 (f rfl) x9))) (w6 (by decide))) (w6 (by decide))))).trans rfl) ?_
 have n1 : ∀ {ρ : Ro}, mvar 0 ρ = some (.exc "NoStep") -> m1 notD (misX [("NoStep", true)] (mvar 0)) ρ = some (.bl false) := fun h => by unfold m1; rw [t h]; rfl
 unfold zz0
 rw [U2 (ds := [.bl true, .bl false, .bl false, .bl false, .bl false, .bl false, .bl false]) (es := [.bl false]) rfl (u8 (z9 (n1 rfl) x9) (w6 (by decide))) (w6 (by decide))]
 rfl
theorem zg0 (s : Int) (h : s < 1) : m_Z5 [.int s] = none := by
 unfold m_Z5 b_Z5
 refine B4 ?_
 show mif _ _ _ [some (.sh (.int s))] = none
 rw [zd0 (b := true) ((zh2 (i := s) (j := 1) rfl rfl).trans (congrArg some (decide_eq_true h)))]; rfl
theorem yq4 (s : Int) (h : s < 1) : N6 [.int s] = some ("NoStep" : Str) := by
 unfold N6 yk4
 refine B0 (ρ := j7 1 [.int s]) ?_
 show xif _ _ _ [some (.sh (.int s))] = _
 rw [zi5 (b := true) ((zh2 (i := s) (j := 1) rfl rfl).trans (congrArg some (decide_eq_true h)))]
 exact zi1 (z9 rfl x9)
theorem zv2 {f : MF} {m : ML} {ρ : Ro} {ds es : List D} (h : m ρ = some ds) (h2 : f ds = some (.fr es)) : N1 f m ρ = some es := by
 unfold N1; rw [h]; simp only [Option.bind_some, h2]
def eF (k : Int) (row : List Int) (s : Int) (ps : List Int) (o4 o5 : Option S) : Ro := [some (.sh (.int k)), some (.sh (RI row)), some (.sh (.int s)), some (.sh (RI ps)), o4, o5, none]
abbrev HP (row ps : List Int) : D := .lst [RI row, RI ps]
theorem zh3 {x y : ME} {ρ : Ro} {i j : Int} (h1 : x ρ = some (.int i)) (h2 : y ρ = some (.int j)) : l6 (m2 eqSD x y) ρ = some (i == j) := by
 unfold l6; rw [c7 h1 h2]; unfold eqSD; rw [yt8]; rfl
theorem zm9 (k : Int) (row : List Int) (s : Int) (ps : List Int) (h : s < 1) : m_Z6 [.int k, RI row, .int s, RI ps] = some (.fr D3) := by
 have n1 : m_Z8 [RI row, .int s, RI ps] = none := by
  unfold m_Z8 b_Z8
  exact B4 (zr0 (T3 (T5 (z9 (d := .int s) rfl x9) (zg0 s h))))
 have n2 : m_Z1 [RI row, .int s] = none := by
  unfold m_Z1 b_Z1
  exact B4 (zr0 (T3 (T5 (z9 (d := .int s) rfl x9) (zg0 s h))))
 have n3 : m_Z2 [RI row, .int s] = none := by
  unfold m_Z2 b_Z2
  exact B4 (zr0 (T3 (T5 (z9 (d := .int s) rfl x9) (zg0 s h))))
 have x1 : zi2 [RI row, .int s, RI ps] = some ("NoStep" : Str) := by
  unfold zi2 yk3
  exact B0 (zn5 (U6 (z9 (d := .int s) rfl x9) (yq4 s h)))
 have x2 : zi4 [RI row, .int s] = some ("NoStep" : Str) := by
  unfold zi4 yk6
  exact B0 (zn5 (U6 (z9 (d := .int s) rfl x9) (yq4 s h)))
 have x3 : zi3 [RI row, .int s] = some ("NoStep" : Str) := by
  unfold zi3 yk5
  exact B0 (zn5 (U6 (z9 (d := .int s) rfl x9) (yq4 s h)))
 unfold m_Z6 b_Z6
 refine B3 ?_
 refine seqI (ρ' := eF k row s ps (some (.own [])) none) ((U0 (u8 x9 (Nat.zero_le _))).trans rfl) ?_
 refine seqI (ρ' := eF k row s ps (some (.own [])) (some (.sh (HP row ps)))) ((c8 (l7 (u8 (z9 (l7 (m := bvar 1) (ds := row.map .int) rfl) (z9 (l7 (m := bvar 3) (ds := ps.map .int) rfl) x9)) (w6 (by simp))))).trans rfl) ?_
 have a2 : z7 (mix (bvar 5) (mc (.int 0))) (z7 (mvar 2) anil) (eF k row s ps (some (.own [])) (some (.sh (HP row ps)))) = some [RI row, .int s] := z9 (d8 (ds := [RI row, RI ps]) (k := 0) rfl rfl rfl) (z9 (d := .int s) rfl x9)
 have a3 : z7 (mix (bvar 5) (mc (.int 0))) (z7 (mvar 2) (z7 (mix (bvar 5) (mc (.int 1))) anil)) (eF k row s ps (some (.own [])) (some (.sh (HP row ps)))) = some [RI row, .int s, RI ps] := z9 (d8 (ds := [RI row, RI ps]) (k := 0) rfl rfl rfl) (z9 (d := .int s) rfl (z9 (d8 (ds := [RI row, RI ps]) (k := 1) rfl rfl rfl) x9))
 have t0 := zh3 (x := mvar 0) (y := mc (.int 0)) (ρ := eF k row s ps (some (.own [])) (some (.sh (HP row ps)))) (i := k) (j := 0) rfl rfl
 have t1 := zh3 (x := mvar 0) (y := mc (.int 1)) (ρ := eF k row s ps (some (.own [])) (some (.sh (HP row ps)))) (i := k) (j := 1) rfl rfl
 refine seqI (ρ' := eF k row s ps (some (.own D3)) (some (.sh (HP row ps)))) ((xz3 (c := ("NoStep" : Str)) (ρ1 := eF k row s ps (some (.own [])) (some (.sh (HP row ps)))) (ρ2 := [some (.sh (.int k)), some (.sh (RI row)), some (.sh (.int s)), some (.sh (RI ps)), some (.own D3), some (.sh (HP row ps)), some (.sh (.exc "NoStep"))]) ?_ ?_ (by simp) ?_).trans rfl) ?_
 ·rw [zd0 t0]
  cases k == 0
  ·show mif _ _ _ _ = _
   rw [zd0 t1]
   cases k == 1
   ·exact T3 (T5 a2 n3)
   ·exact T3 (T5 a2 n2)
  ·exact T3 (T5 a3 n1)
 ·rw [zi5 t0]
  cases k == 0
  ·show xif _ _ _ _ = _
   rw [zi5 t1]
   cases k == 1
   ·exact zn5 (U6 a2 x3)
   ·exact zn5 (U6 a2 x2)
  ·exact zn5 (U6 a3 x1)
 ·exact (U0 (zv2 (z9 (d := .exc "NoStep") rfl x9) yv8)).trans rfl
 refine seqI (ρ' := eF k row s ps (some (.own D3)) (some (.sh (HP row ps)))) (W4 ?_) ?_
 ·refine T1 ?_
  unfold meqB
  rw [show bvar 5 (eF k row s ps (some (.own D3)) (some (.sh (HP row ps)))) = some [RI row, RI ps] from rfl, u8 (z9 (x := mvar 1) (d := RI row) rfl (z9 (x := mvar 3) (d := RI ps) rfl x9)) (w6 (by simp))]
  exact zc7 row ps
 ·rfl
end
end
section
def dN (p : Nat) : D := .int (p : Int)
def L (l : List Nat) : D := .lst (l.map dN)
theorem ya6 (ns : List Nat) (q : Nat) (h : q < ns.length) : atI (ns.map dN) (q : Int) = some (dN (ns.getD q 0)) := by
 have := X9 dN ns (q : Int) (by omega) (by omega) 0
 rw [Int.toNat_natCast] at this
 exact this
def ptN (a b : List Nat) (k m : Nat) : Nat := a.getD m 0 + (if 1 <= m /\ m <= k then b.getD (m - 1) 0 else 0)
def ptL (a b : List Nat) (k : Nat) : List Nat := (List.range (max a.length (b.length + 1))).map (ptN a b k)
theorem S1 (a b : List Nat) (k : Nat) : (ptL a b k).length = max a.length (b.length + 1) := by unfold ptL; simp
theorem zx8 (a b : List Nat) (k m : Nat) (h : m < max a.length (b.length + 1)) : (ptL a b k)[m]? = some (ptN a b k m) := by unfold ptL; rw [getElem?_map, getElem?_range h]; rfl
theorem yy4 (a b : List Nat) : a ++ List.replicate (b.length + 1 - a.length) 0 = ptL a b 0 := by
 refine ext_getElem? fun m => ?_
 by_cases h : m < max a.length (b.length + 1)
 ·rw [zx8 a b 0 m h, ptN, if_neg (by omega), Nat.add_zero]
  by_cases h2 : m < a.length
  ·rw [getElem?_append_left h2, getD_eq_getElem?_getD, getElem?_eq_getElem h2]; rfl
  ·rw [getElem?_append_right (by omega), getElem?_replicate, if_pos (by omega), getD_eq_getElem?_getD, getElem?_eq_none (by omega)]; rfl
 ·rw [getElem?_eq_none (by simp; omega), getElem?_eq_none (by rw [S1]; omega)]
theorem yy5 (a b : List Nat) (k : Nat) (hk : k < b.length) : (ptL a b k).set (k + 1) (ptN a b k (k + 1) + b.getD k 0) = ptL a b (k + 1) := by
 refine ext_getElem? fun m => ?_
 rw [getElem?_set]
 by_cases h : m < max a.length (b.length + 1)
 ·by_cases e : k + 1 = m
  ·subst e
   rw [if_pos rfl, if_pos (by rw [S1]; exact h), zx8 a b _ _ h]
   unfold ptN
   rw [if_neg (by omega), if_pos (by omega)]; simp
  ·rw [if_neg e, zx8 a b k m h, zx8 a b (k + 1) m h]
   unfold ptN
   by_cases h1 : 1 <= m /\ m <= k
   ·rw [if_pos h1, if_pos (by omega)]
   ·rw [if_neg h1, if_neg (by omega)]
 ·rw [if_neg (by omega), getElem?_eq_none (by rw [S1]; omega), getElem?_eq_none (by rw [S1]; omega)]
theorem zq8 {i : Nat} {ns : List Nat} {p : Nat} {v : Nat} {ix x : ME} {ρ : Ro} (hi : ρ[i]? = some (some (.own (ns.map dN)))) (hp : ix ρ = some (.int (p : Int))) (hx : x ρ = some (dN v)) (hlt : p < ns.length) : J1 i ix x ρ = some (.nx (ρ.set i (some (.own ((ns.set p v).map dN))))) := by
 unfold J1
 rw [hx, Option.bind_some]
 simp only [hi]
 rw [hp, Option.bind_some]
 simp only
 have e : ixN (ns.map dN).length (p : Int) = some p := by
  unfold ixN
  rw [length_map, if_pos (by omega), if_pos (by omega)]; simp
 rw [e, Option.map_some, <- map_set]
theorem zz2 : ∀ (ns : List Nat) (k : Nat), O0 k (ns.map dN) = (List.range ns.length).map fun (i : Nat) => D.tup [.int ((k + i : Nat) : Int), dN (ns.getD i 0)]
 | [], k => rfl
 | n :: ns, k => by
  rw [map_cons, O0, zz2 ns (k + 1), length_cons, range_succ_eq_map, map_cons, map_map]
  refine congr (congrArg List.cons rfl) (map_congr_left fun i _ => ?_)
  show _ = D.tup [.int ((k + (i + 1) : Nat) : Int), dN ((n :: ns).getD (i + 1) 0)]
  rw [show k + (i + 1) = k + 1 + i by omega]; rfl
def eP (a b f : List Nat) (o3 o4 : Option S) : Ro := [some (.sh (L a)), some (.sh (L b)), some (.own (f.map dN)), o3, o4]
theorem yi9 (a b : List Nat) (ha : a.length <= 1000) (hb : b.length <= 1000) : zk6 [L a, L b] = some (.fr ((ptL a b b.length).map dN)) := by
 have big := g9
 have i1 : 1 <= sizeLine := w6 (by decide)
 unfold zk6 b_Z19
 have key : Run (mseq (U1 2 (mcat (bvar 0) (mrep (v0 (z7 (mc (.int 0)) anil)) (m2 subD (m2 addD (mlen (bvar 1)) (mc (.int 1))) (mlen (bvar 0)))))) (mseq (mfor (j8 zz3 (z7 (mvar 1) anil)) (.tp [3, 4]) zy0) (S6 2))) (j7 5 [L a, L b]) (fun o => ∃ es, o = .rf es /\ es = (ptL a b b.length).map dN) := by
  refine t7 (ρ' := eP a b (ptL a b 0) none none) ?_ ?_
  ·have e0 : m2 subD (m2 addD (mlen (bvar 1)) (mc (.int 1))) (mlen (bvar 0)) (j7 5 [L a, L b]) = some (.int ((b.length : Int) + 1 - (a.length : Int))) := by
    refine (c7 ((c7 (X6 (m := bvar 1) (ds := b.map dN) rfl) (b := .int 1) rfl).trans rfl) (X6 (m := bvar 0) (ds := a.map dN) rfl)).trans ?_
    rw [length_map, length_map]; rfl
   have rk : zx5 1 ((b.length : Int) + 1 - (a.length : Int)) = true := by
    unfold zx5
    rw [decide_eq_true (by omega), decide_eq_true (by omega), decide_eq_true (by omega)]; rfl
   have rp := ze5 (x := v0 (z7 (mc (.int 0)) anil)) (u8 (z9 (d := .int 0) rfl x9) i1) e0 rk
   have e1 : (List.replicate ((b.length : Int) + 1 - (a.length : Int)).toNat [D.int 0]).flatten = (List.replicate (b.length + 1 - a.length) 0).map dN := by
    rw [show ((b.length : Int) + 1 - (a.length : Int)).toNat = b.length + 1 - a.length by omega, map_replicate]
    generalize b.length + 1 - a.length = n
    induction n with
    | zero => rfl
    | succ n ih => rw [replicate_succ, flatten_cons, ih, replicate_succ]; rfl
   rw [e1] at rp
   refine (U0 (U2 (x := bvar 0) (ds := a.map dN) rfl rp (w6 (by rw [length_map, length_map, length_replicate]; omega)))).trans ?_
   rw [<- map_append, yy4]; rfl
  refine S9 (X3 b.length (f := fun (i : Nat) => D.tup [.int (i : Int), dN (b.getD i 0)]) ?_ (I := fun k ρ => ∃ o3 o4, ρ = eP a b (ptL a b k) o3 o4) _ ⟨_, _, rfl⟩ ?_ ?_)
  ·unfold j8
   rw [z9 (x := mvar 1) (d := .lst (b.map dN)) rfl x9, Option.bind_some]
   show some (O0 0 (b.map dN)) = _
   rw [zz2]
   congr 1
   apply map_congr_left
   intro i _
   rw [Nat.zero_add]
  ·rintro k ρ hk ⟨o3, o4, rfl⟩
   refine ⟨eP a b (ptL a b k) (some (.sh (.int (k : Int)))) (some (.sh (dN (b.getD k 0)))), rfl, ?_⟩
   unfold zy0
   have ix : m2 addD (mvar 3) (mc (.int 1)) (eP a b (ptL a b k) (some (.sh (.int (k : Int)))) (some (.sh (dN (b.getD k 0))))) = some (.int ((k + 1 : Nat) : Int)) := (c7 (a := .int (k : Int)) (b := .int 1) rfl rfl).trans rfl
   have hm : k + 1 < max a.length (b.length + 1) := by omega
   have at1 : atI ((ptL a b k).map dN) ((k + 1 : Nat) : Int) = some (dN (ptN a b k (k + 1))) := by
    rw [ya6 _ _ (by rw [S1]; exact hm), getD_eq_getElem?_getD, zx8 _ _ _ _ hm]; rfl
   refine ⟨_, zq8 (ns := ptL a b k) (v := ptN a b k (k + 1) + b.getD k 0) rfl ix ((c7 (d8 (m := bvar 2) (ds := (ptL a b k).map dN) rfl ix at1) (b := dN (b.getD k 0)) rfl).trans rfl) (by rw [S1]; exact hm), ?_⟩
   rw [yy5 a b k hk]
   exact ⟨_, _, rfl⟩
  ·rintro ρ ⟨o3, o4, rfl⟩
   exact ⟨_, rfl, _, rfl, rfl⟩
 obtain ⟨es, e, h⟩ := R0 key
 rw [e, h]
end
section
theorem ys0 (k : Nat) (a b : Nat) : eqF (k + 1) (dN a) (dN b) = some (a == b) := by
 show some ((a : Int) == (b : Int)) = _
 congr 1
 rw [Bool.eq_iff_iff, beq_iff_eq, beq_iff_eq]
 omega
theorem zi0 (k : Nat) : ∀ (l m : List Nat), l.length = m.length -> zipE (eqF (k + 1)) (l.map dN) (m.map dN) = some (l == m)
 | [], [], _ => rfl
 | [], _ :: _, h => by cases h
 | _ :: _, [], h => by cases h
 | a :: l, b :: m, h => by
  rw [map_cons, map_cons, zipE, ys0, zi0 k l m (by simpa using h)]
  rfl
theorem zc1 (k : Nat) : ∀ (l m : List Nat), lexF (eqF (k + 1)) (ltF (k + 1)) (l.map dN) (m.map dN) = some (lx l m)
 | [], [] => rfl
 | [], _ :: _ => rfl
 | _ :: _, [] => rfl
 | a :: l, b :: m => by
  rw [map_cons, map_cons, lexF, ys0]
  unfold lx
  by_cases h : a = b
  ·subst h
   simp only [beq_self_eq_true, Nat.lt_irrefl, decide_false, Bool.true_and, Bool.false_or]
   exact zc1 k l m
  ·have e : (a == b) = false := by simpa using h
   rw [e]
   simp only [Bool.false_and, Bool.or_false]
   show some (decide ((a : Int) < (b : Int))) = _
   congr 1
   apply decide_eq_decide.mpr
   omega
def T2 (a : Int × List Nat) : D := .tup [.int a.1, L a.2]
theorem xx5 (a b : Int × List Nat) : ∃ t, ltF 8 (T2 a) (T2 b) = some t := by
 show ∃ t, lexF (eqF 7) (ltF 7) [.int a.1, L a.2] [.int b.1, L b.2] = some t
 rw [lexF, show eqF 7 (.int a.1) (.int b.1) = some (a.1 == b.1) from rfl]
 cases a.1 == b.1
 ·exact ⟨_, rfl⟩
 ·simp only
  rw [lexF]
  have e : ∃ t, eqF 7 (L a.2) (L b.2) = some t := by
   show ∃ t, (if (a.2.map dN).length = (b.2.map dN).length then zipE (eqF 6) (a.2.map dN) (b.2.map dN) else some false) = some t
   by_cases h : a.2.length = b.2.length
   ·rw [if_pos (by simpa using h), zi0 5 _ _ h]; exact ⟨_, rfl⟩
   ·rw [if_neg (by simpa using h)]; exact ⟨_, rfl⟩
  obtain ⟨t, e⟩ := e
  rw [e]
  cases t
  ·exact ⟨_, zc1 5 a.2 b.2⟩
  ·exact ⟨_, rfl⟩
theorem yt5 (a b : Int × List Nat) : ∃ r, (r = a \/ r = b) /\ minP [T2 b] (T2 a) = some (T2 r) := by
 obtain ⟨t, e⟩ := xx5 b a
 unfold minP
 rw [e]
 cases t
 ·exact ⟨a, .inl rfl, rfl⟩
 ·exact ⟨b, .inr rfl, rfl⟩
section
variable {α : Type}
def pick (b : Bool) (w : α × α) : α := if b then w.2 else w.1
def putp (b : Bool) (v : α) (w : α × α) : α × α := if b then (w.1, v) else (v, w.2)
theorem yx1 (b c : Bool) (v : α) (w : α × α) : pick c (putp b v w) = if c = b then v else pick c w := by cases b <;> cases c <;> rfl
def bit (b : Bool) : Int := if b then 1 else 0
def FW (f : α -> D) (A : List (α × α)) : List Fl := A.map fun w => .l [f w.1, f w.2]
def DW (f : α -> D) (A : List (α × α)) : List D := A.map fun w => .lst [f w.1, f w.2]
theorem FW_D (f : α -> D) (A : List (α × α)) : yk2 (.row (FW f A)) = .lst (DW f A) := by
 show D.lst ((FW f A).map flD) = _
 unfold FW DW
 rw [map_map]
 rfl
theorem FW_S (f : α -> D) (A : List (α × α)) : (FW f A).map flS = DW f A := by
 unfold FW DW
 rw [map_map]
 rfl
theorem za8 (f : α -> D) (w : α × α) (b : Bool) : atI [f w.1, f w.2] (bit b) = some (f (pick b w)) := by cases b <;> rfl
theorem xv1 (f : α -> D) (A : List (α × α)) (p : Nat) (hp : p < A.length) (dv : α × α) : atI (DW f A) (p : Int) = some (.lst [f (A.getD p dv).1, f (A.getD p dv).2]) := by
 have := X9 (fun w : α × α => D.lst [f w.1, f w.2]) A (p : Int) (by omega) (by omega) dv
 rw [Int.toNat_natCast] at this
 exact this
theorem zv7 {f : α -> D} {A : List (α × α)} {m : ML} {i j : ME} {ρ : Ro} {p : Nat} {b : Bool} (dv : α × α) (h1 : m ρ = some (DW f A)) (h2 : i ρ = some (.int (p : Int))) (h3 : j ρ = some (.int (bit b))) (hp : p < A.length) : mix (l9 (mix m i)) j ρ = some (f (pick b (A.getD p dv))) :=
 d8 (e6 (d8 h1 h2 (xv1 f A p hp dv))) h3 (za8 f _ b)
theorem ys3 {f : α -> D} {A : List (α × α)} {p : Nat} (dv : α × α) (hp : p < A.length) : (FW f A)[p]? = some (.l [f (A.getD p dv).1, f (A.getD p dv).2]) := by
 unfold FW
 rw [getElem?_map, getD_eq_getElem?_getD, getElem?_eq_getElem hp]
 rfl
theorem ys2 {f : α -> D} {A : List (α × α)} : (FW f A).length = A.length := by unfold FW; simp
theorem yt6 (n p : Nat) (h : p < n) : ixN n (p : Int) = some p := by
 have := zc3 (n := n) (k := (p : Int)) (by omega) (by omega)
 rw [this, Int.toNat_natCast]
theorem ze6 {f : α -> D} {A : List (α × α)} {i : Nat} {k1 k2 : ME} {ρ : Ro} {β : Bx} {y : Addr} {p : Nat} {b : Bool} (dv : α × α) (hi : ρ[i]? = some (some (.sh (.ptr y)))) (hb : β.lookup y = some (.row (FW f A))) (h2 : k1 ρ = some (.int (p : Int))) (h3 : k2 ρ = some (.int (bit b))) (hp : p < A.length) : mixR i k1 k2 ρ β = some (f (pick b (A.getD p dv))) := by
 unfold mixR
 simp only [hi, h2, h3, hb]
 rw [ys2, yt6 _ _ hp]
 simp only
 rw [ys3 dv hp]
 exact za8 f _ b
theorem yq0 {f : α -> D} {A : List (α × α)} {p : Nat} {b : Bool} {v : α} (dv : α × α) (hp : p < A.length) : setR (p : Int) (bit b) (f v) (FW f A) = some (FW f (A.set p (putp b v (A.getD p dv)))) := by
 unfold setR
 rw [ys2, yt6 _ _ hp]
 simp only
 rw [ys3 dv hp]
 have e : ∀ w : α × α, (match ixN [f w.1, f w.2].length (bit b) with | some m => some ((FW f A).set p (.l ([f w.1, f w.2].set m (f v)))) | none => none) = some (FW f (A.set p (putp b v w))) := fun w => by
  unfold FW
  rw [map_set]
  cases b <;> rfl
 exact e _
theorem M5 {f : α -> D} {A : List (α × α)} {i : Nat} {k1 k2 : ME} {g : Ro -> Bx -> Option D} {ρ : Ro} {β : Bx} {y : Addr} {p : Nat} {b : Bool} {v : α} (dv : α × α) (hg : g ρ β = some (f v)) (hi : ρ[i]? = some (some (.sh (.ptr y)))) (hb : β.lookup y = some (.row (FW f A))) (h2 : k1 ρ = some (.int (p : Int))) (h3 : k2 ρ = some (.int (bit b))) (hp : p < A.length) : zw9 i k1 k2 g ρ β = some (.nx ρ, updB y (.row (FW f (A.set p (putp b v (A.getD p dv))))) β) := by
 unfold zw9
 simp only [hg, hi, h2, h3, hb]
 rw [yq0 dv hp]
 rfl
theorem M7 {A : List (α × α)} {p q : Nat} {b c : Bool} {v : α} (dv : α × α) (hp : p < A.length) : pick c ((A.set p (putp b v (A.getD p dv))).getD q dv) = if q = p /\ c = b then v else pick c (A.getD q dv) := by
 rw [getD_eq_getElem?_getD, getElem?_set]
 by_cases h : p = q
 ·subst h
  rw [if_pos rfl, if_pos hp]
  show pick c (putp b v (A.getD p dv)) = _
  rw [yx1]
  simp
 ·rw [if_neg h, if_neg (fun z => h z.1.symm), getD_eq_getElem?_getD]
end
theorem seqW {x y : MW} {ρ ρ' : Ro} {β β' : Bx} {r : Option (Out × Bx)} (h : x ρ β = some (.nx ρ', β')) (h2 : y ρ' β' = r) : G7 x y ρ β = r := by
 unfold G7; rw [h]; exact h2
theorem yj1 {m : MS} {ρ ρ' : Ro} {β : Bx} (h : m ρ = some (.nx ρ')) : wS m ρ β = some (.nx ρ', β) := by unfold wS; rw [h]
def OD : Option (Int × List Nat) -> D
 | none => .non
 | some a => T2 a
def bx (x y : Addr) (A : List (List Nat × List Nat)) (B : List (Option (Int × List Nat) × Option (Int × List Nat))) : Bx := [(y, .row (FW OD B)), (x, .row (FW L A))]
theorem bx_y {x y : Addr} {A : List (List Nat × List Nat)} {B : List (Option (Int × List Nat) × Option (Int × List Nat))} : (bx x y A B).lookup y = some (.row (FW OD B)) := by unfold bx; simp
theorem bx_x {x y : Addr} {A : List (List Nat × List Nat)} {B : List (Option (Int × List Nat) × Option (Int × List Nat))} (h : x ≠ y) : (bx x y A B).lookup x = some (.row (FW L A)) := by
 unfold bx
 rw [lookup_cons, show (x == y) = false from beq_eq_false_iff_ne.mpr h]
 simp
theorem up_y {x y : Addr} {A : List (List Nat × List Nat)} {B B' : List (Option (Int × List Nat) × Option (Int × List Nat))} : updB y (.row (FW OD B')) (bx x y A B) = bx x y A B' := by unfold bx updB; rw [if_pos rfl]
theorem up_x {x y : Addr} {A A' : List (List Nat × List Nat)} {B : List (Option (Int × List Nat) × Option (Int × List Nat))} (h : x ≠ y) : updB x (.row (FW L A')) (bx x y A B) = bx x y A' B := by unfold bx; rw [updB, if_neg (Ne.symm h), updB, if_pos rfl]
def NP (o : Option S) : Prop := ∀ β, N7 β o = o
def eC (ns : List Int) (s : Int) (fi : Nat) (d3 d4 : D) (o5 o6 o7 o8 o9 : Option S) : Ro := [some (.sh (RI ns)), some (.sh (.int s)), some (.sh (.int (fi : Int))), some (.sh d3), some (.sh d4), o5, o6, o7, o8, o9]
theorem yu7 (ns : List Int) (s : Int) (fi : Nat) {x y : Addr} (h : x ≠ y) (A : List (List Nat × List Nat)) (B : List (Option (Int × List Nat) × Option (Int × List Nat))) {o5 o6 o7 o8 o9 : Option S} (h5 : NP o5) (h6 : NP o6) (h7 : NP o7) (h8 : NP o8) (h9 : NP o9) : thaw (eC ns s fi (.ptr x) (.ptr y) o5 o6 o7 o8 o9) (bx x y A B) = eC ns s fi (.lst (DW L A)) (.lst (DW OD B)) o5 o6 o7 o8 o9 := by
 unfold thaw eC
 simp only [map_cons, map_nil, h5 _, h6 _, h7 _, h8 _, h9 _]
 have e1 : N7 (bx x y A B) (some (.sh (.ptr x))) = some (.sh (.lst (DW L A))) := by
  unfold N7
  simp only [bx_x h]
  rw [FW_D]
 have e2 : N7 (bx x y A B) (some (.sh (.ptr y))) = some (.sh (.lst (DW OD B))) := by
  unfold N7
  simp only [bx_y]
  rw [FW_D]
 rw [e1, e2]
 rfl
end
section
abbrev AW := List (List Nat × List Nat)
abbrev BW := List (Option (Int × List Nat) × Option (Int × List Nat))
def Wok (p : Nat) (w : List Nat) (o : Option (Int × List Nat)) : Prop := w.length <= p + 2 /\ (w ≠ [] -> o ≠ none) /\ ∀ t, o = some t -> t.2.length <= p + 1
def Iv (n : Nat) (A : AW) (B : BW) : Prop := A.length = n /\ B.length = n /\ ∀ p, p < n -> ∀ b, Wok p (pick b (A.getD p ([], []))) (pick b (B.getD p (none, none)))
theorem T9 (i : Int) : NP (some (.sh (.int i))) := fun _ => rfl
theorem yd5 (l : List D) : NP (some (.sh (.lst l))) := fun _ => rfl
theorem B9 : NP none := fun _ => rfl
theorem yd9 {c : Ro -> Bx -> Option Bool} {x y : MW} {ρ : Ro} {β : Bx} (h : c ρ β = some false) : mifW c x y ρ β = y ρ β := by unfold mifW; rw [h]
theorem yd8 {c : Ro -> Bx -> Option Bool} {x y : MW} {ρ : Ro} {β : Bx} (h : c ρ β = some true) : mifW c x y ρ β = x ρ β := by unfold mifW; rw [h]
theorem zs8 (b : Bool) : (1 : Int) - bit b = bit (!b) := by cases b <;> rfl
theorem ya9 (l : List Nat) : (l.map dN).all isSc = true := by
 rw [all_map, all_eq_true]
 intro x _
 rfl
theorem xy3 (o : Option (Int × List Nat)) {ma mb : Ro -> Bx -> Option D} {ρ : Ro} {β : Bx} (h : ma ρ β = some (OD o)) (h2 : mb ρ β = some (T2 (1, []))) : morW ma mb ρ β = some (T2 (o.getD (1, []))) := by
 unfold morW
 rw [h, Option.bind_some]
 cases o with
 | none => exact h2
 | some t => rfl
theorem zb9 (ns : List Int) (s : Int) (fi p q : Nat) (hn : ns.length <= 40) (hq : q < p) (hp : p < ns.length) (A : AW) (B : BW) (I : Iv ns.length A B) (o7 o8 o9 : Option S) (n7 : NP o7) (n8 : NP o8) (n9 : NP o9) :
  ∃ A' B' p7 p8 p9, Iv ns.length A' B' /\ NP p7 /\ NP p8 /\ NP p9 /\ ∀ x y, x ≠ y -> b9 (eC ns s fi (.ptr x) (.ptr y) (some (.sh (.int (p : Int)))) (some (.sh (.int (q : Int)))) o7 o8 o9) (bx x y A B) = some (.nx (eC ns s fi (.ptr x) (.ptr y) (some (.sh (.int (p : Int)))) (some (.sh (.int (q : Int)))) p7 p8 p9), bx x y A' B') := by
 have big := g9
 obtain ⟨b, hb⟩ : ∃ b, decide (ns.getD p 0 > ns.getD q 0) = b := ⟨_, rfl⟩
 have atp := zn1 ns p hp
 have atq := zn1 ns q (by omega)
 obtain ⟨lA, lB, hI⟩ := I
 have s7 : ∀ x y, mset 7 (Z2 intF (z7 (m2 gtD (mix (bvar 0) (mvar 5)) (mix (bvar 0) (mvar 6))) anil)) (eC ns s fi (.ptr x) (.ptr y) (some (.sh (.int (p : Int)))) (some (.sh (.int (q : Int)))) o7 o8 o9) = some (.nx (eC ns s fi (.ptr x) (.ptr y) (some (.sh (.int (p : Int)))) (some (.sh (.int (q : Int)))) (some (.sh (.int (bit b)))) o8 o9)) := fun x y => by
  refine (c8 (d := .int (bit b)) ?_).trans rfl
  rw [zz5 (z9 ((c7 (d8 (ds := ns.map .int) (k := (p : Int)) rfl rfl atp) (d8 (ds := ns.map .int) (k := (q : Int)) rfl rfl atq)).trans (show gtD (.int (ns.getD p 0)) (.int (ns.getD q 0)) = some (.bl b) by rw [<- hb]; rfl)) x9)]
  rfl
 have cond : ∀ x y, x ≠ y -> yw8 (cand (l6 (m2 geD (Z2 absF (z7 (m2 subD (mix (bvar 0) (mvar 5)) (mix (bvar 0) (mvar 6))) anil)) (mvar 1))) (l6 (meqB true (l9 (mix (l9 (mix (bvar 3) (mvar 6))) (m2 subD (mc (.int 1)) (mvar 7)))) (v0 anil)))) (eC ns s fi (.ptr x) (.ptr y) (some (.sh (.int (p : Int)))) (some (.sh (.int (q : Int)))) (some (.sh (.int (bit b)))) o8 o9) (bx x y A B) = some (decide (s <= ((ns.getD p 0 - ns.getD q 0).natAbs : Int)) && !(pick (!b) (A.getD q ([], []))).isEmpty) := fun x y h => by
  unfold yw8
  rw [yu7 ns s fi h A B (T9 _) (T9 _) (T9 _) n8 n9]
  have e1 : l6 (m2 geD (Z2 absF (z7 (m2 subD (mix (bvar 0) (mvar 5)) (mix (bvar 0) (mvar 6))) anil)) (mvar 1)) (eC ns s fi (.lst (DW L A)) (.lst (DW OD B)) (some (.sh (.int (p : Int)))) (some (.sh (.int (q : Int)))) (some (.sh (.int (bit b)))) o8 o9) = some (decide (s <= ((ns.getD p 0 - ns.getD q 0).natAbs : Int))) := by
   refine T1 ((c7 (b := .int s) (a := .int ((ns.getD p 0 - ns.getD q 0).natAbs : Int)) ?_ rfl).trans rfl)
   rw [zz5 (z9 ((c7 (d8 (ds := ns.map .int) (k := (p : Int)) rfl rfl atp) (d8 (ds := ns.map .int) (k := (q : Int)) rfl rfl atq)).trans (show subD (.int (ns.getD p 0)) (.int (ns.getD q 0)) = some (.int (ns.getD p 0 - ns.getD q 0)) from rfl)) x9)]
   show some (D.int (if ns.getD p 0 - ns.getD q 0 < 0 then -(ns.getD p 0 - ns.getD q 0) else ns.getD p 0 - ns.getD q 0)) = _
   rw [J6]
  have e2 : mix (l9 (mix (bvar 3) (mvar 6))) (m2 subD (mc (.int 1)) (mvar 7)) (eC ns s fi (.lst (DW L A)) (.lst (DW OD B)) (some (.sh (.int (p : Int)))) (some (.sh (.int (q : Int)))) (some (.sh (.int (bit b)))) o8 o9) = some (L (pick (!b) (A.getD q ([], [])))) :=
   zv7 (f := L) (A := A) ([], []) rfl rfl ((c7 (a := .int 1) (b := .int (bit b)) rfl rfl).trans (congrArg (fun z => some (D.int z)) (zs8 b))) (by omega)
  have e3 := zb0 (e6 (ds := (pick (!b) (A.getD q ([], []))).map dN) e2)
  rw [zu4] at e3
  exact za0 e1 e3
 unfold b9
 cases hc : (decide (s <= ((ns.getD p 0 - ns.getD q 0).natAbs : Int)) && !(pick (!b) (A.getD q ([], []))).isEmpty) with
 | false =>
  refine ⟨A, B, some (.sh (.int (bit b))), o8, o9, ⟨lA, lB, hI⟩, T9 _, n8, n9, fun x y h => ?_⟩
  refine seqW (yj1 (s7 x y)) ?_
  rw [yd9 ((cond x y h).trans (congrArg some hc))]
  rfl
 | true =>
  rw [Bool.and_eq_true, Bool.not_eq_true', isEmpty_eq_false_iff] at hc
  have wq := hI q (by omega) (!b)
  have wp := hI p hp b
  obtain ⟨t, ht⟩ := Option.ne_none_iff_exists'.mp (wq.2.1 hc.2)
  obtain ⟨r, hr, er⟩ := yt5 ((pick b (B.getD p (none, none))).getD (1, [])) (t.1 - 1, t.2 ++ [p])
  have tl := wq.2.2 t ht
  have hrl : r.2.length <= p + 1 := by
   rcases hr with rfl | rfl
   ·cases ho : pick b (B.getD p (none, none)) with
    | none => simp
    | some u => exact wp.2.2 u ho
   ·simp; omega
  generalize hA' : A.set p (putp b (ptL (pick b (A.getD p ([], []))) (pick (!b) (A.getD q ([], []))) (pick (!b) (A.getD q ([], []))).length) (A.getD p ([], []))) = A'
  generalize hB' : B.set p (putp b (some r) (B.getD p (none, none))) = B'
  refine ⟨A', B', some (.sh (.int (bit b))), some (.sh (.int t.1)), some (.sh (L t.2)), ⟨by rw [<- hA', length_set, lA], by rw [<- hB', length_set, lB], fun p' hp' c => ?_⟩, T9 _, T9 _, yd5 _, fun x y h => ?_⟩
  ·rw [<- hA', <- hB', M7 _ (by omega), M7 _ (by omega)]
   by_cases z : p' = p /\ c = b
   ·rw [if_pos z, if_pos z]
    obtain ⟨rfl, rfl⟩ := z
    refine ⟨?_, fun _ => by simp, fun u hu => by cases hu; exact hrl⟩
    rw [S1]
    have := wq.1
    have := wp.1
    omega
   ·rw [if_neg z, if_neg z]
    exact hI p' hp' c
  ·refine seqW (yj1 (s7 x y)) ?_
   rw [yd8 ((cond x y h).trans (congrArg some (by rw [Bool.and_eq_true, Bool.not_eq_true', isEmpty_eq_false_iff]; exact hc)))]
   have v1 : lsW (zd9 (N1 zk6 (z7 (mix (l9 (mix (bvar 3) (mvar 5))) (mvar 7)) (z7 (mix (l9 (mix (bvar 3) (mvar 6))) (m2 subD (mc (.int 1)) (mvar 7))) anil)))) (eC ns s fi (.ptr x) (.ptr y) (some (.sh (.int (p : Int)))) (some (.sh (.int (q : Int)))) (some (.sh (.int (bit b)))) o8 o9) (bx x y A B) = some (L (ptL (pick b (A.getD p ([], []))) (pick (!b) (A.getD q ([], []))) (pick (!b) (A.getD q ([], []))).length)) := by
    unfold lsW zd9
    rw [yu7 ns s fi h A B (T9 _) (T9 _) (T9 _) n8 n9]
    have a1 : mix (l9 (mix (bvar 3) (mvar 5))) (mvar 7) (eC ns s fi (.lst (DW L A)) (.lst (DW OD B)) (some (.sh (.int (p : Int)))) (some (.sh (.int (q : Int)))) (some (.sh (.int (bit b)))) o8 o9) = some (L (pick b (A.getD p ([], [])))) := zv7 (f := L) (A := A) ([], []) rfl rfl rfl (by omega)
    have a2 : mix (l9 (mix (bvar 3) (mvar 6))) (m2 subD (mc (.int 1)) (mvar 7)) (eC ns s fi (.lst (DW L A)) (.lst (DW OD B)) (some (.sh (.int (p : Int)))) (some (.sh (.int (q : Int)))) (some (.sh (.int (bit b)))) o8 o9) = some (L (pick (!b) (A.getD q ([], [])))) :=
     zv7 (f := L) (A := A) ([], []) rfl rfl ((c7 (a := .int 1) (b := .int (bit b)) rfl rfl).trans (congrArg (fun z => some (D.int z)) (zs8 b))) (by omega)
    have := wq.1
    have := wp.1
    rw [zv2 (z9 a1 (z9 a2 x9)) (yi9 _ _ (by omega) (by omega)), Option.bind_some, if_pos (ya9 _)]
    rfl
   have w1 := M5 (f := L) (i := 3) (k1 := mvar 5) (k2 := mvar 7) (p := p) (b := b) ([], []) v1 rfl (bx_x h) rfl rfl (by omega)
   rw [up_x h, hA'] at w1
   refine seqW w1 ?_
   have v2 : mixR 4 (mvar 6) (m2 subD (mc (.int 1)) (mvar 7)) (eC ns s fi (.ptr x) (.ptr y) (some (.sh (.int (p : Int)))) (some (.sh (.int (q : Int)))) (some (.sh (.int (bit b)))) o8 o9) (bx x y A' B) = some (T2 t) := by
    rw [ze6 (f := OD) (A := B) (p := q) (b := !b) (none, none) rfl bx_y rfl ((c7 (a := .int 1) (b := .int (bit b)) rfl rfl).trans (congrArg (fun z => some (D.int z)) (zs8 b))) (by omega), ht]
    rfl
   refine seqW (ρ' := eC ns s fi (.ptr x) (.ptr y) (some (.sh (.int (p : Int)))) (some (.sh (.int (q : Int)))) (some (.sh (.int (bit b)))) (some (.sh (.int t.1))) (some (.sh (L t.2)))) (β' := bx x y A' B) ?_ ?_
   ·unfold yw7
    rw [v2, Option.bind_some]
    rfl
   have v3 : mixR 4 (mvar 5) (mvar 7) (eC ns s fi (.ptr x) (.ptr y) (some (.sh (.int (p : Int)))) (some (.sh (.int (q : Int)))) (some (.sh (.int (bit b)))) (some (.sh (.int t.1))) (some (.sh (L t.2)))) (bx x y A' B) = some (OD (pick b (B.getD p (none, none)))) := ze6 (f := OD) (A := B) (p := p) (b := b) (none, none) rfl bx_y rfl rfl (by omega)
   have v4 : wE (mtup (z7 (mc (.int 1)) (z7 (mlst (v0 anil)) anil))) (eC ns s fi (.ptr x) (.ptr y) (some (.sh (.int (p : Int)))) (some (.sh (.int (q : Int)))) (some (.sh (.int (bit b)))) (some (.sh (.int t.1))) (some (.sh (L t.2)))) (bx x y A' B) = some (T2 (1, [])) :=
    P7 (z9 (d := .int 1) rfl (z9 (l7 (u8 x9 (Nat.zero_le _))) x9)) (w6 (by simp))
   have v5 : wE (mtup (z7 (m2 subD (mvar 8) (mc (.int 1))) (z7 (mlst (mcat (bvar 9) (v0 (z7 (mvar 5) anil)))) anil))) (eC ns s fi (.ptr x) (.ptr y) (some (.sh (.int (p : Int)))) (some (.sh (.int (q : Int)))) (some (.sh (.int (bit b)))) (some (.sh (.int t.1))) (some (.sh (L t.2)))) (bx x y A' B) = some (T2 (t.1 - 1, t.2 ++ [p])) := by
    have c1 := U2 (ρ := eC ns s fi (.ptr x) (.ptr y) (some (.sh (.int (p : Int)))) (some (.sh (.int (q : Int)))) (some (.sh (.int (bit b)))) (some (.sh (.int t.1))) (some (.sh (L t.2)))) (x := bvar 9) (ds := t.2.map dN) rfl (u8 (z9 (x := mvar 5) (d := .int (p : Int)) rfl x9) (w6 (by simp))) (w6 (by simp; omega))
    have := P7 (z9 ((c7 (f := subD) (ρ := eC ns s fi (.ptr x) (.ptr y) (some (.sh (.int (p : Int)))) (some (.sh (.int (q : Int)))) (some (.sh (.int (bit b)))) (some (.sh (.int t.1))) (some (.sh (L t.2)))) (x := mvar 8) (y := mc (.int 1)) (a := .int t.1) (b := .int 1) rfl rfl).trans (show subD (.int t.1) (.int 1) = some (.int (t.1 - 1)) from rfl)) (z9 (l7 c1) x9)) (w6 (by simp))
    unfold wE
    rw [this]
    unfold T2 L
    rw [map_append]
    rfl
   have v6 : zv0 (morW (mixR 4 (mvar 5) (mvar 7)) (wE (mtup (z7 (mc (.int 1)) (z7 (mlst (v0 anil)) anil))))) (wE (mtup (z7 (m2 subD (mvar 8) (mc (.int 1))) (z7 (mlst (mcat (bvar 9) (v0 (z7 (mvar 5) anil)))) anil)))) (eC ns s fi (.ptr x) (.ptr y) (some (.sh (.int (p : Int)))) (some (.sh (.int (q : Int)))) (some (.sh (.int (bit b)))) (some (.sh (.int t.1))) (some (.sh (L t.2)))) (bx x y A' B) = some (OD (some r)) := by
    unfold zv0
    rw [xy3 _ v3 v4, Option.bind_some, v5, Option.bind_some]
    exact er
   have w3 := M5 (f := OD) (i := 4) (k1 := mvar 5) (k2 := mvar 7) (p := p) (b := b) (none, none) v6 rfl bx_y rfl rfl (by omega)
   rw [up_y, hB'] at w3
   exact w3
end
section
theorem zu0 {α : Type} {f : α -> D} {g : Tg} {body : MW} {d : α} {ds : List α} {ρ ρ1 ρ2 : Ro} {β β2 : Bx} {r : Option (Out × Bx)} (h1 : tgD g (f d) ρ = some ρ1) (h2 : body ρ1 β = some (.nx ρ2, β2)) (h3 : forW g body (ds.map f) ρ2 β2 = r) : forW g body ((d :: ds).map f) ρ β = r := by
 rw [map_cons, forW, h1]
 simp only
 rw [h2]
 exact h3
theorem D6 (ns : List Int) (s : Int) (fi p : Nat) (hn : ns.length <= 40) (hp : p < ns.length) : ∀ (qs : List Nat) (A : AW) (B : BW) (o6 o7 o8 o9 : Option S), (∀ q ∈ qs, q < p) -> Iv ns.length A B -> NP o6 -> NP o7 -> NP o8 -> NP o9 ->
  ∃ A' B' p6 p7 p8 p9, Iv ns.length A' B' /\ NP p6 /\ NP p7 /\ NP p8 /\ NP p9 /\ ∀ x y, x ≠ y -> forW (.nm 6) b9 (qs.map dN) (eC ns s fi (.ptr x) (.ptr y) (some (.sh (.int (p : Int)))) o6 o7 o8 o9) (bx x y A B) = some (.nx (eC ns s fi (.ptr x) (.ptr y) (some (.sh (.int (p : Int)))) p6 p7 p8 p9), bx x y A' B')
 | [], A, B, o6, o7, o8, o9, _, I, n6, n7, n8, n9 => ⟨A, B, o6, o7, o8, o9, I, n6, n7, n8, n9, fun _ _ _ => rfl⟩
 | q :: qs, A, B, o6, o7, o8, o9, hq, I, n6, n7, n8, n9 => by
  obtain ⟨A1, B1, p7, p8, p9, I1, m7, m8, m9, e1⟩ := zb9 ns s fi p q hn (hq q (by simp)) hp A B I o7 o8 o9 n7 n8 n9
  obtain ⟨A2, B2, r6, r7, r8, r9, I2, k6, k7, k8, k9, e2⟩ := D6 ns s fi p hn hp qs A1 B1 _ p7 p8 p9 (fun z hz => hq z (by simp [hz])) I1 (T9 (q : Int)) m7 m8 m9
  refine ⟨A2, B2, r6, r7, r8, r9, I2, k6, k7, k8, k9, fun x y h => ?_⟩
  have ht : tgD (.nm 6) (dN q) (eC ns s fi (.ptr x) (.ptr y) (some (.sh (.int (p : Int)))) o6 o7 o8 o9) = some (eC ns s fi (.ptr x) (.ptr y) (some (.sh (.int (p : Int)))) (some (.sh (.int (q : Int)))) o7 o8 o9) := rfl
  exact zu0 ht (e1 x y h) (e2 x y h)
theorem zh9 {a b : ME} {ρ : Ro} {i j : Nat} (h1 : a ρ = some (.int (i : Int))) (h2 : b ρ = some (.int (j : Int))) (hi : i <= 1000) (hj : j <= 1000) : j8 rng2 (z7 a (z7 b anil)) ρ = some (((List.range (j - i)).map (i + ·)).map dN) := by
 unfold j8
 rw [z9 h1 (z9 h2 x9), Option.bind_some, yq3 (O9 (by omega) (by omega)) (O9 (by omega) (by omega)), P4, map_map, show ((j : Int) - (i : Int)).toNat = j - i by omega]
 rfl
theorem zp7 {mi : ML} {g : Tg} {body : MW} {ρ : Ro} {β : Bx} {its : List D} {r : Option (Out × Bx)} (h : mi ρ = some its) (h2 : forW g body its ρ β = r) : zk3 mi g body ρ β = r := by
 unfold zk3; rw [h]; exact h2
theorem yk0 (ns : List Int) (s : Int) (fi p : Nat) (hn : ns.length <= 40) (hp : p < ns.length) (hf : fi < ns.length) {x y : Addr} {o6 o7 o8 o9 : Option S} {r : Option (Out × Bx)} {β : Bx} (h : forW (.nm 6) b9 (((List.range (p - fi)).map (fi + ·)).map dN) (eC ns s fi (.ptr x) (.ptr y) (some (.sh (.int (p : Int)))) o6 o7 o8 o9) β = r) : Y6 (eC ns s fi (.ptr x) (.ptr y) (some (.sh (.int (p : Int)))) o6 o7 o8 o9) β = r := by
 have e := zh9 (a := mvar 2) (b := mvar 5) (ρ := eC ns s fi (.ptr x) (.ptr y) (some (.sh (.int (p : Int)))) o6 o7 o8 o9) (i := fi) (j := p) rfl rfl (by omega) (by omega)
 unfold Y6
 exact zp7 e h
theorem D5 (ns : List Int) (s : Int) (fi : Nat) (hn : ns.length <= 40) (hf : fi < ns.length) : ∀ (ps : List Nat) (A : AW) (B : BW) (o5 o6 o7 o8 o9 : Option S), (∀ q ∈ ps, q < ns.length) -> Iv ns.length A B -> NP o6 -> NP o7 -> NP o8 -> NP o9 ->
  ∃ A' B' p5 p6 p7 p8 p9, Iv ns.length A' B' /\ ∀ x y, x ≠ y -> forW (.nm 5) Y6 (ps.map dN) (eC ns s fi (.ptr x) (.ptr y) o5 o6 o7 o8 o9) (bx x y A B) = some (.nx (eC ns s fi (.ptr x) (.ptr y) p5 p6 p7 p8 p9), bx x y A' B')
 | [], A, B, o5, o6, o7, o8, o9, _, I, n6, n7, n8, n9 => ⟨A, B, o5, o6, o7, o8, o9, I, fun _ _ _ => rfl⟩
 | p :: ps, A, B, o5, o6, o7, o8, o9, hq, I, n6, n7, n8, n9 => by
  have hp := hq p (by simp)
  obtain ⟨A1, B1, p6, p7, p8, p9, I1, m6, m7, m8, m9, e1⟩ := D6 ns s fi p hn hp ((List.range (p - fi)).map (fi + ·)) A B o6 o7 o8 o9 (fun q hq => by
   rw [mem_map] at hq
   obtain ⟨i, hi, rfl⟩ := hq
   rw [mem_range] at hi
   omega) I n6 n7 n8 n9
  obtain ⟨A2, B2, r5, r6, r7, r8, r9, I2, e2⟩ := D5 ns s fi hn hf ps A1 B1 (some (.sh (.int (p : Int)))) p6 p7 p8 p9 (fun z hz => hq z (by simp [hz])) I1 m6 m7 m8 m9
  refine ⟨A2, B2, r5, r6, r7, r8, r9, I2, fun x y h => ?_⟩
  have ht : tgD (.nm 5) (dN p) (eC ns s fi (.ptr x) (.ptr y) o5 o6 o7 o8 o9) = some (eC ns s fi (.ptr x) (.ptr y) (some (.sh (.int (p : Int)))) o6 o7 o8 o9) := rfl
  exact zu0 ht (yk0 ns s fi p hn hp hf (e1 x y h)) (e2 x y h)
theorem zo2 (d : D) (m : ME) (hm : ∀ ρ, m ρ = some d) : ∀ (is : List Int) (o : Option S) (acc : List (List D)), acc.length + is.length <= 1000 -> F9 (.nm 0) (v0 (z7 m (z7 m anil))) (is.map .int) [o] acc = some (acc ++ List.replicate is.length [d, d])
 | [], o, acc, _ => by simp [F9]
 | i :: is, o, acc, h => by
  have i2 : 0 + 1 + 1 <= sizeLine := w6 (by decide)
  have big := g9
  rw [map_cons, F9]
  have e1 : tgD (.nm 0) (.int i) [o] = some [some (.sh (.int i))] := rfl
  rw [e1]
  simp only
  rw [u8 (z9 (hm _) (z9 (hm _) x9)) i2]
  simp only
  rw [if_pos (by simp at h; omega), zo2 d m hm is _ _ (by simp at h ⊢; omega)]
  simp [replicate_succ]
theorem zo3 (d : D) (m : ME) (hm : ∀ ρ, m ρ = some d) (ns : List Int) (hn : ns.length <= 40) {ρ : Ro} (h : mvar 0 ρ = some (RI ns)) : N0 [none] (l9 (mvar 0)) (.nm 0) (v0 (z7 m (z7 m anil))) ρ = some (List.replicate ns.length [d, d]) := by
 unfold N0
 rw [e6 h, Option.bind_some]
 show F9 (.nm 0) _ _ [none] [] = _
 rw [zo2 d m hm ns none [] (by simp; omega), nil_append]
theorem zf1 {m : MW} {n : Nat} {ds : List D} {d : D} {β : Bx} (e : m (j7 n ds) [] = some (.rt d, β)) : plainW (runW n m) ds = some (.sh d) := by
 unfold plainW runW
 rw [e]
theorem xw9 {x y : Addr} {A : AW} {B : BW} : delB y (bx x y A B) = [(x, .row (FW L A))] := by unfold bx delB; simp
theorem yv1 (n fi : Nat) (hf : fi < n) : Iv n ((List.replicate n ([], [])).set fi (putp false [0, 1] ((List.replicate n ([], [])).getD fi ([], [])))) ((List.replicate n (none, none)).set fi (putp false (some (-1, [fi])) ((List.replicate n (none, none)).getD fi (none, none)))) := by
 refine ⟨by simp, by simp, fun p hp c => ?_⟩
 rw [M7 _ (by simpa using hf), M7 _ (by simpa using hf)]
 by_cases z : p = fi /\ c = false
 ·rw [if_pos z, if_pos z]
  exact ⟨by simp, fun _ => by simp, fun u hu => by cases hu; simp⟩
 ·rw [if_neg z, if_neg z]
  have e1 : (List.replicate n (([] : List Nat), ([] : List Nat))).getD p ([], []) = ([], []) := by
   rw [getD_eq_getElem?_getD, getElem?_replicate, if_pos hp]; rfl
  have e2 : (List.replicate n ((none : Option (Int × List Nat)), (none : Option (Int × List Nat)))).getD p (none, none) = (none, none) := by
   rw [getD_eq_getElem?_getD, getElem?_replicate, if_pos hp]; rfl
  rw [e1, e2]
  cases c
  ·exact ⟨by simp [pick], fun h => absurd rfl h, fun u hu => by cases hu⟩
  ·exact ⟨by simp [pick], fun h => absurd rfl h, fun u hu => by cases hu⟩
theorem yk1 (ns : List Int) (s : Int) (fi : Nat) (hn : ns.length <= 40) (hf : fi < ns.length) : ∃ A B, Iv ns.length A B /\ W5 [RI ns, .int s, .int (fi : Int)] = some (.sh (.tup [.lst (DW L A), .lst (DW OD B)])) := by
 have big := g9
 obtain ⟨A, B, p5, p6, p7, p8, p9, I, e⟩ := D5 ns s fi hn hf ((List.range (ns.length - (fi + 1))).map (fi + 1 + ·)) _ _ none none none none none (fun q hq => by
   rw [mem_map] at hq
   obtain ⟨i, hi, rfl⟩ := hq
   rw [mem_range] at hi
   omega) (yv1 ns.length fi hf) B9 B9 B9 B9
 refine ⟨A, B, I, ?_⟩
 unfold W5
 refine zf1 (β := []) ?_
 have r3 : ∀ x y, x ≠ y -> Y5 (eC ns s fi (.ptr x) (.ptr y) none none none none none) (bx x y (List.replicate ns.length ([], [])) (List.replicate ns.length (none, none))) = some (.rt (.tup [.lst (DW L A), .lst (DW OD B)]), []) := fun x y h => by
  unfold Y5
  have v1 : wE (mlst (v0 (z7 (mc (.int 0)) (z7 (mc (.int 1)) anil)))) (eC ns s fi (.ptr x) (.ptr y) none none none none none) (bx x y (List.replicate ns.length ([], [])) (List.replicate ns.length (none, none))) = some (L [0, 1]) := l7 (u8 (z9 (d := .int 0) rfl (z9 (d := .int 1) rfl x9)) (w6 (by simp)))
  have w1 := M5 (f := L) (i := 3) (k1 := mvar 2) (k2 := mc (.int 0)) (p := fi) (b := false) ([], []) v1 rfl (bx_x h) rfl rfl (by simpa using hf)
  rw [up_x h] at w1
  refine seqW w1 ?_
  have v2 : ∀ A', wE (mtup (z7 (m1 negD (mc (.int 1))) (z7 (mlst (v0 (z7 (mvar 2) anil))) anil))) (eC ns s fi (.ptr x) (.ptr y) none none none none none) (bx x y A' (List.replicate ns.length (none, none))) = some (OD (some (-1, [fi]))) := fun A' => P7 (z9 (d := .int (-1)) rfl (z9 (l7 (u8 (z9 (x := mvar 2) (d := .int (fi : Int)) rfl x9) (w6 (by simp)))) x9)) (w6 (by simp))
  have w2 := M5 (f := OD) (i := 4) (k1 := mvar 2) (k2 := mc (.int 0)) (p := fi) (b := false) (none, none) (v2 ((List.replicate ns.length ([], [])).set fi (putp false [0, 1] ((List.replicate ns.length ([], [])).getD fi ([], []))))) rfl bx_y rfl rfl (by simpa using hf)
  rw [up_y] at w2
  refine seqW w2 ?_
  refine seqW (ρ' := eC ns s fi (.ptr x) (.ptr y) p5 p6 p7 p8 p9) (β' := bx x y A B) ?_ ?_
  ·have eL : mlen (bvar 0) (eC ns s fi (.ptr x) (.ptr y) none none none none none) = some (.int (ns.length : Int)) := by rw [X6 (ds := ns.map .int) rfl, length_map]
   have e1 : m2 addD (mvar 2) (mc (.int 1)) (eC ns s fi (.ptr x) (.ptr y) none none none none none) = some (.int ((fi + 1 : Nat) : Int)) := (c7 (a := .int (fi : Int)) (b := .int 1) rfl rfl).trans rfl
   exact zp7 (zh9 e1 eL (by omega) (by omega)) (e x y h)
  ·unfold P0 R9
   simp only [show (eC ns s fi (.ptr x) (.ptr y) p5 p6 p7 p8 p9)[4]? = some (some (.sh (.ptr y))) from rfl, bx_y, FW_S, xw9]
   simp only [show ((eC ns s fi (.ptr x) (.ptr y) p5 p6 p7 p8 p9).set 4 (some (.sh (.lst (DW OD B)))))[3]? = some (some (.sh (.ptr x))) from rfl, lookup_cons, beq_self_eq_true, FW_S]
   unfold yw2 wE
   rw [P7 (z9 (x := mvar 3) (d := .lst (DW L A)) rfl (z9 (x := mvar 4) (d := .lst (DW OD B)) rfl x9)) (w6 (by simp))]
   show some (Out.rt _, delB x [(x, Cell.row (FW L A))]) = _
   unfold delB
   simp
 have r4 : ∀ x, Y4 (eC ns s fi (.ptr x) (.lst []) none none none none none |>.set 4 none) [(x, .row (FW L (List.replicate ns.length ([], []))))] = some (.rt (.tup [.lst (DW L A), .lst (DW OD B)]), []) := fun x => by
  unfold Y4 zk2
  rw [zo3 .non (mc .non) (fun _ => rfl) ns hn rfl, Option.bind_some]
  refine yz1 fun y hy => ?_
  have hxy : x ≠ y := fun z => hy (by simp [z])
  have : (List.replicate ns.length [D.non, D.non]).map Fl.l = FW OD (List.replicate ns.length (none, none)) := by unfold FW; simp [OD]
  rw [this]
  show (Y5 (eC ns s fi (.ptr x) (.ptr y) none none none none none) (bx x y _ _)).map _ = _
  rw [r3 x y hxy]
  rfl
 unfold b_law_come zk2
 rw [zo3 (.lst []) (mlst (v0 anil)) (fun _ => l7 (u8 x9 (Nat.zero_le _))) ns hn rfl, Option.bind_some]
 refine yz1 fun x _ => ?_
 have : (List.replicate ns.length [D.lst [], D.lst []]).map Fl.l = FW L (List.replicate ns.length ([], [])) := by unfold FW; simp [L]
 rw [this]
 show (Y4 (eC ns s fi (.ptr x) (.lst []) none none none none none |>.set 4 none) _).map _ = _
 rw [r4 x]
 rfl
end
section
def eT (row : List Int) (s : Int) (bs : List Nat) (t : Int × List Nat) (o4 o5 o6 o7 o8 o9 o10 : Option S) : Ro := [some (.sh (RI row)), some (.sh (.int s)), some (.own (bs.map dN)), some (.sh (T2 t)), o4, o5, o6, o7, o8, o9, o10]
def Ib (n : Nat) (bs : List Nat) : Prop := bs.length = n + 1 /\ 1 <= bs.getD 0 0
theorem ym2 {m : ME} {ρ : Ro} {k : Nat} (h : m ρ = some (.int (k : Int))) : m2 U3 m (mc (.int 2)) ρ = some (.int ((k / 2 : Nat) : Int)) := by
 rw [c7 h (b := .int 2) rfl]
 show (if N3 (k : Int) 2 = true then some (D.int ((k : Int) / 2)) else none) = _
 rw [if_pos (W6 _ _ (by decide) (by decide))]
 rfl
theorem yr3 (row : List Int) (s : Int) (bs : List Nat) (t : Int × List Nat) (o4 o5 o6 o7 o8 : Option S) (k v n : Nat) (hb : Ib n bs) (hk : k <= n) : ∃ bs', Ib n bs' /\ P1 (eT row s bs t o4 o5 o6 o7 o8 (some (.sh (.int (k : Int)))) (some (.sh (dN v)))) = some (.nx (eT row s bs' t o4 o5 o6 o7 o8 (some (.sh (.int (k : Int)))) (some (.sh (dN v))))) := by
 have hl : k / 2 < bs.length := by have := hb.1; omega
 refine ⟨bs.set (k / 2) (bs.getD (k / 2) 0 + v), ⟨by rw [length_set]; exact hb.1, ?_⟩, ?_⟩
 ·rw [getD_eq_getElem?_getD, getElem?_set]
  by_cases z : k / 2 = 0
  ·rw [if_pos z, if_pos (by omega), z]
   show 1 <= bs.getD 0 0 + v
   have := hb.2
   omega
  ·rw [if_neg z, <- getD_eq_getElem?_getD]; exact hb.2
 ·unfold P1
  have ih := ym2 (m := mvar 9) (ρ := eT row s bs t o4 o5 o6 o7 o8 (some (.sh (.int (k : Int)))) (some (.sh (dN v)))) (k := k) rfl
  refine (zq8 (ns := bs) (p := k / 2) (v := bs.getD (k / 2) 0 + v) rfl ih ((c7 (d8 (m := bvar 2) (ds := bs.map dN) rfl ih (ya6 bs _ hl)) (b := dN v) rfl).trans rfl) hl).trans rfl
theorem ys9 (row : List Int) (s : Int) (bs : List Nat) (t : Int × List Nat) (o4 o5 o6 o7 o8 o9 o10 : Option S) (n : Nat) (w : List Nat) (hb : Ib n bs) (hw : w.length <= n + 1) (m : ME) (hm : m (eT row s bs t o4 o5 o6 o7 o8 o9 o10) = some (L w)) :
  ∃ bs' q9 q10, Ib n bs' /\ mfor (j8 zz3 (z7 m anil)) (.tp [9, 10]) P1 (eT row s bs t o4 o5 o6 o7 o8 o9 o10) = some (.nx (eT row s bs' t o4 o5 o6 o7 o8 q9 q10)) := by
 have R : Run (mfor (j8 zz3 (z7 m anil)) (.tp [9, 10]) P1) (eT row s bs t o4 o5 o6 o7 o8 o9 o10) (fun o => ∃ bs' q9 q10, o = .nx (eT row s bs' t o4 o5 o6 o7 o8 q9 q10) /\ Ib n bs') := by
  refine X3 w.length (f := fun (i : Nat) => D.tup [.int (i : Int), dN (w.getD i 0)]) ?_ (I := fun _ ρ => ∃ bs' q9 q10, ρ = eT row s bs' t o4 o5 o6 o7 o8 q9 q10 /\ Ib n bs') _ ⟨bs, o9, o10, rfl, hb⟩ ?_ ?_
  ·unfold j8
   rw [z9 hm x9, Option.bind_some]
   show some (O0 0 (w.map dN)) = _
   rw [zz2]
   congr 1
   apply map_congr_left
   intro i _
   rw [Nat.zero_add]
  ·rintro k ρ hk ⟨bs', q9, q10, rfl, hb'⟩
   obtain ⟨b2, h2, e2⟩ := yr3 row s bs' t o4 o5 o6 o7 o8 k (w.getD k 0) n hb' (by omega)
   exact ⟨eT row s bs' t o4 o5 o6 o7 o8 (some (.sh (.int (k : Int)))) (some (.sh (dN (w.getD k 0)))), rfl, _, e2, b2, _, _, rfl, h2⟩
  ·rintro ρ ⟨bs', q9, q10, rfl, hb'⟩
   exact ⟨bs', q9, q10, rfl, hb'⟩
 obtain ⟨o, e, bs', q9, q10, rfl, h⟩ := R
 exact ⟨bs', q9, q10, h, e⟩
theorem yr2 (row ns : List Int) (s : Int) (bs : List Nat) (t : Int × List Nat) (fi p : Nat) (A : AW) (B : BW) (o9 o10 : Option S) (I : Iv ns.length A B) (hp : p < ns.length) (hf : fi < ns.length) (hb : Ib ns.length bs) (ht : t.2.length <= ns.length) :
  ∃ bs' t' q9 q10, Ib ns.length bs' /\ t'.2.length <= ns.length /\ L9 (eT row s bs t (some (.sh (RI ns))) (some (.sh (.int (fi : Int)))) (some (.sh (.lst (DW L A)))) (some (.sh (.lst (DW OD B)))) (some (.sh (.int (p : Int)))) o9 o10) = some (.nx (eT row s bs' t' (some (.sh (RI ns))) (some (.sh (.int (fi : Int)))) (some (.sh (.lst (DW L A)))) (some (.sh (.lst (DW OD B)))) (some (.sh (.int (p : Int)))) q9 q10)) := by
 obtain ⟨lA, lB, hI⟩ := I
 have w := hI p hp true
 have m1e : ∀ bs t o9 o10, mix (l9 (mix (bvar 6) (mvar 8))) (mc (.int 1)) (eT row s bs t (some (.sh (RI ns))) (some (.sh (.int (fi : Int)))) (some (.sh (.lst (DW L A)))) (some (.sh (.lst (DW OD B)))) (some (.sh (.int (p : Int)))) o9 o10) = some (L (pick true (A.getD p ([], [])))) := fun bs t o9 o10 => zv7 (f := L) (A := A) (b := true) ([], []) rfl rfl rfl (by omega)
 have m2e : ∀ bs t o9 o10, mix (l9 (mix (bvar 7) (mvar 8))) (mc (.int 1)) (eT row s bs t (some (.sh (RI ns))) (some (.sh (.int (fi : Int)))) (some (.sh (.lst (DW L A)))) (some (.sh (.lst (DW OD B)))) (some (.sh (.int (p : Int)))) o9 o10) = some (OD (pick true (B.getD p (none, none)))) := fun bs t o9 o10 => zv7 (f := OD) (A := B) (b := true) (none, none) rfl rfl rfl (by omega)
 have c1 := zb0 (e6 (ds := (pick true (A.getD p ([], []))).map dN) (m1e bs t o9 o10))
 rw [zu4] at c1
 have c2 : l6 (m2 geD (m2 subD (mix (bvar 4) (mvar 8)) (mix (bvar 4) (mvar 5))) (mvar 1)) (eT row s bs t (some (.sh (RI ns))) (some (.sh (.int (fi : Int)))) (some (.sh (.lst (DW L A)))) (some (.sh (.lst (DW OD B)))) (some (.sh (.int (p : Int)))) o9 o10) = some (decide (s <= ns.getD p 0 - ns.getD fi 0)) :=
  T1 ((c7 (b := .int s) ((c7 (d8 (ds := ns.map .int) (k := (p : Int)) rfl rfl (zn1 ns p hp)) (d8 (ds := ns.map .int) (k := (fi : Int)) rfl rfl (zn1 ns fi hf))).trans (show subD (.int (ns.getD p 0)) (.int (ns.getD fi 0)) = some (.int (ns.getD p 0 - ns.getD fi 0)) from rfl)) rfl).trans rfl)
 have cc := za0 c1 c2
 unfold L9
 cases hc : (!(pick true (A.getD p ([], []))).isEmpty && decide (s <= ns.getD p 0 - ns.getD fi 0)) with
 | false =>
  rw [hc] at cc
  exact ⟨bs, t, o9, o10, hb, ht, W4 cc⟩
 | true =>
  rw [hc] at cc
  rw [Bool.and_eq_true, Bool.not_eq_true', isEmpty_eq_false_iff] at hc
  obtain ⟨u, hu⟩ := Option.ne_none_iff_exists'.mp (w.2.1 hc.1)
  obtain ⟨b2, q9, q10, h2, e2⟩ := ys9 row s bs t _ _ _ _ _ o9 o10 ns.length _ hb (by have := w.1; omega) _ (m1e bs t o9 o10)
  obtain ⟨r, hr, er⟩ := yt5 t u
  have hul := w.2.2 u hu
  refine ⟨b2, r, q9, q10, h2, by rcases hr with rfl | rfl <;> omega, ?_⟩
  rw [zp6 cc]
  refine seqI e2 ?_
  refine (c8 (d := T2 r) ?_).trans rfl
  have m3 := m2e b2 t q9 q10
  rw [hu] at m3
  rw [zz5 (z9 (x := mvar 3) (d := T2 t) rfl (z9 m3 x9))]
  exact er
theorem yr1 (row ns : List Int) (s : Int) (bs : List Nat) (t : Int × List Nat) (fi : Nat) (o6 o7 o8 o9 o10 : Option S) (hn : ns.length <= 40) (hrow : row.length = ns.length) (hf : fi < ns.length) (hb : Ib ns.length bs) (ht : t.2.length <= ns.length) :
  ∃ bs' t' q6 q7 q8 q9 q10, Ib ns.length bs' /\ t'.2.length <= ns.length /\ L8 (eT row s bs t (some (.sh (RI ns))) (some (.sh (.int (fi : Int)))) o6 o7 o8 o9 o10) = some (.nx (eT row s bs' t' (some (.sh (RI ns))) (some (.sh (.int (fi : Int)))) q6 q7 q8 q9 q10)) := by
 obtain ⟨A, B, I, ec⟩ := yk1 ns s fi hn hf
 have R : Run (mfor (j8 rng2 (z7 (m2 addD (mvar 5) (mc (.int 1))) (z7 (mlen (bvar 0)) anil))) (.nm 8) L9) (eT row s bs t (some (.sh (RI ns))) (some (.sh (.int (fi : Int)))) (some (.sh (.lst (DW L A)))) (some (.sh (.lst (DW OD B)))) o8 o9 o10) (fun o => ∃ bs' t' q8 q9 q10, o = .nx (eT row s bs' t' (some (.sh (RI ns))) (some (.sh (.int (fi : Int)))) (some (.sh (.lst (DW L A)))) (some (.sh (.lst (DW OD B)))) q8 q9 q10) /\ Ib ns.length bs' /\ t'.2.length <= ns.length) := by
  have eL : mlen (bvar 0) (eT row s bs t (some (.sh (RI ns))) (some (.sh (.int (fi : Int)))) (some (.sh (.lst (DW L A)))) (some (.sh (.lst (DW OD B)))) o8 o9 o10) = some (.int (ns.length : Int)) := by rw [X6 (ds := row.map .int) rfl, length_map, hrow]
  have e1 : m2 addD (mvar 5) (mc (.int 1)) (eT row s bs t (some (.sh (RI ns))) (some (.sh (.int (fi : Int)))) (some (.sh (.lst (DW L A)))) (some (.sh (.lst (DW OD B)))) o8 o9 o10) = some (.int ((fi + 1 : Nat) : Int)) := (c7 (a := .int (fi : Int)) (b := .int 1) rfl rfl).trans rfl
  refine S0 ((List.range (ns.length - (fi + 1))).map (fi + 1 + ·)) (f := dN) (zh9 e1 eL (by omega) (by omega)) (I := fun ps ρ => (∀ p ∈ ps, p < ns.length) /\ ∃ bs' t' q8 q9 q10, ρ = eT row s bs' t' (some (.sh (RI ns))) (some (.sh (.int (fi : Int)))) (some (.sh (.lst (DW L A)))) (some (.sh (.lst (DW OD B)))) q8 q9 q10 /\ Ib ns.length bs' /\ t'.2.length <= ns.length) _ ⟨fun q hq => ?_, bs, t, o8, o9, o10, rfl, hb, ht⟩ ?_ ?_
  ·rw [mem_map] at hq
   obtain ⟨i, hi, rfl⟩ := hq
   rw [mem_range] at hi
   omega
  ·rintro p ps ρ ⟨hp, bs', t', q8, q9, q10, rfl, hb', ht'⟩
   obtain ⟨b2, t2, r9, r10, h2, h3, e2⟩ := yr2 row ns s bs' t' fi p A B q9 q10 I (hp p (by simp)) hf hb' ht'
   exact ⟨eT row s bs' t' (some (.sh (RI ns))) (some (.sh (.int (fi : Int)))) (some (.sh (.lst (DW L A)))) (some (.sh (.lst (DW OD B)))) (some (.sh (.int (p : Int)))) q9 q10, rfl, _, e2, fun z hz => hp z (by simp [hz]), b2, t2, _, _, _, rfl, h2, h3⟩
  ·rintro ρ ⟨_, bs', t', q8, q9, q10, rfl, hb', ht'⟩
   exact ⟨bs', t', q8, q9, q10, rfl, hb', ht'⟩
 obtain ⟨o, e, bs', t', q8, q9, q10, rfl, hb', ht'⟩ := R
 refine ⟨bs', t', some (.sh (.lst (DW L A))), some (.sh (.lst (DW OD B))), q8, q9, q10, hb', ht', ?_⟩
 unfold L8
 refine seqI (ρ' := eT row s bs t (some (.sh (RI ns))) (some (.sh (.int (fi : Int)))) (some (.sh (.lst (DW L A)))) (some (.sh (.lst (DW OD B)))) o8 o9 o10) ?_ e
 unfold masg
 rw [Z5 (z9 (x := mvar 4) (d := RI ns) rfl (z9 (x := mvar 1) (d := .int s) rfl (z9 (x := mvar 5) (d := .int (fi : Int)) rfl x9))) ec, Option.bind_some]
 rfl
theorem yr0 (row ns : List Int) (s : Int) (bs : List Nat) (t : Int × List Nat) (o5 o6 o7 o8 o9 o10 : Option S) (hn : ns.length <= 40) (hrow : row.length = ns.length) (hb : Ib ns.length bs) (ht : t.2.length <= ns.length) :
  ∃ bs' t' q5 q6 q7 q8 q9 q10, Ib ns.length bs' /\ t'.2.length <= ns.length /\ zy2 (eT row s bs t (some (.sh (RI ns))) o5 o6 o7 o8 o9 o10) = some (.nx (eT row s bs' t' (some (.sh (RI ns))) q5 q6 q7 q8 q9 q10)) := by
 have R : Run (mfor (j8 rng1 (z7 (mlen (bvar 0)) anil)) (.nm 5) L8) (eT row s bs t (some (.sh (RI ns))) o5 o6 o7 o8 o9 o10) (fun o => ∃ bs' t' q5 q6 q7 q8 q9 q10, o = .nx (eT row s bs' t' (some (.sh (RI ns))) q5 q6 q7 q8 q9 q10) /\ Ib ns.length bs' /\ t'.2.length <= ns.length) := by
  have eL : mlen (bvar 0) (eT row s bs t (some (.sh (RI ns))) o5 o6 o7 o8 o9 o10) = some (.int (ns.length : Int)) := by rw [X6 (ds := row.map .int) rfl, length_map, hrow]
  refine X3 ns.length (f := dN) ?_ (I := fun _ ρ => ∃ bs' t' q5 q6 q7 q8 q9 q10, ρ = eT row s bs' t' (some (.sh (RI ns))) q5 q6 q7 q8 q9 q10 /\ Ib ns.length bs' /\ t'.2.length <= ns.length) _ ⟨bs, t, o5, o6, o7, o8, o9, o10, rfl, hb, ht⟩ ?_ ?_
  ·unfold j8
   rw [z9 eL x9, Option.bind_some, P3 (O9 (by omega) (by omega)), P4, Int.toNat_natCast]
   congr 1
   apply map_congr_left
   intro i _
   show D.int (0 + (i : Int)) = D.int (i : Int)
   rw [Int.zero_add]
  ·rintro k ρ hk ⟨bs', t', q5, q6, q7, q8, q9, q10, rfl, hb', ht'⟩
   obtain ⟨b2, t2, r6, r7, r8, r9, r10, h2, h3, e2⟩ := yr1 row ns s bs' t' k q6 q7 q8 q9 q10 hn hrow hk hb' ht'
   exact ⟨eT row s bs' t' (some (.sh (RI ns))) (some (.sh (.int (k : Int)))) q6 q7 q8 q9 q10, rfl, _, e2, b2, t2, _, _, _, _, _, _, rfl, h2, h3⟩
  ·rintro ρ ⟨bs', t', q5, q6, q7, q8, q9, q10, rfl, hb', ht'⟩
   exact ⟨bs', t', q5, q6, q7, q8, q9, q10, rfl, hb', ht'⟩
 obtain ⟨o, e, bs', t', q5, q6, q7, q8, q9, q10, rfl, hb', ht'⟩ := R
 exact ⟨bs', t', q5, q6, q7, q8, q9, q10, hb', ht', e⟩
theorem pops (row : List Int) (s : Int) (t : Int × List Nat) (o4 o5 o6 o7 o8 o9 o10 : Option S) : ∀ (u : Nat) (bs : List Nat), bs.length < u -> 1 <= bs.getD 0 0 -> ∃ bs', S8 (l6 (m2 eqSD (mix (bvar 2) (m1 negD (mc (.int 1)))) (mc (.int 0)))) L7 u (eT row s bs t o4 o5 o6 o7 o8 o9 o10) = some (.nx (eT row s bs' t o4 o5 o6 o7 o8 o9 o10))
 | 0, bs, h, _ => by omega
 | u + 1, bs, h, h1 => by
  rcases eq_nil_or_concat bs with rfl | ⟨A, x, rfl⟩
  ·simp at h1
  rw [concat_eq_append] at h h1 ⊢
  have ei : mix (bvar 2) (m1 negD (mc (.int 1))) (eT row s (A ++ [x]) t o4 o5 o6 o7 o8 o9 o10) = some (.int (x : Int)) := d8 (ds := (A ++ [x]).map dN) (k := -1) rfl rfl (atI_last dN A x)
  have ec := zh3 ei (j := 0) (y := mc (.int 0)) rfl
  unfold S8
  rw [ec]
  by_cases z : x = 0
  ·subst z
   simp only [show (((0 : Nat) : Int) == 0) = true from rfl]
   have ep : L7 (eT row s (A ++ [0]) t o4 o5 o6 o7 o8 o9 o10) = some (.nx (eT row s A t o4 o5 o6 o7 o8 o9 o10)) := by
    unfold L7 yw3
    show (if 0 < ((A ++ [0]).map dN).length then some (Out.nx ((eT row s (A ++ [0]) t o4 o5 o6 o7 o8 o9 o10).set 2 (some (.own ((A ++ [0]).map dN).dropLast)))) else none) = _
    rw [if_pos (by simp), map_append, map_cons, map_nil, dropLast_concat]
    rfl
   rw [ep]
   have hA : A ≠ [] := fun w => by subst w; simp at h1
   obtain ⟨a, A', rfl⟩ := exists_cons_of_ne_nil hA
   exact pops row s t o4 o5 o6 o7 o8 o9 o10 u (a :: A') (by simp at h ⊢; omega) (by simpa using h1)
  ·have : ((x : Int) == 0) = false := beq_eq_false_iff_ne.mpr (by omega)
   rw [this]
   exact ⟨_, rfl⟩
theorem yr4 (row : List Int) (s : Int) (hn : row.length <= 40) : ∃ (ds : List D) (l : List Nat), l.length <= 40 /\ zd2 [RI row, .int s] = some (.sh (.tup [.lst ds, L l])) := by
 have big := g9
 have e0 : mcat (v0 (z7 (mc (.int 1)) anil)) (mrep (v0 (z7 (mc (.int 0)) anil)) (mlen (bvar 0))) (j7 11 [RI row, .int s]) = some ((1 :: List.replicate row.length 0).map dN) := by
  have i1 : 1 <= sizeLine := w6 (by decide)
  have rk : zx5 1 (row.length : Int) = true := by
   unfold zx5
   rw [decide_eq_true (by omega), decide_eq_true (by omega), decide_eq_true (by omega)]; rfl
  have eL : mlen (bvar 0) (j7 11 [RI row, .int s]) = some (.int (row.length : Int)) := by rw [X6 (ds := row.map .int) rfl, length_map]
  have rp := ze5 (x := v0 (z7 (mc (.int 0)) anil)) (u8 (z9 (d := .int 0) rfl x9) i1) eL rk
  have e1 : (List.replicate (row.length : Int).toNat [D.int 0]).flatten = (List.replicate row.length 0).map dN := by
   rw [Int.toNat_natCast, map_replicate]
   generalize row.length = n
   induction n with
   | zero => rfl
   | succ n ih => rw [replicate_succ, flatten_cons, ih, replicate_succ]; rfl
  rw [e1] at rp
  exact (U2 (u8 (z9 (d := .int 1) rfl x9) i1) rp (w6 (by simp; omega))).trans rfl
 have e1 : mtup (z7 (mc (.int 0)) (z7 (mlst (v0 anil)) anil)) (eT row s (1 :: List.replicate row.length 0) (0, []) none none none none none none none |>.set 3 none) = some (T2 (0, [])) := P7 (z9 (d := .int 0) rfl (z9 (l7 (u8 x9 (Nat.zero_le _))) x9)) (w6 (by simp))
 have i0 : Ib row.length (1 :: List.replicate row.length 0) := ⟨by simp, by simp⟩
 have R : Run (mfor (l9 (mlst (v0 (z7 (mvar 0) (z7 (mlst (Q0 [none] (l9 (mvar 0)) (.nm 0) cyes (m2 subD (mc (.int 0)) (mvar 0)))) anil))))) (.nm 4) zy2) (eT row s (1 :: List.replicate row.length 0) (0, []) none none none none none none none) (fun o => ∃ bs' t' q4 q5 q6 q7 q8 q9 q10, o = .nx (eT row s bs' t' q4 q5 q6 q7 q8 q9 q10) /\ Ib row.length bs' /\ t'.2.length <= row.length) := by
  have eg : Q0 [none] (l9 (mvar 0)) (.nm 0) cyes (m2 subD (mc (.int 0)) (mvar 0)) (eT row s (1 :: List.replicate row.length 0) (0, []) none none none none none none none) = some ((row.map fun x => 0 - x).map .int) := by
   unfold Q0
   rw [e6 (ds := row.map .int) rfl, Option.bind_some]
   refine (Q7 (f := D.int) (G := fun x => D.int (0 - x)) (fun _ ρ => ∃ x, ρ = [x]) (by
    rintro x xs ρ ⟨y, rfl⟩
    exact ⟨[some (.sh (.int x))], rfl, rfl, (c7 (f := subD) (a := .int 0) (b := .int x) rfl rfl).trans rfl, _, rfl⟩) row _ [] ⟨none, rfl⟩ (by simp; omega)).trans ?_
   rw [nil_append, map_map]
   rfl
  refine S0 [row, row.map fun x => 0 - x] (f := RI) ?_ (I := fun rs ρ => (∀ r ∈ rs, r.length = row.length) /\ ∃ bs' t' q4 q5 q6 q7 q8 q9 q10, ρ = eT row s bs' t' q4 q5 q6 q7 q8 q9 q10 /\ Ib row.length bs' /\ t'.2.length <= row.length) _ ⟨by simp, _, _, none, none, none, none, none, none, none, rfl, i0, Nat.zero_le _⟩ ?_ ?_
  ·exact e6 (l7 (u8 (z9 (x := mvar 0) (d := RI row) rfl (z9 (l7 eg) x9)) (w6 (by simp))))
  ·rintro r rs ρ ⟨hr, bs', t', q4, q5, q6, q7, q8, q9, q10, rfl, hb', ht'⟩
   have hl := hr r (by simp)
   obtain ⟨b2, t2, r5, r6, r7, r8, r9, r10, h2, h3, e2⟩ := yr0 row r s bs' t' q5 q6 q7 q8 q9 q10 (by omega) hl.symm (by rw [hl]; exact hb') (by omega)
   rw [hl] at h2 h3
   exact ⟨eT row s bs' t' (some (.sh (RI r))) q5 q6 q7 q8 q9 q10, rfl, _, e2, fun z hz => hr z (by simp [hz]), b2, t2, _, _, _, _, _, _, _, rfl, h2, h3⟩
  ·rintro ρ ⟨_, bs', t', q4, q5, q6, q7, q8, q9, q10, rfl, hb', ht'⟩
   exact ⟨bs', t', q4, q5, q6, q7, q8, q9, q10, rfl, hb', ht'⟩
 obtain ⟨o, e, bs', t', q4, q5, q6, q7, q8, q9, q10, rfl, hb', ht'⟩ := R
 obtain ⟨b3, ew⟩ := pops row s t' q4 q5 q6 q7 q8 q9 q10 1000 bs' (by have := hb'.1; omega) hb'.2
 refine ⟨b3.map dN, t'.2, by omega, ?_⟩
 unfold zd2 b_Z15
 refine Z9 ?_
 refine seqI (ρ' := eT row s (1 :: List.replicate row.length 0) (0, []) none none none none none none none |>.set 3 none) ((U0 e0).trans rfl) ?_
 refine seqI (ρ' := eT row s (1 :: List.replicate row.length 0) (0, []) none none none none none none none) ((c8 e1).trans rfl) ?_
 refine seqI e ?_
 unfold zo6
 refine seqI ew ?_
 unfold zo7 X7
 show mret _ ((eT row s b3 t' q4 q5 q6 q7 q8 q9 q10).set 2 (some (.sh (L b3)))) = _
 refine A9 (P7 (z9 (x := mvar 2) (d := L b3) rfl (z9 (d := L t'.2) ?_ x9)) (w6 (by simp)))
 exact (c7 (a := T2 t') (b := .int 1) rfl rfl).trans rfl
end
section
def eV (scr : D) (c : Int) (row : List Int) (s : Int) (mr : List Int) (o5 o6 o7 o8 o9 o10 o11 : Option S) : Ro := [some (.sh scr), some (.sh (.int c)), some (.sh (RI row)), some (.sh (.int s)), some (.sh (RI mr)), o5, o6, o7, o8, o9, o10, o11]
theorem xw7 (scr : D) (c : Int) (row : List Int) (s : Int) (mr ps : List Int) (o5 o8 o9 o10 o11 : Option S) (hs : 1 <= s) (hl : ps.length <= 1000) : ∃ q9, L6 (eV scr c row s mr o5 (some (.sh (RI ps))) (some (.sh (HP row ps))) o8 o9 o10 o11) = some (.nx (eV scr c row s mr o5 (some (.sh (RI ps))) (some (.sh (HP row ps))) o8 q9 o10 o11)) := by
 refine ⟨some (.sh (.bl (wr row s ps))), ?_⟩
 unfold L6
 refine seqI (ρ' := eV scr c row s mr o5 (some (.sh (RI ps))) (some (.sh (HP row ps))) o8 (some (.sh (.bl (wr row s ps)))) o10 o11) ((c8 (Z5 (z9 (d8 (m := bvar 7) (ds := [RI row, RI ps]) (k := 0) rfl rfl rfl) (z9 (x := mvar 3) (d := .int s) rfl (z9 (d8 (m := bvar 7) (ds := [RI row, RI ps]) (k := 1) rfl rfl rfl) x9))) (C4 row ps s hs (by omega)))).trans rfl) ?_
 refine W4 ((ys1 (a := false) (b := false) ?_ ?_).trans rfl)
 ·have e : misi "bool" (mvar 9) (eV scr c row s mr o5 (some (.sh (RI ps))) (some (.sh (HP row ps))) o8 (some (.sh (.bl (wr row s ps)))) o10 o11) = some (.bl true) := by
   unfold misi
   rw [show mvar 9 (eV scr c row s mr o5 (some (.sh (RI ps))) (some (.sh (HP row ps))) o8 (some (.sh (.bl (wr row s ps)))) o10 o11) = some (.bl (wr row s ps)) from rfl, Option.bind_some]
   show (kitB "bool" "bool").map D.bl = _
   rw [yc2]; rfl
  exact (zq0 (zs9 e)).trans rfl
 ·refine T1 ?_
  rw [c7 (a := .bl (wr row s ps)) rfl (Z5 (z9 (x := mvar 2) (d := RI row) rfl (z9 (x := mvar 3) (d := .int s) rfl (z9 (x := mvar 6) (d := RI ps) rfl x9))) (zv6 row s ps hs (by omega)))]
  unfold neSD
  rw [yt9]
  simp
theorem xw6 (scr : D) (c : Int) (row : List Int) (s : Int) (mr ps : List Int) (o5 o7 o8 o9 o10 o11 : Option S) (hs : 1 <= s) (hl : ps.length <= 1000) : ∃ q7 q8 q9, L5 (eV scr c row s mr o5 (some (.sh (RI ps))) o7 o8 o9 o10 o11) = some (.nx (eV scr c row s mr o5 (some (.sh (RI ps))) q7 q8 q9 o10 o11)) := by
 have R : Run (mfor (j8 rng1 (z7 (mc (.int 2)) anil)) (.nm 8) L6) (eV scr c row s mr o5 (some (.sh (RI ps))) (some (.sh (HP row ps))) o8 o9 o10 o11) (fun o => ∃ q8 q9, o = .nx (eV scr c row s mr o5 (some (.sh (RI ps))) (some (.sh (HP row ps))) q8 q9 o10 o11)) := by
  refine X3 2 (f := dN) ?_ (I := fun _ ρ => ∃ q8 q9, ρ = eV scr c row s mr o5 (some (.sh (RI ps))) (some (.sh (HP row ps))) q8 q9 o10 o11) _ ⟨o8, o9, rfl⟩ ?_ ?_
  ·unfold j8
   rw [z9 (d := .int 2) rfl x9, Option.bind_some, P3 (O9 (by decide) (by decide))]
   rfl
  ·rintro k ρ _ ⟨q8, q9, rfl⟩
   obtain ⟨r9, e⟩ := xw7 scr c row s mr ps o5 (some (.sh (dN k))) q9 o10 o11 hs hl
   exact ⟨_, rfl, _, e, _, _, rfl⟩
  ·rintro ρ ⟨q8, q9, rfl⟩
   exact ⟨q8, q9, rfl⟩
 obtain ⟨o, e, q8, q9, rfl⟩ := R
 refine ⟨some (.sh (HP row ps)), q8, q9, ?_⟩
 unfold L5
 refine seqI (ρ' := eV scr c row s mr o5 (some (.sh (RI ps))) (some (.sh (HP row ps))) o8 o9 o10 o11) ((c8 (l7 (u8 (z9 (l7 (m := bvar 2) (ds := row.map .int) rfl) (z9 (l7 (m := bvar 6) (ds := ps.map .int) rfl) x9)) (w6 (by simp))))).trans rfl) ?_
 refine seqI e ?_
 refine W4 (T1 ?_)
 unfold meqB
 rw [show bvar 7 (eV scr c row s mr o5 (some (.sh (RI ps))) (some (.sh (HP row ps))) q8 q9 o10 o11) = some [RI row, RI ps] from rfl, u8 (z9 (x := mvar 2) (d := RI row) rfl (z9 (x := mvar 6) (d := RI ps) rfl x9)) (w6 (by simp))]
 exact zc7 row ps
theorem xw5 (scr : D) (c : Int) (row : List Int) (s : Int) (mr ps : List Int) (o6 o7 o8 o9 o10 o11 : Option S) (hs : 1 <= s) (hl : ps.length <= 300) : ∃ q6 q7 q8 q9, zz9 (eV scr c row s mr (some (.sh (RI ps))) o6 o7 o8 o9 o10 o11) = some (.nx (eV scr c row s mr (some (.sh (RI ps))) q6 q7 q8 q9 o10 o11)) := by
 obtain ⟨ls, h1, h2, e1⟩ := yd4 c 370 ps (row.length : Int) (by decide) (by omega) hl
 have R : Run (mfor (l9 (mlst (mcat (v0 (z7 (mvar 5) anil)) (l9 (m5 m_Z0 (z7 (mvar 1) (z7 (mc (.int 370)) (z7 (mvar 5) (z7 (mlen (bvar 2)) anil))))))))) (.nm 6) L5) (eV scr c row s mr (some (.sh (RI ps))) o6 o7 o8 o9 o10 o11) (fun o => ∃ q6 q7 q8 q9, o = .nx (eV scr c row s mr (some (.sh (RI ps))) q6 q7 q8 q9 o10 o11)) := by
  refine S0 (ps :: ls) (f := RI) ?_ (I := fun ks ρ => (∀ l ∈ ks, l.length <= 1000) /\ ∃ q6 q7 q8 q9, ρ = eV scr c row s mr (some (.sh (RI ps))) q6 q7 q8 q9 o10 o11) _ ⟨?_, o6, o7, o8, o9, rfl⟩ ?_ ?_
  ·have eL : mlen (bvar 2) (eV scr c row s mr (some (.sh (RI ps))) o6 o7 o8 o9 o10 o11) = some (.int (row.length : Int)) := by rw [X6 (ds := row.map .int) rfl, length_map]
   exact e6 (l7 (U2 (u8 (z9 (x := mvar 5) (d := RI ps) rfl x9) (w6 (by simp))) (e6 (T6 (z9 (x := mvar 1) (d := .int c) rfl (z9 (d := .int 370) rfl (z9 (x := mvar 5) (d := RI ps) rfl (z9 eL x9)))) e1)) (w6 (by simp; omega))))
  ·intro l hl'
   rcases List.mem_cons.mp hl' with rfl | z
   ·omega
   ·exact h2 l z
  ·rintro l ks ρ ⟨h, q6, q7, q8, q9, rfl⟩
   obtain ⟨r7, r8, r9, e⟩ := xw6 scr c row s mr l (some (.sh (RI ps))) q7 q8 q9 o10 o11 hs (h l (by simp))
   exact ⟨_, rfl, _, e, fun z hz => h z (by simp [hz]), _, _, _, _, rfl⟩
  ·rintro ρ ⟨_, q6, q7, q8, q9, rfl⟩
   exact ⟨q6, q7, q8, q9, rfl⟩
 obtain ⟨o, e, q6, q7, q8, q9, rfl⟩ := R
 exact ⟨q6, q7, q8, q9, e⟩
theorem xw4 (scr : D) (c : Int) (row : List Int) (s : Int) (mr : List Int) (z : Int) (k : Nat) (o5 o6 o7 o8 o9 : Option S) (hz : z < 1) (hk : k < 5) : ∃ q6, M9 (eV scr c row s mr o5 o6 o7 o8 o9 (some (.sh (.int z))) (some (.sh (.int (k : Int))))) = some (.nx (eV scr c row s mr o5 q6 o7 o8 o9 (some (.sh (.int z))) (some (.sh (.int (k : Int)))))) := by
 have eL : mlen (bvar 2) (eV scr c row s mr o5 o6 o7 o8 o9 (some (.sh (.int z))) (some (.sh (.int (k : Int))))) = some (.int (row.length : Int)) := by rw [X6 (ds := row.map .int) rfl, length_map]
 have ed : v0 (z7 (mvar 4) (z7 (mvar 4) (z7 (mvar 4) (z7 (mlst (v0 (z7 (m1 negD (mc (.int 1))) anil))) (z7 (mlst (v0 (z7 (mlen (bvar 2)) anil))) anil))))) (eV scr c row s mr o5 o6 o7 o8 o9 (some (.sh (.int z))) (some (.sh (.int (k : Int))))) = some ([mr, mr, mr, [-1], [(row.length : Int)]].map RI) :=
  u8 (z9 (x := mvar 4) (d := RI mr) rfl (z9 (x := mvar 4) (d := RI mr) rfl (z9 (x := mvar 4) (d := RI mr) rfl (z9 (l7 (u8 (z9 (d := .int (-1)) rfl x9) (w6 (by simp)))) (z9 (l7 (u8 (z9 eL x9) (w6 (by simp)))) x9))))) (w6 (by simp))
 have ea := X9 RI [mr, mr, mr, [-1], [(row.length : Int)]] (k : Int) (by omega) (by simp; omega) []
 generalize hps : [mr, mr, mr, [-1], [(row.length : Int)]].getD (k : Int).toNat [] = ps at ea
 refine ⟨some (.sh (RI ps)), ?_⟩
 unfold M9
 refine seqI (ρ' := eV scr c row s mr o5 (some (.sh (RI ps))) o7 o8 o9 (some (.sh (.int z))) (some (.sh (.int (k : Int))))) ((c8 (d8 ed rfl ea)).trans rfl) ?_
 refine W4 (T1 ?_)
 have em : m2 modD (mvar 11) (mc (.int 3)) (eV scr c row s mr o5 (some (.sh (RI ps))) o7 o8 o9 (some (.sh (.int z))) (some (.sh (.int (k : Int))))) = some (.int ((k : Int) % 3)) := by
  rw [c7 (a := .int (k : Int)) (b := .int 3) rfl rfl]
  show (if G8 (k : Int) 3 = true then some (D.int ((k : Int) % 3)) else none) = _
  rw [if_pos (u6 _ _ (by decide))]
 have e1 := e6 (T6 (z9 em (z9 (x := mvar 2) (d := RI row) rfl (z9 (x := mvar 10) (d := .int z) rfl (z9 (x := mvar 6) (d := RI ps) rfl x9)))) (zm9 ((k : Int) % 3) row z ps hz))
 have e2 : Q0 [none] (j8 rng1 (z7 (mc (.int 8)) anil)) (.nm 0) cyes (m2 eqSD (mvar 0) (mc (.int 0))) (eV scr c row s mr o5 (some (.sh (RI ps))) o7 o8 o9 (some (.sh (.int z))) (some (.sh (.int (k : Int))))) = some ((List.range 8).map fun (k : Nat) => D.bl (decide ((k : Int) = 0))) := by
  unfold Q0
  rw [show j8 rng1 (z7 (mc (.int 8)) anil) (eV scr c row s mr o5 (some (.sh (RI ps))) o7 o8 o9 (some (.sh (.int z))) (some (.sh (.int (k : Int))))) = some ((List.range 8).map dN) from by
   unfold j8
   rw [z9 (d := .int 8) rfl x9, Option.bind_some, P3 (O9 (by decide) (by decide))]
   rfl, Option.bind_some]
  refine (Q7 (f := dN) (G := fun (k : Nat) => D.bl (decide ((k : Int) = 0))) (fun _ ρ => ∃ x, ρ = [x]) (by
   rintro k ks ρ ⟨x, rfl⟩
   refine ⟨[some (.sh (dN k))], rfl, rfl, ?_, _, rfl⟩
   rw [c7 (a := .int (k : Int)) (b := .int 0) rfl rfl]
   show some (D.bl ((k : Int) == 0)) = _
   congr 2) (List.range 8) _ [] ⟨none, rfl⟩ (w6 (by simp))).trans rfl
 unfold meqB
 rw [e1, e2]
 rfl
theorem xw3 (scr : D) (c : Int) (row : List Int) (s : Int) (mr : List Int) (z : Int) (o5 o6 o7 o8 o9 o11 : Option S) (hz : z < 1) : ∃ q6 q11, zz8 (eV scr c row s mr o5 o6 o7 o8 o9 (some (.sh (.int z))) o11) = some (.nx (eV scr c row s mr o5 q6 o7 o8 o9 (some (.sh (.int z))) q11)) := by
 have R : Run (mfor (j8 rng1 (z7 (mc (.int 5)) anil)) (.nm 11) M9) (eV scr c row s mr o5 o6 o7 o8 o9 (some (.sh (.int z))) o11) (fun o => ∃ q6 q11, o = .nx (eV scr c row s mr o5 q6 o7 o8 o9 (some (.sh (.int z))) q11)) := by
  refine X3 5 (f := dN) ?_ (I := fun _ ρ => ∃ q6 q11, ρ = eV scr c row s mr o5 q6 o7 o8 o9 (some (.sh (.int z))) q11) _ ⟨o6, o11, rfl⟩ ?_ ?_
  ·unfold j8
   rw [z9 (d := .int 5) rfl x9, Option.bind_some, P3 (O9 (by decide) (by decide))]
   rfl
  ·rintro k ρ hk ⟨q6, q11, rfl⟩
   obtain ⟨r6, e⟩ := xw4 scr c row s mr z k o5 q6 o7 o8 o9 hz hk
   exact ⟨_, rfl, _, e, _, _, rfl⟩
  ·rintro ρ ⟨q6, q11, rfl⟩
   exact ⟨q6, q11, rfl⟩
 obtain ⟨o, e, q6, q11, rfl⟩ := R
 exact ⟨q6, q11, e⟩
def eX (scr : D) (c : Int) (o2 o3 o4 o5 o6 o7 o8 o9 o10 o11 : Option S) : Ro := [some (.sh scr), some (.sh (.int c)), o2, o3, o4, o5, o6, o7, o8, o9, o10, o11]
theorem L_RI (l : List Nat) : L l = RI (l.map fun (p : Nat) => (p : Int)) := by unfold L RI; rw [map_map]; rfl
theorem xw2 (scr : D) (c : Int) (o2 o3 o4 o5 o6 o7 o8 o9 o10 o11 : Option S) : ∃ p2 p3 p4 p5 p6 p7 p8 p9 p10 p11, zz7 (eX scr c o2 o3 o4 o5 o6 o7 o8 o9 o10 o11) = some (.nx (eX scr c p2 p3 p4 p5 p6 p7 p8 p9 p10 p11)) := by
 obtain ⟨row, hr, er⟩ := yi4 c 40 (by decide)
 obtain ⟨s, hs, es⟩ := yr7 c
 obtain ⟨ds, l, hl, et⟩ := yr4 (row.take 14) s (by simp; omega)
 rw [L_RI] at et
 have hml : (l.map fun (p : Nat) => (p : Int)).length <= 40 := by simpa using hl
 generalize (l.map fun (p : Nat) => (p : Int)) = mr at et hml
 obtain ⟨f1, h1, e1⟩ := yr8 c 320 row.length (by decide) (by omega)
 obtain ⟨f2, h2, e2⟩ := zq1 c 350 row s (by decide) (by omega)
 obtain ⟨fr, h3, e3⟩ := yt7 c 376 (by decide)
 have R1 : Run (mfor (l9 (mlst (v0 (z7 (m5 zr3 (z7 (mvar 1) (z7 (mc (.int 320)) (z7 (mlen (bvar 2)) anil)))) (z7 (m5 m_Z3 (z7 (mvar 1) (z7 (mc (.int 350)) (z7 (mvar 2) (z7 (mvar 3) anil))))) (z7 (mvar 4) anil)))))) (.nm 5) zz9) (eV scr c row s mr o5 o6 o7 o8 o9 o10 o11) (fun o => ∃ q5 q6 q7 q8 q9, o = .nx (eV scr c row s mr q5 q6 q7 q8 q9 o10 o11)) := by
  have eL : mlen (bvar 2) (eV scr c row s mr o5 o6 o7 o8 o9 o10 o11) = some (.int (row.length : Int)) := by rw [X6 (ds := row.map .int) rfl, length_map]
  refine S0 [f1, f2, mr] (f := RI) ?_ (I := fun ks ρ => (∀ l ∈ ks, l.length <= 300) /\ ∃ q5 q6 q7 q8 q9, ρ = eV scr c row s mr q5 q6 q7 q8 q9 o10 o11) _ ⟨?_, o5, o6, o7, o8, o9, rfl⟩ ?_ ?_
  ·exact e6 (l7 (u8 (z9 (T6 (z9 (x := mvar 1) (d := .int c) rfl (z9 (d := .int 320) rfl (z9 eL x9))) e1) (z9 (T6 (z9 (x := mvar 1) (d := .int c) rfl (z9 (d := .int 350) rfl (z9 (x := mvar 2) (d := RI row) rfl (z9 (x := mvar 3) (d := .int s) rfl x9)))) e2) (z9 (x := mvar 4) (d := RI mr) rfl x9))) (w6 (by simp))))
  ·intro l hl
   simp only [mem_cons, not_mem_nil, or_false] at hl
   rcases hl with rfl | rfl | rfl <;> omega
  ·rintro l ks ρ ⟨h, q5, q6, q7, q8, q9, rfl⟩
   obtain ⟨r6, r7, r8, r9, e⟩ := xw5 scr c row s mr l q6 q7 q8 q9 o10 o11 hs (h l (by simp))
   exact ⟨_, rfl, _, e, fun z hz => h z (by simp [hz]), _, _, _, _, _, rfl⟩
  ·rintro ρ ⟨_, q5, q6, q7, q8, q9, rfl⟩
   exact ⟨q5, q6, q7, q8, q9, rfl⟩
 obtain ⟨o, ef, q5, q6, q7, q8, q9, rfl⟩ := R1
 have R2 : Run (mfor (l9 (mlst (v0 (z7 (mc (.int 0)) (z7 (m1 negD (mc (.int 1))) (z7 (m2 subD (mc (.int 0)) (m5 zv3 (z7 (mvar 1) (z7 (mc (.int 376)) anil)))) (z7 (m2 subD (mc (.int 0)) (mvar 3)) anil))))))) (.nm 10) zz8) (eV scr c row s mr q5 q6 q7 q8 q9 o10 o11) (fun o => ∃ r6 r10 r11, o = .nx (eV scr c row s mr q5 r6 q7 q8 q9 r10 r11)) := by
  refine S0 [0, -1, 0 - fr, 0 - s] (f := D.int) ?_ (I := fun ks ρ => (∀ l ∈ ks, l < 1) /\ ∃ r6 r10 r11, ρ = eV scr c row s mr q5 r6 q7 q8 q9 r10 r11) _ ⟨?_, q6, o10, o11, rfl⟩ ?_ ?_
  ·exact e6 (l7 (u8 (z9 (d := .int 0) rfl (z9 (d := .int (-1)) rfl (z9 ((c7 (a := .int 0) rfl (Z5 (z9 (x := mvar 1) (d := .int c) rfl (z9 (d := .int 376) rfl x9)) e3)).trans (show subD (.int 0) (.int fr) = some (.int (0 - fr)) from rfl)) (z9 ((c7 (a := .int 0) (b := .int s) rfl rfl).trans (show subD (.int 0) (.int s) = some (.int (0 - s)) from rfl)) x9)))) (w6 (by simp))))
  ·intro l hl
   simp only [mem_cons, not_mem_nil, or_false] at hl
   rcases hl with rfl | rfl | rfl | rfl <;> omega
  ·rintro z ks ρ ⟨h, r6, r10, r11, rfl⟩
   obtain ⟨t6, t11, e⟩ := xw3 scr c row s mr z q5 r6 q7 q8 q9 r11 (h z (by simp))
   exact ⟨_, rfl, _, e, fun y hy => h y (by simp [hy]), _, _, _, rfl⟩
  ·rintro ρ ⟨_, r6, r10, r11, rfl⟩
   exact ⟨r6, r10, r11, rfl⟩
 obtain ⟨o, eg, r6, r10, r11, rfl⟩ := R2
 refine ⟨some (.sh (RI row)), some (.sh (.int s)), some (.sh (RI mr)), q5, r6, q7, q8, q9, r10, r11, ?_⟩
 unfold zz7
 refine seqI (ρ' := eX scr c (some (.sh (RI row))) o3 o4 o5 o6 o7 o8 o9 o10 o11) ((c8 (T6 (z9 (x := mvar 1) (d := .int c) rfl (z9 (d := .int ((40 : Nat) : Int)) rfl x9)) er)).trans rfl) ?_
 refine seqI (ρ' := eX scr c (some (.sh (RI row))) (some (.sh (.int s))) o4 o5 o6 o7 o8 o9 o10 o11) ((c8 (Z5 (z9 (x := mvar 1) (d := .int c) rfl x9) es)).trans rfl) ?_
 have ecut : mcut (bvar 2) Z0 (d5 (mc (.int 14))) (eX scr c (some (.sh (RI row))) (some (.sh (.int s))) o4 o5 o6 o7 o8 o9 o10 o11) = some ((row.take 14).map .int) := by
  have : cutL (row.map D.int) none (some ((14 : Nat) : Int)) = (row.take 14).map .int := by rw [d6, zz4]
  unfold mcut
  exact congrArg some this
 refine seqI (ρ' := eX scr c (some (.sh (RI row))) (some (.sh (.int s))) (some (.sh (RI mr))) o5 o6 o7 o8 o9 o10 o11) ((c8 (d := RI mr) ((c7 (Z5 (z9 (l7 ecut) (z9 (x := mvar 3) (d := .int s) rfl x9)) et) (b := .int 1) rfl).trans rfl)).trans rfl) ?_
 exact seqI ef eg
theorem law_true (ns : List Int) (hn : ns.length <= 63) : zr2 [.lst (ns.map .int)] = some (.sh (.bl true)) := by
 obtain ⟨cs, ec⟩ := yu1 ns 6 hn
 unfold zr2 yu4
 refine Z9 ?_
 refine P2 cs (f := D.int) (e6 (T6 (z9 (d := .lst (ns.map .int)) rfl (z9 (d := .int ((6 : Nat) : Int)) rfl x9)) ec)) (I := fun _ ρ => ∃ p1 p2 p3 p4 p5 p6 p7 p8 p9 p10 p11, ρ = [some (.sh (.lst (ns.map .int))), p1, p2, p3, p4, p5, p6, p7, p8, p9, p10, p11]) (Q := fun o => ∃ p1 p2 p3 p4 p5 p6 p7 p8 p9 p10 p11, o = .nx [some (.sh (.lst (ns.map .int))), p1, p2, p3, p4, p5, p6, p7, p8, p9, p10, p11]) ⟨none, none, none, none, none, none, none, none, none, none, none, rfl⟩ ?_ ?_ ?_
 ·rintro c ks ρ ⟨p1, p2, p3, p4, p5, p6, p7, p8, p9, p10, p11, rfl⟩
  obtain ⟨q2, q3, q4, q5, q6, q7, q8, q9, q10, q11, e⟩ := xw2 (.lst (ns.map .int)) c p2 p3 p4 p5 p6 p7 p8 p9 p10 p11
  exact ⟨_, _, rfl, e, _, _, _, _, _, _, _, _, _, _, _, rfl⟩
 ·rintro ρ ⟨p1, p2, p3, p4, p5, p6, p7, p8, p9, p10, p11, rfl⟩
  exact ⟨_, _, _, _, _, _, _, _, _, _, _, rfl⟩
 ·rintro o ⟨p1, p2, p3, p4, p5, p6, p7, p8, p9, p10, p11, rfl⟩
  rfl
end
end Lw
namespace Lw
open List
open PySem L2
open PyProof.Rows
section
def top (i : Nat) : Stmt := PySem.Challenge.pw_wavyrow_k47_wavy_round_or_not.main.body.getD i (.Pass ⟨0, 0, 0, 0⟩)
abbrev s_Z5 : Stmt := top 10
abbrev N_Z5 : List Str := ["step"]
theorem yj9 : FnScope N_Z5 ["step"] (x0 s_Z5) := ⟨rfl, rfl, rfl, by decide +kernel, rfl, by decide +kernel, by decide +kernel⟩
theorem xy9 {P : Program} {w : World} {K : W.Frag} {mg : Str -> Option Value} {base : Heap} {f : Addr} {fd : FuncData} (Fn : Fun K "refuse_step" "refuse_step" s_Z5 f fd) {y_NoStep : Addr} (a_NoStep : mg "NoStep" = some (.ref y_NoStep)) (xc_NoStep : XC K "NoStep" y_NoStep) (q_NoStep : W.excIn K y_NoStep bmV "ValueError.__new__" = true) : FnOk P w K mg base CX0 1 f fd ["step"] (spR K 1 m_Z5) :=
 Fn.okD (k := 0) (m := b_Z5) yj9 fun cdv A outer s H E hr => (x6 (d0 (f6 zw7 O7 (z6 0 (pv 0)) y8 (u9 _)) (x6 Y8) j0))
theorem ye0 {P : Program} {w : World} {K : W.Frag} {mg : Str -> Option Value} {base : Heap} {f : Addr} {fd : FuncData} (Fn : Fun K "refuse_step" "refuse_step" s_Z5 f fd) {y_NoStep : Addr} (a_NoStep : mg "NoStep" = some (.ref y_NoStep)) (xc_NoStep : XC K "NoStep" y_NoStep) (q_NoStep : W.excIn K y_NoStep bmV "ValueError.__new__" = true) : FnOk P w K mg base (CXx P w) 1 f fd ["step"] (spX K 1 N6) :=
 Fn.okX (k := 0) (m := yk4) yj9 fun cdv A outer s H E hr => (W9 (zg6 rfl (f6 zw7 O7 (z6 0 (pv 0)) y8 (u9 _)) (W9 (zg5 rfl ⟨rfl, rfl, rfl⟩ rfl rfl a_NoStep xc_NoStep q_NoStep (z0 yt2 y7) (z8 w5) (by decide))) zx9))
abbrev s_Z7 : Stmt := top 12
abbrev N_Z7 : List Str := ["row", "places", "least", "place"]
theorem sc_Z7 : FnScope N_Z7 ["row", "places"] (x0 s_Z7) := ⟨rfl, rfl, rfl, by decide +kernel, rfl, by decide +kernel, by decide +kernel⟩
theorem xy7 {P : Program} {w : World} {K : W.Frag} {mg : Str -> Option Value} {base : Heap} {f : Addr} {fd : FuncData} (Fn : Fun K "are_places" "are_places" s_Z7 f fd) (z_len : mg "len" = none) : FnOk P w K mg base CX0 1 f fd ["row", "places"] (spR K 2 m_Z7) :=
 Fn.okD (k := 0) (m := b_Z7) sc_Z7 fun cdv A outer s H E hr => (y9 (u5 (i := 2) sc_Z7.nd rfl (by first | exact Or.inl rfl | exact Or.inr rfl) y8) (y9 (j9 PassesOwn.never rfl (Y0 (z6 1 (pv 1))) (l5 (i := 3) (u7 sc_Z7.nd rfl (by first | exact Or.inl rfl | exact Or.inr rfl))) (y9 (d0 (pc_w (zw5 (f6 zw7 O7 (z6 3 (pv 3)) (z6 2 (pv 2)) (u9 _)) (zx7 (f6 zk1 E9 (z6 3 (pv 3)) (f8 rfl z_len (w4 0 (pv 0))) (u9 _))))) (x6 (g8 G5)) j0) (x6 (u5 (i := 2) sc_Z7.nd rfl (by first | exact Or.inl rfl | exact Or.inr rfl) (o0 (z6 3 (pv 3)) y8))))) (x6 (g8 G5))))
abbrev zm5 : Stmt := top 13
abbrev xv9 : List Str := ["numbers", "many", "left", "middle", "right"]
theorem sc_Z12 : FnScope xv9 ["numbers"] (x0 zm5) := ⟨rfl, rfl, rfl, by decide +kernel, rfl, by decide +kernel, by decide +kernel⟩
theorem yd1 {P : Program} {w : World} {K : W.Frag} {mg : Str -> Option Value} {base : Heap} {f : Addr} {fd : FuncData} (Fn : Fun K "turns_of" "turns_of" zm5 f fd) (z_max : mg "max" = none) (z_min : mg "min" = none) (z_zip : mg "zip" = none) : FnOk P w K mg base CX0 1 f fd ["numbers"] (spR K 1 zd4) :=
 Fn.okD (k := 0) (m := b_Z12) sc_Z12 fun cdv A outer s H E hr => (y9 (u5 (i := 1) sc_Z12.nd rfl (by first | exact Or.inl rfl | exact Or.inr rfl) y8) (y9 (j9 PassesOwn.never rfl (yx0 rfl z_zip (z0 (z6 0 (pv 0)) (z0 (i6 (Y9 (w4 0 (pv 0)) (t5 y8) r0)) (z0 (i6 (Y9 (w4 0 (pv 0)) (t5 y8) r0)) y7)))) (V8 (is := [2, 3, 4]) (R6 rfl (l8 (u7 (i := 2) sc_Z12.nd rfl (by first | exact Or.inl rfl | exact Or.inr rfl)) (l8 (u7 (i := 3) sc_Z12.nd rfl (by first | exact Or.inl rfl | exact Or.inr rfl)) (l8 (u7 (i := 4) sc_Z12.nd rfl (by first | exact Or.inl rfl | exact Or.inr rfl)) V0))))) (x6 (d0 (pc_w (zw5 (f6 zw7 O7 (B8 rfl rfl z_max (z0 (z6 2 (pv 2)) (z0 (z6 4 (pv 4)) y7))) (z6 3 (pv 3)) (u9 _)) (zx7 (f6 zw7 O7 (z6 3 (pv 3)) (zs5 rfl rfl z_min (z0 (z6 2 (pv 2)) (z0 (z6 4 (pv 4)) y7))) (u9 _))))) (x6 (yp0 (i := 1) sc_Z12.nd rfl (by first | exact Or.inl rfl | exact Or.inr rfl) y8)) j0))) (x6 (U8 1 (pv 1)))))
abbrev s_Z4 : Stmt := top 14
abbrev N_Z4 : List Str := ["numbers", "step", "left", "right"]
theorem sc_Z4 : FnScope N_Z4 ["numbers", "step"] (x0 s_Z4) := ⟨rfl, rfl, rfl, by decide +kernel, rfl, by decide +kernel, by decide +kernel⟩
theorem xx0 {P : Program} {w : World} {K : W.Frag} {mg : Str -> Option Value} {base : Heap} {f : Addr} {fd : FuncData} {x_Z12 : Addr} {d_Z12 : FuncData} (Fn : Fun K "go_by_turns" "go_by_turns" s_Z4 f fd) (G_Z12 : FnOk P w K mg base CX0 1 x_Z12 d_Z12 ["numbers"] (spR K 1 zd4)) (b_Z12 : Binds K d_Z12 ["numbers"] []) (k_Z12 : W.keepIn K (.ref x_Z12) = true) (a_Z12 : mg "turns_of" = some (.ref x_Z12)) (z_abs : mg "abs" = none) (z_len : mg "len" = none) (z_max : mg "max" = none) (z_zip : mg "zip" = none) : FnOk P w K mg base CX0 2 f fd ["numbers", "step"] (spR K 2 m_Z4) :=
 Fn.okD (k := 1) (m := b_Z4) sc_Z4 fun cdv A outer s H E hr => (y9 (j9 PassesOwn.never rfl (zp1 rfl z_zip (z0 (z6 0 (pv 0)) (z0 (i6 (Y9 (w4 0 (pv 0)) (t5 y8) r0)) y7))) (V8 (is := [2, 3]) (R6 rfl (l8 (u7 (i := 2) sc_Z4.nd rfl (by first | exact Or.inl rfl | exact Or.inr rfl)) (l8 (u7 (i := 3) sc_Z4.nd rfl (by first | exact Or.inl rfl | exact Or.inr rfl)) V0)))) (x6 (d0 (f6 zw7 O7 (zp3 rfl z_abs (z0 (f7 (z6 3 (pv 3)) (z6 2 (pv 2))) y7)) (z6 1 (pv 1)) (u9 _)) (x6 (g8 G5)) j0))) (x6 (g8 (V9 G6 X5 (u0 (fun t ha => v7 (G_Z12.mono (by decide)) hr rfl a_Z12 k_Z12 b_Z12 .nil j5 ha) rfl (z0 (z6 0 (pv 0)) y7) (z8 w5)) (B8 rfl rfl z_max (z0 y8 (z0 (f7 (f8 rfl z_len (w4 0 (pv 0))) y8) y7))) (u9 _)))))
abbrev s_Z8 : Stmt := top 22
abbrev N_Z8 : List Str := ["row", "step", "places", "numbers"]
theorem sc_Z8 : FnScope N_Z8 ["row", "step", "places"] (x0 s_Z8) := ⟨rfl, rfl, rfl, by decide +kernel, rfl, by decide +kernel, by decide +kernel⟩
theorem J0 : List.Nodup (["place", "row"] : List Str) := by decide +kernel
theorem xy6 {P : Program} {w : World} {K : W.Frag} {mg : Str -> Option Value} {base : Heap} {f : Addr} {fd : FuncData} {x_Z7 : Addr} {d_Z7 : FuncData} {x_Z4 : Addr} {d_Z4 : FuncData} {x_Z5 : Addr} {d_Z5 : FuncData} (Fn : Fun K "wavy_round" "wavy_round" s_Z8 f fd) (G_Z7 : FnOk P w K mg base CX0 1 x_Z7 d_Z7 ["row", "places"] (spR K 2 m_Z7)) (b_Z7 : Binds K d_Z7 ["row", "places"] []) (k_Z7 : W.keepIn K (.ref x_Z7) = true) (a_Z7 : mg "are_places" = some (.ref x_Z7)) (G_Z4 : FnOk P w K mg base CX0 2 x_Z4 d_Z4 ["numbers", "step"] (spR K 2 m_Z4)) (b_Z4 : Binds K d_Z4 ["numbers", "step"] []) (k_Z4 : W.keepIn K (.ref x_Z4) = true) (a_Z4 : mg "go_by_turns" = some (.ref x_Z4)) (G_Z5 : FnOk P w K mg base CX0 1 x_Z5 d_Z5 ["step"] (spR K 1 m_Z5)) (b_Z5 : Binds K d_Z5 ["step"] []) (k_Z5 : W.keepIn K (.ref x_Z5) = true) (a_Z5 : mg "refuse_step" = some (.ref x_Z5)) (GX_Z5 : FnOk P w K mg base (CXx P w) 1 x_Z5 d_Z5 ["step"] (spX K 1 N6)) : FnOk P w K mg base CX0 3 f fd ["row", "step", "places"] (spR K 3 m_Z8) :=
 Fn.okD (k := 2) (m := b_Z8) sc_Z8 fun cdv A outer s H E hr => (y9 (U9 (u0 (fun t ha => v7 (G_Z5.mono (by decide)) hr rfl a_Z5 k_Z5 b_Z5 .nil j5 ha) rfl (z0 (z6 1 (pv 1)) y7) (z8 w5))) (y9 (d0 (zp5 (zp4 (u0 (fun t ha => v7 (G_Z7.mono (by decide)) hr rfl a_Z7 k_Z7 b_Z7 .nil j5 ha) rfl (z0 (z6 0 (pv 0)) (z0 (z6 2 (pv 2)) y7)) (z8 (z8 w5))))) (x6 (g8 G5)) j0) (y9 (zg9 (zs2 (i := 3) sc_Z8.nd rfl (by first | exact Or.inl rfl | exact Or.inr rfl) (zt1 (N := ["place", "row"]) (src := [none, some 0]) (x0 s_Z8) N_Z8 rfl rfl (by decide +kernel)) rfl (Y0 (z6 2 (pv 2))) (fun C fp s0 H0 => (l5 (i := 0) (u7 J0 rfl (by first | exact Or.inl rfl | exact Or.inr rfl)))) (fun C fp s0 H0 => R4) (fun C fp s0 H0 => (j1 (w4 1 (pv 1)) (z6 0 (pv 0)))))) (x6 (g8 (u0 (fun t ha => v7 (G_Z4.mono (by decide)) hr rfl a_Z4 k_Z4 b_Z4 .nil j5 ha) rfl (z0 (i6 (g0 (w4 3 (pv 3)) (t9 (Y9 (w4 3 (pv 3)) r0 (t5 y8))))) (z0 (z6 1 (pv 1)) y7)) (z8 (z8 w5))))))))
theorem yf9 {P : Program} {w : World} {K : W.Frag} {mg : Str -> Option Value} {base : Heap} {f : Addr} {fd : FuncData} {x_Z7 : Addr} {d_Z7 : FuncData} {x_Z4 : Addr} {d_Z4 : FuncData} {x_Z5 : Addr} {d_Z5 : FuncData} (Fn : Fun K "wavy_round" "wavy_round" s_Z8 f fd) (G_Z7 : FnOk P w K mg base CX0 1 x_Z7 d_Z7 ["row", "places"] (spR K 2 m_Z7)) (b_Z7 : Binds K d_Z7 ["row", "places"] []) (k_Z7 : W.keepIn K (.ref x_Z7) = true) (a_Z7 : mg "are_places" = some (.ref x_Z7)) (G_Z4 : FnOk P w K mg base CX0 2 x_Z4 d_Z4 ["numbers", "step"] (spR K 2 m_Z4)) (b_Z4 : Binds K d_Z4 ["numbers", "step"] []) (k_Z4 : W.keepIn K (.ref x_Z4) = true) (a_Z4 : mg "go_by_turns" = some (.ref x_Z4)) (G_Z5 : FnOk P w K mg base CX0 1 x_Z5 d_Z5 ["step"] (spR K 1 m_Z5)) (b_Z5 : Binds K d_Z5 ["step"] []) (k_Z5 : W.keepIn K (.ref x_Z5) = true) (a_Z5 : mg "refuse_step" = some (.ref x_Z5)) (GX_Z5 : FnOk P w K mg base (CXx P w) 1 x_Z5 d_Z5 ["step"] (spX K 1 N6)) : FnOk P w K mg base (CXx P w) 3 f fd ["row", "step", "places"] (spX K 3 zi2) :=
 Fn.okX (k := 2) (m := yk3) sc_Z8 fun cdv A outer s H E hr => (K5 (U7 (T0 rfl ⟨rfl, rfl, rfl⟩ (GX_Z5.mono (by decide)) hr rfl a_Z5 k_Z5 b_Z5 rfl (z0 (z6 1 (pv 1)) y7) (z8 w5))))
abbrev s_Z1 : Stmt := top 25
abbrev N_Z1 : List Str := ["row", "step", "lists"]
theorem yi2 : FnScope N_Z1 ["row", "step"] (x0 s_Z1) := ⟨rfl, rfl, rfl, by decide +kernel, rfl, by decide +kernel, by decide +kernel⟩
theorem xx3 {P : Program} {w : World} {K : W.Frag} {mg : Str -> Option Value} {base : Heap} {f : Addr} {fd : FuncData} {x_Z5 : Addr} {d_Z5 : FuncData} (Fn : Fun K "longest_round" "longest_round" s_Z1 f fd) (G_Z5 : FnOk P w K mg base CX0 1 x_Z5 d_Z5 ["step"] (spR K 1 m_Z5)) (b_Z5 : Binds K d_Z5 ["step"] []) (k_Z5 : W.keepIn K (.ref x_Z5) = true) (a_Z5 : mg "refuse_step" = some (.ref x_Z5)) (GX_Z5 : FnOk P w K mg base (CXx P w) 1 x_Z5 d_Z5 ["step"] (spX K 1 N6)) : FnOk P w K mg base CX0 2 f fd ["row", "step"] (spR K 2 m_Z1) :=
 Fn.okD (k := 1) (m := b_Z1) yi2 fun cdv A outer s H E hr => (y9 (U9 (u0 (fun t ha => v7 (G_Z5.mono (by decide)) hr rfl a_Z5 k_Z5 b_Z5 .nil j5 ha) rfl (z0 (z6 1 (pv 1)) y7) (z8 w5))) (y9 Y8 (x6 Y8)))
theorem ye2 {P : Program} {w : World} {K : W.Frag} {mg : Str -> Option Value} {base : Heap} {f : Addr} {fd : FuncData} {x_Z5 : Addr} {d_Z5 : FuncData} (Fn : Fun K "longest_round" "longest_round" s_Z1 f fd) (G_Z5 : FnOk P w K mg base CX0 1 x_Z5 d_Z5 ["step"] (spR K 1 m_Z5)) (b_Z5 : Binds K d_Z5 ["step"] []) (k_Z5 : W.keepIn K (.ref x_Z5) = true) (a_Z5 : mg "refuse_step" = some (.ref x_Z5)) (GX_Z5 : FnOk P w K mg base (CXx P w) 1 x_Z5 d_Z5 ["step"] (spX K 1 N6)) : FnOk P w K mg base (CXx P w) 2 f fd ["row", "step"] (spX K 2 zi4) :=
 Fn.okX (k := 1) (m := yk6) yi2 fun cdv A outer s H E hr => (K5 (U7 (T0 rfl ⟨rfl, rfl, rfl⟩ (GX_Z5.mono (by decide)) hr rfl a_Z5 k_Z5 b_Z5 rfl (z0 (z6 1 (pv 1)) y7) (z8 w5))))
abbrev s_Z2 : Stmt := top 27
abbrev N_Z2 : List Str := ["row", "step", "told", "nexts", "backs", "first", "half", "many"]
theorem yi0 : FnScope N_Z2 ["row", "step"] (x0 s_Z2) := ⟨rfl, rfl, rfl, by decide +kernel, rfl, by decide +kernel, by decide +kernel⟩
theorem xx2 {P : Program} {w : World} {K : W.Frag} {mg : Str -> Option Value} {base : Heap} {f : Addr} {fd : FuncData} {x_Z5 : Addr} {d_Z5 : FuncData} (Fn : Fun K "counts_round" "counts_round" s_Z2 f fd) (G_Z5 : FnOk P w K mg base CX0 1 x_Z5 d_Z5 ["step"] (spR K 1 m_Z5)) (b_Z5 : Binds K d_Z5 ["step"] []) (k_Z5 : W.keepIn K (.ref x_Z5) = true) (a_Z5 : mg "refuse_step" = some (.ref x_Z5)) (GX_Z5 : FnOk P w K mg base (CXx P w) 1 x_Z5 d_Z5 ["step"] (spX K 1 N6)) : FnOk P w K mg base CX0 2 f fd ["row", "step"] (spR K 2 m_Z2) :=
 Fn.okD (k := 1) (m := b_Z2) yi0 fun cdv A outer s H E hr => (y9 (U9 (u0 (fun t ha => v7 (G_Z5.mono (by decide)) hr rfl a_Z5 k_Z5 b_Z5 .nil j5 ha) rfl (z0 (z6 1 (pv 1)) y7) (z8 w5))) (y9 Y8 (y9 Y8 (y9 Y8 (x6 Y8)))))
theorem ye1 {P : Program} {w : World} {K : W.Frag} {mg : Str -> Option Value} {base : Heap} {f : Addr} {fd : FuncData} {x_Z5 : Addr} {d_Z5 : FuncData} (Fn : Fun K "counts_round" "counts_round" s_Z2 f fd) (G_Z5 : FnOk P w K mg base CX0 1 x_Z5 d_Z5 ["step"] (spR K 1 m_Z5)) (b_Z5 : Binds K d_Z5 ["step"] []) (k_Z5 : W.keepIn K (.ref x_Z5) = true) (a_Z5 : mg "refuse_step" = some (.ref x_Z5)) (GX_Z5 : FnOk P w K mg base (CXx P w) 1 x_Z5 d_Z5 ["step"] (spX K 1 N6)) : FnOk P w K mg base (CXx P w) 2 f fd ["row", "step"] (spX K 2 zi3) :=
 Fn.okX (k := 1) (m := yk5) yi0 fun cdv A outer s H E hr => (K5 (U7 (T0 rfl ⟨rfl, rfl, rfl⟩ (GX_Z5.mono (by decide)) hr rfl a_Z5 k_Z5 b_Z5 rfl (z0 (z6 1 (pv 1)) y7) (z8 w5))))
abbrev zm2 : Stmt := top 29
abbrev xv6 : List Str := ["cell", "k", "number"]
theorem sc_Z16 : FnScope xv6 ["cell", "k"] (x0 zm2) := ⟨rfl, rfl, rfl, by decide +kernel, rfl, by decide +kernel, by decide +kernel⟩
theorem ye7 {P : Program} {w : World} {K : W.Frag} {mg : Str -> Option Value} {base : Heap} {f : Addr} {fd : FuncData} (Fn : Fun K "_law_stir" "_law_stir" zm2 f fd) : FnOk P w K mg base CX0 1 f fd ["cell", "k"] (spR K 2 c6) :=
 Fn.okD (k := 0) (m := b_Z16) sc_Z16 fun cdv A outer s H E hr => (y9 (d0 (f6 zk1 E9 (z6 0 (pv 0)) (O5 y8 y8) (u9 _)) (x6 (g8 (j4 (zp2 (f7 (z6 0 (pv 0)) (O5 y8 y8)) (R7 y8 (z6 1 (pv 1)))) (O5 y8 y8)))) j0) (y9 (u5 (i := 2) sc_Z16.nd rfl (by first | exact Or.inl rfl | exact Or.inr rfl) (j4 (R7 (o0 (o0 (z6 0 (pv 0)) (R7 y8 (z6 1 (pv 1)))) y8) y8) y8)) (y9 (u5 (i := 2) sc_Z16.nd rfl (by first | exact Or.inl rfl | exact Or.inr rfl) (j4 (R7 (z6 2 (pv 2)) (z6 2 (pv 2))) y8)) (x6 (g8 (Y1 (j4 (R7 (z6 2 (pv 2)) y8) y8) y8))))))
abbrev s_Z9 : Stmt := top 30
abbrev N_Z9 : List Str := ["script", "many"]
theorem xy0 : FnScope N_Z9 ["script", "many"] (x0 s_Z9) := ⟨rfl, rfl, rfl, by decide +kernel, rfl, by decide +kernel, by decide +kernel⟩
theorem xy5 {P : Program} {w : World} {K : W.Frag} {mg : Str -> Option Value} {base : Heap} {f : Addr} {fd : FuncData} (Fn : Fun K "_law_cells" "_law_cells" s_Z9 f fd) (z_len : mg "len" = none) (z_max : mg "max" = none) (z_min : mg "min" = none) : FnOk P w K mg base CX0 1 f fd ["script", "many"] (spR K 2 m_Z9) :=
 Fn.okD (k := 0) (m := b_Z9) xy0 fun cdv A outer s H E hr => (x6 (M4 (Y9 (t9 (g0 (t9 (Y9 (w4 0 (pv 0)) r0 (t5 (z6 1 (pv 1))))) (t9 (u4 (z0 y8 y7))))) r0 (t5 (B8 rfl rfl z_max (z0 y8 (z0 (zs5 rfl rfl z_min (z0 (z6 1 (pv 1)) (z0 (f8 rfl z_len (w4 0 (pv 0))) y7))) y7)))))))
abbrev zm1 : Stmt := top 31
abbrev xv5 : List Str := ["cell", "most", "size", "kind", "wide", "block", "found", "last", "k", "one", "some"]
theorem sc_Z17 : FnScope xv5 ["cell", "most"] (x0 zm1) := ⟨rfl, rfl, rfl, by decide +kernel, rfl, by decide +kernel, by decide +kernel⟩
theorem ye6 {P : Program} {w : World} {K : W.Frag} {mg : Str -> Option Value} {base : Heap} {f : Addr} {fd : FuncData} {x_Z16 : Addr} {d_Z16 : FuncData} (Fn : Fun K "_law_row" "_law_row" zm1 f fd) (G_Z16 : FnOk P w K mg base CX0 1 x_Z16 d_Z16 ["cell", "k"] (spR K 2 c6)) (b_Z16 : Binds K d_Z16 ["cell", "k"] []) (k_Z16 : W.keepIn K (.ref x_Z16) = true) (a_Z16 : mg "_law_stir" = some (.ref x_Z16)) (z_min : mg "min" = none) (z_range : mg "range" = none) : FnOk P w K mg base CX0 2 f fd ["cell", "most"] (spR K 2 zk7) :=
 Fn.okD (k := 1) (m := b_Z17) sc_Z17 fun cdv A outer s H E hr => (y9 (u5 (i := 2) sc_Z17.nd rfl (by first | exact Or.inl rfl | exact Or.inr rfl) (j4 (u0 (fun t ha => v7 (G_Z16.mono (by decide)) hr rfl a_Z16 k_Z16 b_Z16 .nil j5 ha) rfl (z0 (z6 0 (pv 0)) (z0 y8 y7)) (z8 (z8 w5))) (j1 (t9 (u4 (z0 y8 (z0 y8 (z0 y8 (z0 (o0 (z6 1 (pv 1)) y8) y7)))))) (j4 (u0 (fun t ha => v7 (G_Z16.mono (by decide)) hr rfl a_Z16 k_Z16 b_Z16 .nil j5 ha) rfl (z0 (z6 0 (pv 0)) (z0 y8 y7)) (z8 (z8 w5))) y8)))) (y9 (u5 (i := 3) sc_Z17.nd rfl (by first | exact Or.inl rfl | exact Or.inr rfl) (j4 (u0 (fun t ha => v7 (G_Z16.mono (by decide)) hr rfl a_Z16 k_Z16 b_Z16 .nil j5 ha) rfl (z0 (z6 0 (pv 0)) (z0 y8 y7)) (z8 (z8 w5))) y8)) (y9 (u5 (i := 4) sc_Z17.nd rfl (by first | exact Or.inl rfl | exact Or.inr rfl) (j1 (t9 (u4 (z0 y8 (z0 y8 (z0 y8 (z0 (O5 y8 y8) y7)))))) (j4 (u0 (fun t ha => v7 (G_Z16.mono (by decide)) hr rfl a_Z16 k_Z16 b_Z16 .nil j5 ha) rfl (z0 (z6 0 (pv 0)) (z0 y8 y7)) (z8 (z8 w5))) y8))) (y9 (u5 (i := 5) sc_Z17.nd rfl (by first | exact Or.inl rfl | exact Or.inr rfl) (o0 y8 (j4 (u0 (fun t ha => v7 (G_Z16.mono (by decide)) hr rfl a_Z16 k_Z16 b_Z16 .nil j5 ha) rfl (z0 (z6 0 (pv 0)) (z0 y8 y7)) (z8 (z8 w5))) y8))) (y9 (Z4 (i := 6) sc_Z17.nd rfl (by first | exact Or.inl rfl | exact Or.inr rfl) (u4 y7)) (y9 (u5 (i := 7) sc_Z17.nd rfl (by first | exact Or.inl rfl | exact Or.inr rfl) y8) (y9 (j9 PassesOwn.never rfl (Y7 rfl z_range (z0 (zs5 rfl rfl z_min (z0 (z6 2 (pv 2)) (z0 (z6 1 (pv 1)) y7))) y7)) (l5 (i := 8) (u7 sc_Z17.nd rfl (by first | exact Or.inl rfl | exact Or.inr rfl))) (y9 (u5 (i := 9) sc_Z17.nd rfl (by first | exact Or.inl rfl | exact Or.inr rfl) (j4 (u0 (fun t ha => v7 (G_Z16.mono (by decide)) hr rfl a_Z16 k_Z16 b_Z16 .nil j5 ha) rfl (z0 (z6 0 (pv 0)) (z0 (o0 y8 (z6 8 (pv 8))) y7)) (z8 (z8 w5))) (z6 4 (pv 4)))) (y9 (u5 (i := 7) sc_Z17.nd rfl (by first | exact Or.inl rfl | exact Or.inr rfl) (f7 (o0 (z6 7 (pv 7)) (z6 9 (pv 9))) (Y1 (z6 4 (pv 4)) y8))) (y9 (u5 (i := 10) sc_Z17.nd rfl (by first | exact Or.inl rfl | exact Or.inr rfl) (i6 (u4 (z0 (f7 (z6 9 (pv 9)) (Y1 (z6 4 (pv 4)) y8)) (z0 (o0 (z6 8 (pv 8)) (Y1 (z6 9 (pv 9)) y8)) (z0 (f7 (f7 y8 (z6 8 (pv 8))) (Y1 (z6 9 (pv 9)) y8)) (z0 (j1 (t9 (u4 (z0 (z6 9 (pv 9)) (z0 (f7 y8 (z6 9 (pv 9))) y7)))) (j4 (z6 8 (pv 8)) y8)) y7))))))) (y9 (u5 (i := 10) sc_Z17.nd rfl (by first | exact Or.inl rfl | exact Or.inr rfl) (i6 (g0 (w4 10 (pv 10)) (t9 (u4 (z0 (o0 (z6 9 (pv 9)) (R7 (j4 (Y1 (z6 8 (pv 8)) (z6 5 (pv 5))) y8) (z6 4 (pv 4)))) (z0 (z6 4 (pv 4)) (z0 (o0 (R7 (f7 (z6 9 (pv 9)) (Y1 (z6 4 (pv 4)) y8)) (O5 y8 y8)) (j4 (u0 (fun t ha => v7 (G_Z16.mono (by decide)) hr rfl a_Z16 k_Z16 b_Z16 .nil j5 ha) rfl (z0 (z6 0 (pv 0)) (z0 (o0 y8 (z6 8 (pv 8))) y7)) (z8 (z8 w5))) y8)) y7)))))))) (x6 (Z3 (i := 6) (pv 6) (j1 (t9 (g0 (w4 10 (pv 10)) (t9 (u4 (z0 (z6 7 (pv 7)) y7))))) (z6 3 (pv 3))) (fun t ha => zs4 PySem.F.plainAttrs_list PySem.F.slot_list_append PySem.F.type_list_append Z8 (pv 6) ha) (z0 (j1 (t9 (g0 (w4 10 (pv 10)) (t9 (u4 (z0 (z6 7 (pv 7)) y7))))) (z6 3 (pv 3))) y7)))))))) (x6 (U8 6 (pv 6))))))))))
abbrev zm4 : Stmt := top 32
abbrev xv8 : List Str := ["cell", "some"]
theorem sc_Z13 : FnScope xv8 ["cell"] (x0 zm4) := ⟨rfl, rfl, rfl, by decide +kernel, rfl, by decide +kernel, by decide +kernel⟩
theorem yd0 {P : Program} {w : World} {K : W.Frag} {mg : Str -> Option Value} {base : Heap} {f : Addr} {fd : FuncData} {x_Z16 : Addr} {d_Z16 : FuncData} (Fn : Fun K "_law_step" "_law_step" zm4 f fd) (G_Z16 : FnOk P w K mg base CX0 1 x_Z16 d_Z16 ["cell", "k"] (spR K 2 c6)) (b_Z16 : Binds K d_Z16 ["cell", "k"] []) (k_Z16 : W.keepIn K (.ref x_Z16) = true) (a_Z16 : mg "_law_stir" = some (.ref x_Z16)) : FnOk P w K mg base CX0 2 f fd ["cell"] (spR K 1 zd3) :=
 Fn.okD (k := 1) (m := b_Z13) sc_Z13 fun cdv A outer s H E hr => (y9 (u5 (i := 1) sc_Z13.nd rfl (by first | exact Or.inl rfl | exact Or.inr rfl) (i6 (u4 (z0 y8 (z0 (o0 y8 (j4 (u0 (fun t ha => v7 (G_Z16.mono (by decide)) hr rfl a_Z16 k_Z16 b_Z16 .nil j5 ha) rfl (z0 (z6 0 (pv 0)) (z0 y8 y7)) (z8 (z8 w5))) y8)) (z0 (o0 y8 (j4 (u0 (fun t ha => v7 (G_Z16.mono (by decide)) hr rfl a_Z16 k_Z16 b_Z16 .nil j5 ha) rfl (z0 (z6 0 (pv 0)) (z0 y8 y7)) (z8 (z8 w5))) y8)) y7)))))) (x6 (g8 (j1 (t9 (g0 (w4 1 (pv 1)) (t9 (u4 (z0 (o0 y8 (R7 (j4 (u0 (fun t ha => v7 (G_Z16.mono (by decide)) hr rfl a_Z16 k_Z16 b_Z16 .nil j5 ha) rfl (z0 (z6 0 (pv 0)) (z0 y8 y7)) (z8 (z8 w5))) (O5 y8 y8)) (O5 y8 y8))) y7))))) (j4 (u0 (fun t ha => v7 (G_Z16.mono (by decide)) hr rfl a_Z16 k_Z16 b_Z16 .nil j5 ha) rfl (z0 (z6 0 (pv 0)) (z0 y8 y7)) (z8 (z8 w5))) y8)))))
abbrev zm7 : Stmt := top 33
abbrev xu1 : List Str := ["e", "found"]
theorem sc_Z10 : FnScope xu1 ["e"] (x0 zm7) := ⟨rfl, rfl, rfl, by decide +kernel, rfl, by decide +kernel, by decide +kernel⟩
theorem yd3 {P : Program} {w : World} {K : W.Frag} {mg : Str -> Option Value} {base : Heap} {f : Addr} {fd : FuncData} (Fn : Fun K "_law_flags" "_law_flags" zm7 f fd) {y_NoForm : Addr} (a_NoForm : mg "NoForm" = some (.ref y_NoForm)) {y_NoNumber : Addr} (a_NoNumber : mg "NoNumber" = some (.ref y_NoNumber)) {y_NoPlace : Addr} (a_NoPlace : mg "NoPlace" = some (.ref y_NoPlace)) {y_NoStep : Addr} (a_NoStep : mg "NoStep" = some (.ref y_NoStep)) {y_NoText : Addr} (a_NoText : mg "NoText" = some (.ref y_NoText)) {y_NoWeights : Addr} (a_NoWeights : mg "NoWeights" = some (.ref y_NoWeights)) {y_NoneYet : Addr} (a_NoneYet : mg "NoneYet" = some (.ref y_NoneYet)) (hi_NoForm : ∀ c k, ([("NoStep", false)] : List (Str × Bool)).lookup c = some k -> ∀ C, XC K c C -> XCls K C /\ W.kitOne K (.ref C) (.ref y_NoForm) = some k) (hi_NoNumber : ∀ c k, ([("NoStep", false)] : List (Str × Bool)).lookup c = some k -> ∀ C, XC K c C -> XCls K C /\ W.kitOne K (.ref C) (.ref y_NoNumber) = some k) (hi_NoPlace : ∀ c k, ([("NoStep", false)] : List (Str × Bool)).lookup c = some k -> ∀ C, XC K c C -> XCls K C /\ W.kitOne K (.ref C) (.ref y_NoPlace) = some k) (hi_NoStep : ∀ c k, ([("NoStep", true)] : List (Str × Bool)).lookup c = some k -> ∀ C, XC K c C -> XCls K C /\ W.kitOne K (.ref C) (.ref y_NoStep) = some k) (hi_NoText : ∀ c k, ([("NoStep", false)] : List (Str × Bool)).lookup c = some k -> ∀ C, XC K c C -> XCls K C /\ W.kitOne K (.ref C) (.ref y_NoText) = some k) (hi_NoWeights : ∀ c k, ([("NoStep", false)] : List (Str × Bool)).lookup c = some k -> ∀ C, XC K c C -> XCls K C /\ W.kitOne K (.ref C) (.ref y_NoWeights) = some k) (hi_NoneYet : ∀ c k, ([("NoStep", false)] : List (Str × Bool)).lookup c = some k -> ∀ C, XC K c C -> XCls K C /\ W.kitOne K (.ref C) (.ref y_NoneYet) = some k) (hb_ValueError : ∀ c k, ([("NoStep", true)] : List (Str × Bool)).lookup c = some k -> ∀ C, XC K c C -> XCls K C /\ W.kitOne K (.ref C) (.type "ValueError") = some k) (z_ValueError : mg "ValueError" = none) (z_isinstance : mg "isinstance" = none) : FnOkN P w K mg base CX0 1 f fd ["e"] (spR K 1 zd6) :=
 Fn.okN (k := 0) (m := b_Z10) sc_Z10 fun cdv A outer s H E hr => (y9 (u5 (i := 1) sc_Z10.nd rfl (by first | exact Or.inl rfl | exact Or.inr rfl) (i6 (u4 (z0 (K8 (tab := [("NoStep", true)]) rfl z_isinstance rfl a_NoStep (z6 0 (pv 0)) hi_NoStep) (z0 (K8 (tab := [("NoStep", false)]) rfl z_isinstance rfl a_NoPlace (z6 0 (pv 0)) hi_NoPlace) (z0 (K8 (tab := [("NoStep", false)]) rfl z_isinstance rfl a_NoWeights (z6 0 (pv 0)) hi_NoWeights) (z0 (K8 (tab := [("NoStep", false)]) rfl z_isinstance rfl a_NoNumber (z6 0 (pv 0)) hi_NoNumber) y7))))))) (y9 (u5 (i := 1) sc_Z10.nd rfl (by first | exact Or.inl rfl | exact Or.inr rfl) (i6 (g0 (w4 1 (pv 1)) (t9 (u4 (z0 (K8 (tab := [("NoStep", false)]) rfl z_isinstance rfl a_NoText (z6 0 (pv 0)) hi_NoText) (z0 (K8 (tab := [("NoStep", false)]) rfl z_isinstance rfl a_NoForm (z6 0 (pv 0)) hi_NoForm) (z0 (K8 (tab := [("NoStep", false)]) rfl z_isinstance rfl a_NoneYet (z6 0 (pv 0)) hi_NoneYet) y7)))))))) (x6 (M4 (g0 (w4 1 (pv 1)) (t9 (u4 (z0 (yg6 (yo4 (T := "ValueError") (tab := [("NoStep", true)]) rfl z_isinstance rfl z_ValueError (by rfl) (z6 0 (pv 0)) hb_ValueError)) y7))))))))
abbrev zm0 : Stmt := top 34
abbrev xv4 : List Str := ["cell", "k"]
theorem yi1 : FnScope xv4 ["cell", "k"] (x0 zm0) := ⟨rfl, rfl, rfl, by decide +kernel, rfl, by decide +kernel, by decide +kernel⟩
theorem ye5 {P : Program} {w : World} {K : W.Frag} {mg : Str -> Option Value} {base : Heap} {f : Addr} {fd : FuncData} {x_Z16 : Addr} {d_Z16 : FuncData} (Fn : Fun K "_law_far" "_law_far" zm0 f fd) (G_Z16 : FnOk P w K mg base CX0 1 x_Z16 d_Z16 ["cell", "k"] (spR K 2 c6)) (b_Z16 : Binds K d_Z16 ["cell", "k"] []) (k_Z16 : W.keepIn K (.ref x_Z16) = true) (a_Z16 : mg "_law_stir" = some (.ref x_Z16)) : FnOk P w K mg base CX0 2 f fd ["cell", "k"] (spR K 2 zv3) :=
 Fn.okD (k := 1) (m := b_Z18) yi1 fun cdv A outer s H E hr => (x6 (g8 (j1 (t9 (u4 (z0 y8 (z0 y8 (z0 (j4 (u0 (fun t ha => v7 (G_Z16.mono (by decide)) hr rfl a_Z16 k_Z16 b_Z16 .nil j5 ha) rfl (z0 (z6 0 (pv 0)) (z0 (o0 (z6 1 (pv 1)) y8) y7)) (z8 (z8 w5))) y8) (z0 (O5 y8 y8) y7)))))) (j4 (u0 (fun t ha => v7 (G_Z16.mono (by decide)) hr rfl a_Z16 k_Z16 b_Z16 .nil j5 ha) rfl (z0 (z6 0 (pv 0)) (z0 (z6 1 (pv 1)) y7)) (z8 (z8 w5))) y8))))
abbrev zm3 : Stmt := top 35
abbrev xv7 : List Str := ["cell", "k", "size", "found", "place", "bit"]
theorem sc_Z14 : FnScope xv7 ["cell", "k", "size"] (x0 zm3) := ⟨rfl, rfl, rfl, by decide +kernel, rfl, by decide +kernel, by decide +kernel⟩
theorem ye9 {P : Program} {w : World} {K : W.Frag} {mg : Str -> Option Value} {base : Heap} {f : Addr} {fd : FuncData} {x_Z16 : Addr} {d_Z16 : FuncData} (Fn : Fun K "_law_some" "_law_some" zm3 f fd) (G_Z16 : FnOk P w K mg base CX0 1 x_Z16 d_Z16 ["cell", "k"] (spR K 2 c6)) (b_Z16 : Binds K d_Z16 ["cell", "k"] []) (k_Z16 : W.keepIn K (.ref x_Z16) = true) (a_Z16 : mg "_law_stir" = some (.ref x_Z16)) (z_range : mg "range" = none) : FnOk P w K mg base CX0 2 f fd ["cell", "k", "size"] (spR K 3 zr3) :=
 Fn.okD (k := 1) (m := b_Z14) sc_Z14 fun cdv A outer s H E hr => (y9 (Z4 (i := 3) sc_Z14.nd rfl (by first | exact Or.inl rfl | exact Or.inr rfl) (u4 y7)) (y9 (j9 PassesOwn.never rfl (Y7 rfl z_range (z0 (z6 2 (pv 2)) y7)) (l5 (i := 4) (u7 sc_Z14.nd rfl (by first | exact Or.inl rfl | exact Or.inr rfl))) (y9 (u5 (i := 5) sc_Z14.nd rfl (by first | exact Or.inl rfl | exact Or.inr rfl) (zs6 (zp2 (u0 (fun t ha => v7 (G_Z16.mono (by decide)) hr rfl a_Z16 k_Z16 b_Z16 .nil j5 ha) rfl (z0 (z6 0 (pv 0)) (z0 (o0 (o0 (z6 1 (pv 1)) y8) (Y1 (z6 4 (pv 4)) y8)) y7)) (z8 (z8 w5))) (j4 (z6 4 (pv 4)) y8)) y8)) (y9 (d0 (f6 zw8 O8 (j4 (u0 (fun t ha => v7 (G_Z16.mono (by decide)) hr rfl a_Z16 k_Z16 b_Z16 .nil j5 ha) rfl (z0 (z6 0 (pv 0)) (z0 (z6 1 (pv 1)) y7)) (z8 (z8 w5))) y8) y8 (u9 _)) (x6 (u5 (i := 5) sc_Z14.nd rfl (by first | exact Or.inl rfl | exact Or.inr rfl) (R7 (z6 5 (pv 5)) (zs6 (zp2 (u0 (fun t ha => v7 (G_Z16.mono (by decide)) hr rfl a_Z16 k_Z16 b_Z16 .nil j5 ha) rfl (z0 (z6 0 (pv 0)) (z0 (o0 (o0 (z6 1 (pv 1)) y8) (Y1 (z6 4 (pv 4)) y8)) y7)) (z8 (z8 w5))) (j4 (z6 4 (pv 4)) y8)) y8)))) j0) (x6 (d0 (f6 G6 X5 (z6 5 (pv 5)) y8 (u9 _)) (x6 (Z3 (i := 3) (pv 3) (z6 4 (pv 4)) (fun t ha => zs4 PySem.F.plainAttrs_list PySem.F.slot_list_append PySem.F.type_list_append Z8 (pv 3) ha) (z0 (z6 4 (pv 4)) y7))) j0))))) (x6 (U8 3 (pv 3)))))
abbrev s_Z3 : Stmt := top 36
abbrev N_Z3 : List Str := ["cell", "k", "row", "step", "found", "up", "place", "number", "passed", "far"]
theorem sc_Z3 : FnScope N_Z3 ["cell", "k", "row", "step"] (x0 s_Z3) := ⟨rfl, rfl, rfl, by decide +kernel, rfl, by decide +kernel, by decide +kernel⟩
theorem xx1 {P : Program} {w : World} {K : W.Frag} {mg : Str -> Option Value} {base : Heap} {f : Addr} {fd : FuncData} {x_Z16 : Addr} {d_Z16 : FuncData} (Fn : Fun K "_law_by_turns" "_law_by_turns" s_Z3 f fd) (G_Z16 : FnOk P w K mg base CX0 1 x_Z16 d_Z16 ["cell", "k"] (spR K 2 c6)) (b_Z16 : Binds K d_Z16 ["cell", "k"] []) (k_Z16 : W.keepIn K (.ref x_Z16) = true) (a_Z16 : mg "_law_stir" = some (.ref x_Z16)) (z_abs : mg "abs" = none) (z_enumerate : mg "enumerate" = none) : FnOk P w K mg base CX0 2 f fd ["cell", "k", "row", "step"] (spR K 4 m_Z3) :=
 Fn.okD (k := 1) (m := b_Z3) sc_Z3 fun cdv A outer s H E hr => (y9 (Z4 (i := 4) sc_Z3.nd rfl (by first | exact Or.inl rfl | exact Or.inr rfl) (u4 y7)) (y9 (u5 (i := 5) sc_Z3.nd rfl (by first | exact Or.inl rfl | exact Or.inr rfl) zf9) (y9 (j9 PassesOwn.never rfl (B7 rfl z_enumerate (z0 (z6 2 (pv 2)) y7)) (V8 (is := [6, 7]) (R6 rfl (l8 (u7 (i := 6) sc_Z3.nd rfl (by first | exact Or.inl rfl | exact Or.inr rfl)) (l8 (u7 (i := 7) sc_Z3.nd rfl (by first | exact Or.inl rfl | exact Or.inr rfl)) V0)))) (y9 (u5 (i := 8) sc_Z3.nd rfl (by first | exact Or.inl rfl | exact Or.inr rfl) (yg8 (V9 G6 X5 (zs6 (zp2 (u0 (fun t ha => v7 (G_Z16.mono (by decide)) hr rfl a_Z16 k_Z16 b_Z16 .nil j5 ha) rfl (z0 (z6 0 (pv 0)) (z0 (o0 (z6 1 (pv 1)) (Y1 (z6 6 (pv 6)) y8)) y7)) (z8 (z8 w5))) (j4 (z6 6 (pv 6)) y8)) y8) y8 (u9 _)) (yg5 (V9 zw8 O8 (j4 (z6 6 (pv 6)) y8) y8 (u9 _))))) (x6 (d0 (pc_w (K9 (O6 (yt4 hr.units) (w4 4 (pv 4)) (t9 (u4 y7)) (u9 _)) (K4 (zp5 (zp4 (z6 8 (pv 8))))))) (x6 (Z3 (i := 4) (pv 4) (z6 6 (pv 6)) (fun t ha => zs4 PySem.F.plainAttrs_list PySem.F.slot_list_append PySem.F.type_list_append Z8 (pv 4) ha) (z0 (z6 6 (pv 6)) y7))) (x6 (d0 (pc_w (K9 (O6 (D0 hr.units) (w4 4 (pv 4)) (t9 (u4 y7)) (u9 _)) (K4 (zp5 (zp4 (z6 8 (pv 8))))))) (y9 (u5 (i := 9) sc_Z3.nd rfl (by first | exact Or.inl rfl | exact Or.inr rfl) (f7 (z6 7 (pv 7)) (j1 (w4 2 (pv 2)) (j1 (w4 4 (pv 4)) (T8 y8))))) (x6 (d0 (pc_w (K9 (f6 zk1 E9 (zp3 rfl z_abs (z0 (z6 9 (pv 9)) y7)) (z6 3 (pv 3)) (u9 _)) (K4 (f6 yf4 ze0 (z6 5 (pv 5)) (V9 zw8 O8 (z6 9 (pv 9)) y8 (u9 _)) (u9 _))))) (y9 (u5 (i := 5) sc_Z3.nd rfl (by first | exact Or.inl rfl | exact Or.inr rfl) (V9 zw8 O8 (z6 9 (pv 9)) y8 (u9 _))) (x6 (Z3 (i := 4) (pv 4) (z6 6 (pv 6)) (fun t ha => zs4 PySem.F.plainAttrs_list PySem.F.slot_list_append PySem.F.type_list_append Z8 (pv 4) ha) (z0 (z6 6 (pv 6)) y7)))) j0))) j0)))))) (x6 (U8 4 (pv 4))))))
abbrev s_Z0 : Stmt := top 37
abbrev N_Z0 : List Str := ["cell", "k", "places", "size", "at", "to", "far", "any_place", "found", "place", "turned"]
theorem sc_Z0 : FnScope N_Z0 ["cell", "k", "places", "size"] (x0 s_Z0) := ⟨rfl, rfl, rfl, by decide +kernel, rfl, by decide +kernel, by decide +kernel⟩
theorem xx4 {P : Program} {w : World} {K : W.Frag} {mg : Str -> Option Value} {base : Heap} {f : Addr} {fd : FuncData} {x_Z18 : Addr} {d_Z18 : FuncData} {x_Z16 : Addr} {d_Z16 : FuncData} (Fn : Fun K "_law_odd_places" "_law_odd_places" s_Z0 f fd) (G_Z18 : FnOk P w K mg base CX0 2 x_Z18 d_Z18 ["cell", "k"] (spR K 2 zv3)) (b_Z18 : Binds K d_Z18 ["cell", "k"] []) (k_Z18 : W.keepIn K (.ref x_Z18) = true) (a_Z18 : mg "_law_far" = some (.ref x_Z18)) (G_Z16 : FnOk P w K mg base CX0 1 x_Z16 d_Z16 ["cell", "k"] (spR K 2 c6)) (b_Z16 : Binds K d_Z16 ["cell", "k"] []) (k_Z16 : W.keepIn K (.ref x_Z16) = true) (a_Z16 : mg "_law_stir" = some (.ref x_Z16)) (z_len : mg "len" = none) (z_list : mg "list" = none) (z_max : mg "max" = none) : FnOk P w K mg base CX0 3 f fd ["cell", "k", "places", "size"] (spR K 4 m_Z0) :=
 Fn.okD (k := 2) (m := b_Z0) sc_Z0 fun cdv A outer s H E hr => (y9 (u5 (i := 4) sc_Z0.nd rfl (by first | exact Or.inl rfl | exact Or.inr rfl) (j4 (u0 (fun t ha => v7 (G_Z16.mono (by decide)) hr rfl a_Z16 k_Z16 b_Z16 .nil j5 ha) rfl (z0 (z6 0 (pv 0)) (z0 (z6 1 (pv 1)) y7)) (z8 (z8 w5))) (o0 (f8 rfl z_len (w4 2 (pv 2))) y8))) (y9 (u5 (i := 5) sc_Z0.nd rfl (by first | exact Or.inl rfl | exact Or.inr rfl) (j4 (u0 (fun t ha => v7 (G_Z16.mono (by decide)) hr rfl a_Z16 k_Z16 b_Z16 .nil j5 ha) rfl (z0 (z6 0 (pv 0)) (z0 (o0 (z6 1 (pv 1)) y8) y7)) (z8 (z8 w5))) (o0 (f8 rfl z_len (w4 2 (pv 2))) y8))) (y9 (u5 (i := 6) sc_Z0.nd rfl (by first | exact Or.inl rfl | exact Or.inr rfl) (u0 (fun t ha => v7 (G_Z18.mono (by decide)) hr rfl a_Z18 k_Z18 b_Z18 .nil j5 ha) rfl (z0 (z6 0 (pv 0)) (z0 (o0 (z6 1 (pv 1)) y8) y7)) (z8 (z8 w5)))) (y9 (u5 (i := 7) sc_Z0.nd rfl (by first | exact Or.inl rfl | exact Or.inr rfl) (j4 (u0 (fun t ha => v7 (G_Z16.mono (by decide)) hr rfl a_Z16 k_Z16 b_Z16 .nil j5 ha) rfl (z0 (z6 0 (pv 0)) (z0 (o0 (z6 1 (pv 1)) y8) y7)) (z8 (z8 w5))) (o0 (z6 3 (pv 3)) y8))) (y9 (Z4 (i := 8) sc_Z0.nd rfl (by first | exact Or.inl rfl | exact Or.inr rfl) (u4 (z0 (i6 (g0 (t9 (Y9 (w4 2 (pv 2)) r0 (t5 (z6 4 (pv 4))))) (t9 (Y9 (w4 2 (pv 2)) (t5 (o0 (z6 4 (pv 4)) y8)) r0)))) (z0 (i6 (g0 (t9 (g0 (t9 (Y9 (w4 2 (pv 2)) r0 (t5 (z6 4 (pv 4))))) (t9 (Y9 (w4 2 (pv 2)) (t5 (f7 (z6 4 (pv 4)) y8)) (t5 (z6 4 (pv 4))))))) (t9 (Y9 (w4 2 (pv 2)) (t5 (z6 4 (pv 4))) r0)))) (z0 (i6 (yh3 (w4 2 (pv 2)) (t5 (T8 y8)))) y7))))) (y9 (j9 PassesOwn.never rfl (Y0 (i6 (u4 (z0 (z6 7 (pv 7)) (z0 (T8 y8) (z0 (f7 (T8 y8) (z6 6 (pv 6))) (z0 (z6 3 (pv 3)) (z0 (o0 (z6 3 (pv 3)) (z6 6 (pv 6))) y7)))))))) (l5 (i := 9) (u7 sc_Z0.nd rfl (by first | exact Or.inl rfl | exact Or.inr rfl))) (y9 (Z3 (i := 8) (pv 8) (i6 (g0 (t9 (g0 (t9 (Y9 (w4 2 (pv 2)) r0 (t5 (z6 4 (pv 4))))) (t9 (u4 (z0 (z6 9 (pv 9)) y7))))) (t9 (Y9 (w4 2 (pv 2)) (t5 (z6 4 (pv 4))) r0)))) (fun t ha => zs4 PySem.F.plainAttrs_list PySem.F.slot_list_append PySem.F.type_list_append Z8 (pv 8) ha) (z0 (i6 (g0 (t9 (g0 (t9 (Y9 (w4 2 (pv 2)) r0 (t5 (z6 4 (pv 4))))) (t9 (u4 (z0 (z6 9 (pv 9)) y7))))) (t9 (Y9 (w4 2 (pv 2)) (t5 (z6 4 (pv 4))) r0)))) y7)) (x6 (Z3 (i := 8) (pv 8) (i6 (g0 (t9 (g0 (t9 (Y9 (w4 2 (pv 2)) r0 (t5 (z6 4 (pv 4))))) (t9 (u4 (z0 (z6 9 (pv 9)) y7))))) (t9 (Y9 (w4 2 (pv 2)) (t5 (o0 (z6 4 (pv 4)) y8)) r0)))) (fun t ha => zs4 PySem.F.plainAttrs_list PySem.F.slot_list_append PySem.F.type_list_append Z8 (pv 8) ha) (z0 (i6 (g0 (t9 (g0 (t9 (Y9 (w4 2 (pv 2)) r0 (t5 (z6 4 (pv 4))))) (t9 (u4 (z0 (z6 9 (pv 9)) y7))))) (t9 (Y9 (w4 2 (pv 2)) (t5 (o0 (z6 4 (pv 4)) y8)) r0)))) y7))))) (S2 8 (y9 (Z4 (i := 10) sc_Z0.nd rfl (by first | exact Or.inl rfl | exact Or.inr rfl) (K6 rfl z_list (w4 2 (pv 2)) PyProof.Rows.boot_list)) (y9 (d0 (f6 zw7 O7 (B8 rfl rfl z_max (z0 (z6 4 (pv 4)) (z0 (z6 5 (pv 5)) y7))) (f8 rfl z_len (w4 2 (pv 2))) (u9 _)) (x6 (zk0 (i := 10) (R5 (K7 (z0 (j1 (w4 2 (pv 2)) (z6 5 (pv 5))) (z0 (j1 (w4 2 (pv 2)) (z6 4 (pv 4))) y7))) (R6 rfl (l8 (O4 (pv 10) (z6 4 (pv 4)) X2) (l8 (O4 (pv 10) (z6 5 (pv 5)) X2) V0)))))) j0) (S2 10 (x6 (M4 (g0 (w4 8 (pv 8)) (t9 (u4 (z0 (z6 10 (pv 10)) (z0 (i6 (u4 y7)) y7)))))))))))))))))
abbrev zm6 : Stmt := top 38
abbrev xu0 : List Str := ["row", "step", "places", "last", "place", "ways", "one", "other", "far"]
theorem sc_Z11 : FnScope xu0 ["row", "step", "places"] (x0 zm6) := ⟨rfl, rfl, rfl, by decide +kernel, rfl, by decide +kernel, by decide +kernel⟩
theorem yd2 {P : Program} {w : World} {K : W.Frag} {mg : Str -> Option Value} {base : Heap} {f : Addr} {fd : FuncData} (Fn : Fun K "_law_round" "_law_round" zm6 f fd) (z_abs : mg "abs" = none) (z_len : mg "len" = none) (z_zip : mg "zip" = none) : FnOk P w K mg base CX0 1 f fd ["row", "step", "places"] (spR K 3 zd5) :=
 Fn.okD (k := 0) (m := b_Z11) sc_Z11 fun cdv A outer s H E hr => (y9 (u5 (i := 3) sc_Z11.nd rfl (by first | exact Or.inl rfl | exact Or.inr rfl) (T8 y8)) (y9 (j9 PassesOwn.never rfl (Y0 (z6 2 (pv 2))) (l5 (i := 4) (u7 sc_Z11.nd rfl (by first | exact Or.inl rfl | exact Or.inr rfl))) (y9 (d0 (pc_w (zw5 (f6 xy4 yg9 (z6 4 (pv 4)) (z6 3 (pv 3)) (u9 _)) (zx7 (f6 zk1 E9 (z6 4 (pv 4)) (f8 rfl z_len (w4 0 (pv 0))) (u9 _))))) (x6 (g8 G5)) j0) (x6 (u5 (i := 3) sc_Z11.nd rfl (by first | exact Or.inl rfl | exact Or.inr rfl) (z6 4 (pv 4)))))) (y9 (Z4 (i := 5) sc_Z11.nd rfl (by first | exact Or.inl rfl | exact Or.inr rfl) (u4 y7)) (y9 (j9 PassesOwn.never rfl (zp1 rfl z_zip (z0 (z6 2 (pv 2)) (z0 (i6 (g0 (t9 (Y9 (w4 2 (pv 2)) (t5 y8) r0)) (t9 (Y9 (w4 2 (pv 2)) r0 (t5 y8))))) y7))) (V8 (is := [6, 7]) (R6 rfl (l8 (u7 (i := 6) sc_Z11.nd rfl (by first | exact Or.inl rfl | exact Or.inr rfl)) (l8 (u7 (i := 7) sc_Z11.nd rfl (by first | exact Or.inl rfl | exact Or.inr rfl)) V0)))) (y9 (u5 (i := 8) sc_Z11.nd rfl (by first | exact Or.inl rfl | exact Or.inr rfl) (f7 (j1 (w4 0 (pv 0)) (z6 7 (pv 7))) (j1 (w4 0 (pv 0)) (z6 6 (pv 6))))) (y9 (d0 (pc_w (zw5 (f6 zw7 O7 (zp3 rfl z_abs (z0 (z6 8 (pv 8)) y7)) (z6 1 (pv 1)) (u9 _)) (zx7 (O6 (yt4 hr.units) (t9 (Y9 (w4 5 (pv 5)) (t5 (T8 y8)) r0)) (t9 (u4 (z0 (V9 zw8 O8 (z6 8 (pv 8)) y8 (u9 _)) y7))) (u9 _))))) (x6 (g8 G5)) j0) (x6 (Z3 (i := 5) (pv 5) (V9 zw8 O8 (z6 8 (pv 8)) y8 (u9 _)) (fun t ha => zs4 PySem.F.plainAttrs_list PySem.F.slot_list_append PySem.F.type_list_append Z8 (pv 5) ha) (z0 (V9 zw8 O8 (z6 8 (pv 8)) y8 (u9 _)) y7)))))) (x6 (g8 (V9 G6 X5 (j4 (f8 rfl z_len (w4 2 (pv 2))) y8) y8 (u9 _))))))))
abbrev zn9 : Stmt := top 39
abbrev xv3 : List Str := ["some", "others", "found", "many", "number"]
theorem sc_Z19 : FnScope xv3 ["some", "others"] (x0 zn9) := ⟨rfl, rfl, rfl, by decide +kernel, rfl, by decide +kernel, by decide +kernel⟩
theorem ye4 {P : Program} {w : World} {K : W.Frag} {mg : Str -> Option Value} {base : Heap} {f : Addr} {fd : FuncData} (Fn : Fun K "_law_put" "_law_put" zn9 f fd) (z_enumerate : mg "enumerate" = none) (z_len : mg "len" = none) : FnOk P w K mg base CX0 1 f fd ["some", "others"] (spR K 2 zk6) :=
 Fn.okD (k := 0) (m := b_Z19) sc_Z19 fun cdv A outer s H E hr => (y9 (Z4 (i := 2) sc_Z19.nd rfl (by first | exact Or.inl rfl | exact Or.inr rfl) (g0 (w4 0 (pv 0)) (t9 (yt0 (u4 (z0 y8 y7)) (f7 (o0 (f8 rfl z_len (w4 1 (pv 1))) y8) (f8 rfl z_len (w4 0 (pv 0)))))))) (y9 (j9 PassesOwn.never rfl (B7 rfl z_enumerate (z0 (z6 1 (pv 1)) y7)) (V8 (is := [3, 4]) (R6 rfl (l8 (u7 (i := 3) sc_Z19.nd rfl (by first | exact Or.inl rfl | exact Or.inr rfl)) (l8 (u7 (i := 4) sc_Z19.nd rfl (by first | exact Or.inl rfl | exact Or.inr rfl)) V0)))) (x6 (zw1 (i := 2) (R5 (o0 (j1 (w4 2 (pv 2)) (o0 (z6 3 (pv 3)) y8)) (z6 4 (pv 4))) (O4 (pv 2) (o0 (z6 3 (pv 3)) y8) X2))))) (x6 (U8 2 (pv 2)))))
abbrev d7 : Stmt := top 40
abbrev O2 : List Str := ["numbers", "step", "first", "ways", "lists", "place", "other", "side", "less", "one"]
theorem sc_law_come : FnScope O2 ["numbers", "step", "first"] (x0 d7) := ⟨rfl, rfl, rfl, by decide +kernel, rfl, by decide +kernel, by decide +kernel⟩
theorem A7 : List.Nodup (["number"] : List Str) := by decide +kernel
theorem A6 : List.Nodup (["number"] : List Str) := by decide +kernel
theorem zs7 {P : Program} {w : World} {K : W.Frag} {mg : Str -> Option Value} {base : Heap} {f : Addr} {fd : FuncData} {x_Z19 : Addr} {d_Z19 : FuncData} (Fn : Fun K "_law_come" "_law_come" d7 f fd) (G_Z19 : FnOk P w K mg base CX0 1 x_Z19 d_Z19 ["some", "others"] (spR K 2 zk6)) (b_Z19 : Binds K d_Z19 ["some", "others"] []) (k_Z19 : W.keepIn K (.ref x_Z19) = true) (a_Z19 : mg "_law_put" = some (.ref x_Z19)) (z_abs : mg "abs" = none) (z_int : mg "int" = none) (z_len : mg "len" = none) (z_min : mg "min" = none) (z_range : mg "range" = none) : FnOk P w K mg base CX0 2 f fd ["numbers", "step", "first"] (spR K 3 W5) :=
 (Fn.okW (k := 1) (m := b_law_come) sc_law_come fun cdv A outer s H E hr => (zw0 (zs2 (i := 3) sc_law_come.nd rfl (by first | exact Or.inl rfl | exact Or.inr rfl) (zt1 (N := ["number"]) (src := [none]) (x0 d7) O2 rfl rfl (by decide +kernel)) rfl (Y0 (z6 0 (pv 0))) (fun C fp s0 H0 => (l5 (i := 0) (u7 A7 rfl (by first | exact Or.inl rfl | exact Or.inr rfl)))) (fun C fp s0 H0 => R4) (fun C fp s0 H0 => (u4 (z0 (i6 (u4 y7)) (z0 (i6 (u4 y7)) y7))))) (zw0 (zs2 (i := 4) sc_law_come.nd rfl (by first | exact Or.inl rfl | exact Or.inr rfl) (zt1 (N := ["number"]) (src := [none]) (x0 d7) O2 rfl rfl (by decide +kernel)) rfl (Y0 (z6 0 (pv 0))) (fun C fp s0 H0 => (l5 (i := 0) (u7 A6 rfl (by first | exact Or.inl rfl | exact Or.inr rfl)))) (fun C fp s0 H0 => R4) (fun C fp s0 H0 => (u4 (z0 zf9 (z0 zf9 y7))))) (W1 (M1 (R5 (pdw (i6 (u4 (z0 y8 (z0 y8 y7))))) (O4 (G3 V1 (pv 3) (z6 2 (pv 2)) (fun _ _ => rfl)) y8 X2))) (W1 (M1 (R5 (pdw (K7 (z0 (T8 y8) (z0 (i6 (u4 (z0 (z6 2 (pv 2)) y7))) y7)))) (O4 (G3 V1 (pv 4) (z6 2 (pv 2)) (fun _ _ => rfl)) y8 X2))) (W1 (zg7 PassesOwn.never rfl (P5 rfl z_range (z0 (o0 (z6 2 (pv 2)) y8) (z0 (f8 rfl z_len (w4 0 (pv 0))) y7))) (l5 (i := 5) (u7 sc_law_come.nd rfl (by first | exact Or.inl rfl | exact Or.inr rfl))) (M2 (zg7 PassesOwn.never rfl (P5 rfl z_range (z0 (z6 2 (pv 2)) (z0 (z6 5 (pv 5)) y7))) (l5 (i := 6) (u7 sc_law_come.nd rfl (by first | exact Or.inl rfl | exact Or.inr rfl))) (W1 (psw (u5 (i := 7) sc_law_come.nd rfl (by first | exact Or.inl rfl | exact Or.inr rfl) (yo5 rfl z_int (z0 (V9 zw8 O8 (j1 (w4 0 (pv 0)) (z6 5 (pv 5))) (j1 (w4 0 (pv 0)) (z6 6 (pv 6))) (u9 _)) y7) PyProof.Rows.boot_int))) (M2 (yh1 (yx6 (pc_w (K9 (f6 zk1 E9 (zp3 rfl z_abs (z0 (f7 (j1 (w4 0 (pv 0)) (z6 5 (pv 5))) (j1 (w4 0 (pv 0)) (z6 6 (pv 6)))) y7)) (z6 1 (pv 1)) (u9 _)) (K4 (O6 (D0 hr.units) (G4 (j1 (G4 (j1 (w4 3 (pv 3)) (z6 6 (pv 6)))) (f7 y8 (z6 7 (pv 7))))) (t9 (u4 y7)) (u9 _)))))) (W1 (M1 (R5 (zf7 (zf5 (fun t ha => v7 (G_Z19.mono (by decide)) hr rfl a_Z19 k_Z19 b_Z19 .nil j5 ha) rfl (z0 (j1 (G4 (j1 (w4 3 (pv 3)) (z6 5 (pv 5)))) (z6 7 (pv 7))) (z0 (j1 (G4 (j1 (w4 3 (pv 3)) (z6 6 (pv 6)))) (f7 y8 (z6 7 (pv 7)))) y7)) (z8 (z8 w5)))) (O4 (G3 V1 (pv 3) (z6 5 (pv 5)) (fun _ _ => rfl)) (z6 7 (pv 7)) X2))) (W1 (yy6 (R5 (zf8 (G3 V1 (G3 V1 (pv 4) (z6 6 (pv 6)) (fun _ _ => rfl)) (f7 y8 (z6 7 (pv 7))) (fun _ _ => rfl))) (V8 (is := [8, 9]) (R6 rfl (l8 (u7 (i := 8) sc_law_come.nd rfl (by first | exact Or.inl rfl | exact Or.inr rfl)) (l8 (u7 (i := 9) sc_law_come.nd rfl (by first | exact Or.inl rfl | exact Or.inr rfl)) V0)))))) (M2 (M1 (R5 (yx4 rfl hr.units rfl z_min (yg4 (zf8 (G3 V1 (G3 V1 (pv 4) (z6 5 (pv 5)) (fun _ _ => rfl)) (z6 7 (pv 7)) (fun _ _ => rfl))) (yo3 (pdw (K7 (z0 y8 (z0 (i6 (u4 y7)) y7)))))) (pdw (K7 (z0 (f7 (z6 8 (pv 8)) y8) (z0 (i6 (g0 (w4 9 (pv 9)) (t9 (u4 (z0 (z6 5 (pv 5)) y7))))) y7))))) (O4 (G3 V1 (pv 4) (z6 5 (pv 5)) (fun _ _ => rfl)) (z6 7 (pv 7)) X2)))))) yy7)))))) (O3 4 (O3 3 (M2 (yq8 (zp0 (pdw (K7 (z0 (z6 3 (pv 3)) (z0 (z6 4 (pv 4)) y7))))))))))))))).plainW
abbrev zs0 : Stmt := top 41
abbrev xz1 : List Str := ["row", "step", "by_size", "best", "numbers", "first", "ways", "lists", "place", "many", "number"]
theorem sc_Z15 : FnScope xz1 ["row", "step"] (x0 zs0) := ⟨rfl, rfl, rfl, by decide +kernel, rfl, by decide +kernel, by decide +kernel⟩
theorem A5 : List.Nodup (["number"] : List Str) := by decide +kernel
theorem ye8 {P : Program} {w : World} {K : W.Frag} {mg : Str -> Option Value} {base : Heap} {f : Addr} {fd : FuncData} {x_law_come : Addr} {d_law_come : FuncData} (Fn : Fun K "_law_told" "_law_told" zs0 f fd) (G_law_come : FnOk P w K mg base CX0 2 x_law_come d_law_come ["numbers", "step", "first"] (spR K 3 W5)) (b_law_come : Binds K d_law_come ["numbers", "step", "first"] []) (k_law_come : W.keepIn K (.ref x_law_come) = true) (a_law_come : mg "_law_come" = some (.ref x_law_come)) (z_enumerate : mg "enumerate" = none) (z_len : mg "len" = none) (z_min : mg "min" = none) (z_range : mg "range" = none) : FnOk P w K mg base CX0 3 f fd ["row", "step"] (spR K 2 zd2) :=
 Fn.okD (k := 2) (m := b_Z15) sc_Z15 fun cdv A outer s H E hr => (y9 (Z4 (i := 2) sc_Z15.nd rfl (by first | exact Or.inl rfl | exact Or.inr rfl) (g0 (t9 (u4 (z0 y8 y7))) (t9 (yt0 (u4 (z0 y8 y7)) (f8 rfl z_len (w4 0 (pv 0))))))) (y9 (u5 (i := 3) sc_Z15.nd rfl (by first | exact Or.inl rfl | exact Or.inr rfl) (K7 (z0 y8 (z0 (i6 (u4 y7)) y7)))) (y9 (j9 PassesOwn.never rfl (Y0 (i6 (u4 (z0 (z6 0 (pv 0)) (z0 (i6 (zf4 (zt1 (N := ["number"]) (src := [none]) (x0 zs0) xz1 rfl rfl (by decide +kernel)) rfl (Y0 (z6 0 (pv 0))) (fun C fp s0 H0 => (l5 (i := 0) (u7 A5 rfl (by first | exact Or.inl rfl | exact Or.inr rfl)))) (fun C fp s0 H0 => R4) (fun C fp s0 H0 => (f7 y8 (z6 0 (pv 0)))))) y7))))) (l5 (i := 4) (u7 sc_Z15.nd rfl (by first | exact Or.inl rfl | exact Or.inr rfl))) (x6 (j9 PassesOwn.never rfl (Y7 rfl z_range (z0 (f8 rfl z_len (w4 0 (pv 0))) y7)) (l5 (i := 5) (u7 sc_Z15.nd rfl (by first | exact Or.inl rfl | exact Or.inr rfl))) (y9 (yp1 (R5 (u0 (fun t ha => v7 (G_law_come.mono (by decide)) hr rfl a_law_come k_law_come b_law_come .nil j5 ha) rfl (z0 (z6 4 (pv 4)) (z0 (z6 1 (pv 1)) (z0 (z6 5 (pv 5)) y7))) (z8 (z8 (z8 w5)))) (V8 (is := [6, 7]) (R6 rfl (l8 (u7 (i := 6) sc_Z15.nd rfl (by first | exact Or.inl rfl | exact Or.inr rfl)) (l8 (u7 (i := 7) sc_Z15.nd rfl (by first | exact Or.inl rfl | exact Or.inr rfl)) V0)))))) (x6 (j9 PassesOwn.never rfl (P5 rfl z_range (z0 (o0 (z6 5 (pv 5)) y8) (z0 (f8 rfl z_len (w4 0 (pv 0))) y7))) (l5 (i := 8) (u7 sc_Z15.nd rfl (by first | exact Or.inl rfl | exact Or.inr rfl))) (x6 (d0 (pc_w (K9 (O6 (D0 hr.units) (G4 (j1 (G4 (j1 (w4 6 (pv 6)) (z6 8 (pv 8)))) y8)) (t9 (u4 y7)) (u9 _)) (K4 (f6 zk1 E9 (f7 (j1 (w4 4 (pv 4)) (z6 8 (pv 8))) (j1 (w4 4 (pv 4)) (z6 5 (pv 5)))) (z6 1 (pv 1)) (u9 _))))) (y9 (j9 PassesOwn.never rfl (B7 rfl z_enumerate (z0 (j1 (G4 (j1 (w4 6 (pv 6)) (z6 8 (pv 8)))) y8) y7)) (V8 (is := [9, 10]) (R6 rfl (l8 (u7 (i := 9) sc_Z15.nd rfl (by first | exact Or.inl rfl | exact Or.inr rfl)) (l8 (u7 (i := 10) sc_Z15.nd rfl (by first | exact Or.inl rfl | exact Or.inr rfl)) V0)))) (x6 (zw1 (i := 2) (R5 (o0 (j1 (w4 2 (pv 2)) (Y1 (z6 9 (pv 9)) y8)) (z6 10 (pv 10))) (O4 (pv 2) (Y1 (z6 9 (pv 9)) y8) X2))))) (x6 (u5 (i := 3) sc_Z15.nd rfl (by first | exact Or.inl rfl | exact Or.inr rfl) (yx5 rfl hr.units rfl z_min (z0 (z6 3 (pv 3)) (z0 (j1 (G4 (j1 (w4 7 (pv 7)) (z6 8 (pv 8)))) y8) y7)))))) j0)))))))) (y9 (zg8 1000 PassesOwn.never (f6 G6 X5 (j1 (w4 2 (pv 2)) (T8 y8)) y8 (u9 _)) (x6 (yy8 (i := 2) (pv 2) (yg2 PySem.F.plainAttrs_list PySem.F.slot_list_pop PySem.F.type_list_pop yd7 (pv 2))))) (S2 2 (x6 (g8 (K7 (z0 (z6 2 (pv 2)) (z0 (yt3 (z6 3 (pv 3)) y8) y7))))))))))
abbrev s_Z6 : Stmt := top 42
abbrev N_Z6 : List Str := ["door", "row", "step", "places", "found", "handed", "e"]
theorem sc_Z6 : FnScope N_Z6 ["door", "row", "step", "places"] (x0 s_Z6) := ⟨rfl, rfl, rfl, by decide +kernel, rfl, by decide +kernel, by decide +kernel⟩
theorem xy8 {P : Program} {w : World} {K : W.Frag} {mg : Str -> Option Value} {base : Heap} {f : Addr} {fd : FuncData} {x_Z10 : Addr} {d_Z10 : FuncData} {x_Z2 : Addr} {d_Z2 : FuncData} {x_Z1 : Addr} {d_Z1 : FuncData} {x_Z8 : Addr} {d_Z8 : FuncData} (Fn : Fun K "_law_refused" "_law_refused" s_Z6 f fd) (G_Z10 : FnOkN P w K mg base CX0 1 x_Z10 d_Z10 ["e"] (spR K 1 zd6)) (b_Z10 : Binds K d_Z10 ["e"] []) (k_Z10 : W.keepIn K (.ref x_Z10) = true) (a_Z10 : mg "_law_flags" = some (.ref x_Z10)) (G_Z2 : FnOk P w K mg base CX0 2 x_Z2 d_Z2 ["row", "step"] (spR K 2 m_Z2)) (b_Z2 : Binds K d_Z2 ["row", "step"] []) (k_Z2 : W.keepIn K (.ref x_Z2) = true) (a_Z2 : mg "counts_round" = some (.ref x_Z2)) (G_Z1 : FnOk P w K mg base CX0 2 x_Z1 d_Z1 ["row", "step"] (spR K 2 m_Z1)) (b_Z1 : Binds K d_Z1 ["row", "step"] []) (k_Z1 : W.keepIn K (.ref x_Z1) = true) (a_Z1 : mg "longest_round" = some (.ref x_Z1)) (G_Z8 : FnOk P w K mg base CX0 3 x_Z8 d_Z8 ["row", "step", "places"] (spR K 3 m_Z8)) (b_Z8 : Binds K d_Z8 ["row", "step", "places"] []) (k_Z8 : W.keepIn K (.ref x_Z8) = true) (a_Z8 : mg "wavy_round" = some (.ref x_Z8)) (GX_Z2 : FnOk P w K mg base (CXx P w) 2 x_Z2 d_Z2 ["row", "step"] (spX K 2 zi3)) (GX_Z1 : FnOk P w K mg base (CXx P w) 2 x_Z1 d_Z1 ["row", "step"] (spX K 2 zi4)) (GX_Z8 : FnOk P w K mg base (CXx P w) 3 x_Z8 d_Z8 ["row", "step", "places"] (spX K 3 zi2)) {y_WaveError : Addr} (a_WaveError : mg "WaveError" = some (.ref y_WaveError)) (hcl_WaveError : ∀ c ∈ (["NoStep"] : List Str), ∀ C, XC K c C -> W.exmOne K (.ref C) (.ref y_WaveError) = some true) (z_list : mg "list" = none) : FnOk P w K mg base CX0 4 f fd ["door", "row", "step", "places"] (spR K 4 m_Z6) :=
 Fn.okD (k := 3) (m := b_Z6) sc_Z6 fun cdv A outer s H E hr => (y9 (Z4 (i := 4) sc_Z6.nd rfl (by first | exact Or.inl rfl | exact Or.inr rfl) (u4 y7)) (y9 (u5 (i := 5) sc_Z6.nd rfl (by first | exact Or.inl rfl | exact Or.inr rfl) (i6 (u4 (z0 (i6 (K6 rfl z_list (w4 1 (pv 1)) PyProof.Rows.boot_list)) (z0 (i6 (K6 rfl z_list (w4 3 (pv 3)) PyProof.Rows.boot_list)) y7))))) (y9 (yq9 (names := ["NoStep"]) (i := 6) rfl ⟨rfl, rfl, rfl⟩ rfl a_WaveError hcl_WaveError sc_Z6.nd rfl rfl (x6 (d0 (f6 G6 X5 (z6 0 (pv 0)) y8 (u9 _)) (x6 (U9 (u0 (fun t ha => v7 (G_Z8.mono (by decide)) hr rfl a_Z8 k_Z8 b_Z8 .nil j5 ha) rfl (z0 (j1 (w4 5 (pv 5)) y8) (z0 (z6 2 (pv 2)) (z0 (j1 (w4 5 (pv 5)) y8) y7))) (z8 (z8 (z8 w5)))))) (x6 (d0 (f6 G6 X5 (z6 0 (pv 0)) y8 (u9 _)) (x6 (U9 (u0 (fun t ha => v7 (G_Z1.mono (by decide)) hr rfl a_Z1 k_Z1 b_Z1 .nil j5 ha) rfl (z0 (j1 (w4 5 (pv 5)) y8) (z0 (z6 2 (pv 2)) y7)) (z8 (z8 w5))))) (x6 (U9 (u0 (fun t ha => v7 (G_Z2.mono (by decide)) hr rfl a_Z2 k_Z2 b_Z2 .nil j5 ha) rfl (z0 (j1 (w4 5 (pv 5)) y8) (z0 (z6 2 (pv 2)) y7)) (z8 (z8 w5))))))))) (W9 (zg6 rfl (f6 G6 X5 (z6 0 (pv 0)) y8 (u9 _)) (W9 (U7 (T0 rfl ⟨rfl, rfl, rfl⟩ (GX_Z8.mono (by decide)) hr rfl a_Z8 k_Z8 b_Z8 rfl (z0 (j1 (w4 5 (pv 5)) y8) (z0 (z6 2 (pv 2)) (z0 (j1 (w4 5 (pv 5)) y8) y7))) (z8 (z8 (z8 w5)))))) (W9 (zg6 rfl (f6 G6 X5 (z6 0 (pv 0)) y8 (u9 _)) (W9 (U7 (T0 rfl ⟨rfl, rfl, rfl⟩ (GX_Z1.mono (by decide)) hr rfl a_Z1 k_Z1 b_Z1 rfl (z0 (j1 (w4 5 (pv 5)) y8) (z0 (z6 2 (pv 2)) y7)) (z8 (z8 w5))))) (W9 (U7 (T0 rfl ⟨rfl, rfl, rfl⟩ (GX_Z2.mono (by decide)) hr rfl a_Z2 k_Z2 b_Z2 rfl (z0 (j1 (w4 5 (pv 5)) y8) (z0 (z6 2 (pv 2)) y7)) (z8 (z8 w5))))))))) (fun a => (x6 (Z4 (i := 4) sc_Z6.nd rfl (by first | exact Or.inl rfl | exact Or.inr rfl) (zf5 (fun t ha => yx3 (G_Z10.mono (by decide)) (hr.mark _) rfl a_Z10 k_Z10 b_Z10 .nil j5 ha) rfl (z0 (z6 6 (pv 6)) y7) (z8 w5)))))) (y9 (d0 (O6 (D0 hr.units) (w4 5 (pv 5)) (t9 (u4 (z0 (z6 1 (pv 1)) (z0 (z6 3 (pv 3)) y7)))) (u9 _)) (x6 (M4 (u4 (z0 yt2 y7)))) j0) (x6 (U8 4 (pv 4)))))))
abbrev G1 : Stmt := top 43
abbrev xz0 : List Str := ["script", "cell", "row", "step", "most_round", "places", "some", "handed", "turn", "found", "none", "door"]
theorem sc_Z20 : FnScope xz0 ["script"] (x0 G1) := ⟨rfl, rfl, rfl, by decide +kernel, rfl, by decide +kernel, by decide +kernel⟩
theorem yw1 : List.Nodup (["k"] : List Str) := by decide +kernel
theorem ye3 {P : Program} {w : World} {K : W.Frag} {mg : Str -> Option Value} {base : Heap} {f : Addr} {fd : FuncData} {x_Z3 : Addr} {d_Z3 : FuncData} {x_Z9 : Addr} {d_Z9 : FuncData} {x_Z18 : Addr} {d_Z18 : FuncData} {x_Z0 : Addr} {d_Z0 : FuncData} {x_Z6 : Addr} {d_Z6 : FuncData} {x_Z11 : Addr} {d_Z11 : FuncData} {x_Z17 : Addr} {d_Z17 : FuncData} {x_Z14 : Addr} {d_Z14 : FuncData} {x_Z13 : Addr} {d_Z13 : FuncData} {x_Z15 : Addr} {d_Z15 : FuncData} {x_Z8 : Addr} {d_Z8 : FuncData} (Fn : Fun K "law" "law" G1 f fd) (G_Z3 : FnOk P w K mg base CX0 2 x_Z3 d_Z3 ["cell", "k", "row", "step"] (spR K 4 m_Z3)) (b_Z3 : Binds K d_Z3 ["cell", "k", "row", "step"] []) (k_Z3 : W.keepIn K (.ref x_Z3) = true) (a_Z3 : mg "_law_by_turns" = some (.ref x_Z3)) (G_Z9 : FnOk P w K mg base CX0 1 x_Z9 d_Z9 ["script", "many"] (spR K 2 m_Z9)) (b_Z9 : Binds K d_Z9 ["script", "many"] []) (k_Z9 : W.keepIn K (.ref x_Z9) = true) (a_Z9 : mg "_law_cells" = some (.ref x_Z9)) (G_Z18 : FnOk P w K mg base CX0 2 x_Z18 d_Z18 ["cell", "k"] (spR K 2 zv3)) (b_Z18 : Binds K d_Z18 ["cell", "k"] []) (k_Z18 : W.keepIn K (.ref x_Z18) = true) (a_Z18 : mg "_law_far" = some (.ref x_Z18)) (G_Z0 : FnOk P w K mg base CX0 3 x_Z0 d_Z0 ["cell", "k", "places", "size"] (spR K 4 m_Z0)) (b_Z0 : Binds K d_Z0 ["cell", "k", "places", "size"] []) (k_Z0 : W.keepIn K (.ref x_Z0) = true) (a_Z0 : mg "_law_odd_places" = some (.ref x_Z0)) (G_Z6 : FnOk P w K mg base CX0 4 x_Z6 d_Z6 ["door", "row", "step", "places"] (spR K 4 m_Z6)) (b_Z6 : Binds K d_Z6 ["door", "row", "step", "places"] []) (k_Z6 : W.keepIn K (.ref x_Z6) = true) (a_Z6 : mg "_law_refused" = some (.ref x_Z6)) (G_Z11 : FnOk P w K mg base CX0 1 x_Z11 d_Z11 ["row", "step", "places"] (spR K 3 zd5)) (b_Z11 : Binds K d_Z11 ["row", "step", "places"] []) (k_Z11 : W.keepIn K (.ref x_Z11) = true) (a_Z11 : mg "_law_round" = some (.ref x_Z11)) (G_Z17 : FnOk P w K mg base CX0 2 x_Z17 d_Z17 ["cell", "most"] (spR K 2 zk7)) (b_Z17 : Binds K d_Z17 ["cell", "most"] []) (k_Z17 : W.keepIn K (.ref x_Z17) = true) (a_Z17 : mg "_law_row" = some (.ref x_Z17)) (G_Z14 : FnOk P w K mg base CX0 2 x_Z14 d_Z14 ["cell", "k", "size"] (spR K 3 zr3)) (b_Z14 : Binds K d_Z14 ["cell", "k", "size"] []) (k_Z14 : W.keepIn K (.ref x_Z14) = true) (a_Z14 : mg "_law_some" = some (.ref x_Z14)) (G_Z13 : FnOk P w K mg base CX0 2 x_Z13 d_Z13 ["cell"] (spR K 1 zd3)) (b_Z13 : Binds K d_Z13 ["cell"] []) (k_Z13 : W.keepIn K (.ref x_Z13) = true) (a_Z13 : mg "_law_step" = some (.ref x_Z13)) (G_Z15 : FnOk P w K mg base CX0 3 x_Z15 d_Z15 ["row", "step"] (spR K 2 zd2)) (b_Z15 : Binds K d_Z15 ["row", "step"] []) (k_Z15 : W.keepIn K (.ref x_Z15) = true) (a_Z15 : mg "_law_told" = some (.ref x_Z15)) (G_Z8 : FnOk P w K mg base CX0 3 x_Z8 d_Z8 ["row", "step", "places"] (spR K 3 m_Z8)) (b_Z8 : Binds K d_Z8 ["row", "step", "places"] []) (k_Z8 : W.keepIn K (.ref x_Z8) = true) (a_Z8 : mg "wavy_round" = some (.ref x_Z8)) (z_bool : mg "bool" = none) (z_isinstance : mg "isinstance" = none) (z_len : mg "len" = none) (z_list : mg "list" = none) (z_range : mg "range" = none) : FnOk P w K mg base CX0 5 f fd ["script"] (spR K 1 zr2) :=
 Fn.okD (k := 4) (m := yu4) sc_Z20 fun cdv A outer s H E hr => (y9 (j9 PassesOwn.never rfl (Y0 (u0 (fun t ha => v7 (G_Z9.mono (by decide)) hr rfl a_Z9 k_Z9 b_Z9 .nil j5 ha) rfl (z0 (z6 0 (pv 0)) (z0 y8 y7)) (z8 (z8 w5)))) (l5 (i := 1) (u7 sc_Z20.nd rfl (by first | exact Or.inl rfl | exact Or.inr rfl))) (y9 (u5 (i := 2) sc_Z20.nd rfl (by first | exact Or.inl rfl | exact Or.inr rfl) (u0 (fun t ha => v7 (G_Z17.mono (by decide)) hr rfl a_Z17 k_Z17 b_Z17 .nil j5 ha) rfl (z0 (z6 1 (pv 1)) (z0 y8 y7)) (z8 (z8 w5)))) (y9 (u5 (i := 3) sc_Z20.nd rfl (by first | exact Or.inl rfl | exact Or.inr rfl) (u0 (fun t ha => v7 (G_Z13.mono (by decide)) hr rfl a_Z13 k_Z13 b_Z13 .nil j5 ha) rfl (z0 (z6 1 (pv 1)) y7) (z8 w5))) (y9 (u5 (i := 4) sc_Z20.nd rfl (by first | exact Or.inl rfl | exact Or.inr rfl) (yt3 (u0 (fun t ha => v7 (G_Z15.mono (by decide)) hr rfl a_Z15 k_Z15 b_Z15 .nil j5 ha) rfl (z0 (i6 (Y9 (w4 2 (pv 2)) r0 (t5 y8))) (z0 (z6 3 (pv 3)) y7)) (z8 (z8 w5))) y8)) (y9 (j9 PassesOwn.never rfl (Y0 (i6 (u4 (z0 (u0 (fun t ha => v7 (G_Z14.mono (by decide)) hr rfl a_Z14 k_Z14 b_Z14 .nil j5 ha) rfl (z0 (z6 1 (pv 1)) (z0 y8 (z0 (f8 rfl z_len (w4 2 (pv 2))) y7))) (z8 (z8 (z8 w5)))) (z0 (u0 (fun t ha => v7 (G_Z3.mono (by decide)) hr rfl a_Z3 k_Z3 b_Z3 .nil j5 ha) rfl (z0 (z6 1 (pv 1)) (z0 y8 (z0 (z6 2 (pv 2)) (z0 (z6 3 (pv 3)) y7)))) (z8 (z8 (z8 (z8 w5))))) (z0 (z6 4 (pv 4)) y7)))))) (l5 (i := 5) (u7 sc_Z20.nd rfl (by first | exact Or.inl rfl | exact Or.inr rfl))) (x6 (j9 PassesOwn.never rfl (Y0 (i6 (g0 (t9 (u4 (z0 (z6 5 (pv 5)) y7))) (G4 (u0 (fun t ha => v7 (G_Z0.mono (by decide)) hr rfl a_Z0 k_Z0 b_Z0 .nil j5 ha) rfl (z0 (z6 1 (pv 1)) (z0 y8 (z0 (z6 5 (pv 5)) (z0 (f8 rfl z_len (w4 2 (pv 2))) y7)))) (z8 (z8 (z8 (z8 w5))))))))) (l5 (i := 6) (u7 sc_Z20.nd rfl (by first | exact Or.inl rfl | exact Or.inr rfl))) (y9 (u5 (i := 7) sc_Z20.nd rfl (by first | exact Or.inl rfl | exact Or.inr rfl) (i6 (u4 (z0 (i6 (K6 rfl z_list (w4 2 (pv 2)) PyProof.Rows.boot_list)) (z0 (i6 (K6 rfl z_list (w4 6 (pv 6)) PyProof.Rows.boot_list)) y7))))) (y9 (j9 PassesOwn.never rfl (Y7 rfl z_range (z0 y8 y7)) (l5 (i := 8) (u7 sc_Z20.nd rfl (by first | exact Or.inl rfl | exact Or.inr rfl))) (y9 (u5 (i := 9) sc_Z20.nd rfl (by first | exact Or.inl rfl | exact Or.inr rfl) (u0 (fun t ha => v7 (G_Z8.mono (by decide)) hr rfl a_Z8 k_Z8 b_Z8 .nil j5 ha) rfl (z0 (j1 (w4 7 (pv 7)) y8) (z0 (z6 3 (pv 3)) (z0 (j1 (w4 7 (pv 7)) y8) y7))) (z8 (z8 (z8 w5))))) (x6 (d0 (pc_w (zw5 (zp5 (zp4 (yg7 (C := "bool") rfl z_isinstance rfl z_bool PyProof.Rows.boot_bool (z6 9 (pv 9))))) (zx7 (f6 yf4 ze0 (z6 9 (pv 9)) (u0 (fun t ha => v7 (G_Z11.mono (by decide)) hr rfl a_Z11 k_Z11 b_Z11 .nil j5 ha) rfl (z0 (z6 2 (pv 2)) (z0 (z6 3 (pv 3)) (z0 (z6 6 (pv 6)) y7))) (z8 (z8 (z8 w5)))) (u9 _))))) (x6 (g8 G5)) j0)))) (x6 (d0 (O6 (D0 hr.units) (w4 7 (pv 7)) (t9 (u4 (z0 (z6 2 (pv 2)) (z0 (z6 6 (pv 6)) y7)))) (u9 _)) (x6 (g8 G5)) j0))))))) (x6 (j9 PassesOwn.never rfl (Y0 (i6 (u4 (z0 y8 (z0 (T8 y8) (z0 (f7 y8 (u0 (fun t ha => v7 (G_Z18.mono (by decide)) hr rfl a_Z18 k_Z18 b_Z18 .nil j5 ha) rfl (z0 (z6 1 (pv 1)) (z0 y8 y7)) (z8 (z8 w5)))) (z0 (f7 y8 (z6 3 (pv 3))) y7))))))) (l5 (i := 10) (u7 sc_Z20.nd rfl (by first | exact Or.inl rfl | exact Or.inr rfl))) (x6 (j9 PassesOwn.never rfl (Y7 rfl z_range (z0 y8 y7)) (l5 (i := 11) (u7 sc_Z20.nd rfl (by first | exact Or.inl rfl | exact Or.inr rfl))) (y9 (u5 (i := 6) sc_Z20.nd rfl (by first | exact Or.inl rfl | exact Or.inr rfl) (j1 (t9 (u4 (z0 (z6 4 (pv 4)) (z0 (z6 4 (pv 4)) (z0 (z6 4 (pv 4)) (z0 (i6 (u4 (z0 (T8 y8) y7))) (z0 (i6 (u4 (z0 (f8 rfl z_len (w4 2 (pv 2))) y7))) y7))))))) (z6 11 (pv 11)))) (x6 (d0 (O6 (D0 hr.units) (G4 (u0 (fun t ha => v7 (G_Z6.mono (by decide)) hr rfl a_Z6 k_Z6 b_Z6 .nil j5 ha) rfl (z0 (j4 (z6 11 (pv 11)) y8) (z0 (z6 2 (pv 2)) (z0 (z6 10 (pv 10)) (z0 (z6 6 (pv 6)) y7)))) (z8 (z8 (z8 (z8 w5)))))) (t9 (zf4 (zt1 (N := ["k"]) (src := [none]) (x0 G1) xz0 rfl rfl (by decide +kernel)) rfl (Y7 rfl z_range (z0 y8 y7)) (fun C fp s0 H0 => (l5 (i := 0) (u7 yw1 rfl (by first | exact Or.inl rfl | exact Or.inr rfl)))) (fun C fp s0 H0 => R4) (fun C fp s0 H0 => (V9 G6 X5 (z6 0 (pv 0)) y8 (u9 _))))) (u9 _)) (x6 (g8 G5)) j0)))))))))))) (x6 (g8 G5)))
theorem all_mk {l : W.OpenLaw} {w : World} {K : W.Frag} {h : Heap} {mg : Str -> Option Value} {fa x_Z5 x_Z7 x_Z12 x_Z4 x_Z8 x_Z1 x_Z2 x_Z16 x_Z9 x_Z17 x_Z13 x_Z10 x_Z18 x_Z14 x_Z3 x_Z0 x_Z11 x_Z19 x_law_come x_Z15 x_Z6 x_Z20 : Addr} (X : K.In h) (G : h.Ns mainGlobals mg) (hfa : mg "law" = some (.ref fa)) {o1_Z5 o2_Z5 : Option Addr} {sl_Z5 : Array (Option Value)} {oc_Z5 kV_Z5 dc_Z5 pm_Z5 cd_Z5 ct_Z5 : Value} {o1_Z7 o2_Z7 : Option Addr} {sl_Z7 : Array (Option Value)} {oc_Z7 kV_Z7 dc_Z7 pm_Z7 cd_Z7 ct_Z7 : Value} {o1_Z12 o2_Z12 : Option Addr} {sl_Z12 : Array (Option Value)} {oc_Z12 kV_Z12 dc_Z12 pm_Z12 cd_Z12 ct_Z12 : Value} {o1_Z4 o2_Z4 : Option Addr} {sl_Z4 : Array (Option Value)} {oc_Z4 kV_Z4 dc_Z4 pm_Z4 cd_Z4 ct_Z4 : Value} {o1_Z8 o2_Z8 : Option Addr} {sl_Z8 : Array (Option Value)} {oc_Z8 kV_Z8 dc_Z8 pm_Z8 cd_Z8 ct_Z8 : Value} {o1_Z1 o2_Z1 : Option Addr} {sl_Z1 : Array (Option Value)} {oc_Z1 kV_Z1 dc_Z1 pm_Z1 cd_Z1 ct_Z1 : Value} {o1_Z2 o2_Z2 : Option Addr} {sl_Z2 : Array (Option Value)} {oc_Z2 kV_Z2 dc_Z2 pm_Z2 cd_Z2 ct_Z2 : Value} {o1_Z16 o2_Z16 : Option Addr} {sl_Z16 : Array (Option Value)} {oc_Z16 kV_Z16 dc_Z16 pm_Z16 cd_Z16 ct_Z16 : Value} {o1_Z9 o2_Z9 : Option Addr} {sl_Z9 : Array (Option Value)} {oc_Z9 kV_Z9 dc_Z9 pm_Z9 cd_Z9 ct_Z9 : Value} {o1_Z17 o2_Z17 : Option Addr} {sl_Z17 : Array (Option Value)} {oc_Z17 kV_Z17 dc_Z17 pm_Z17 cd_Z17 ct_Z17 : Value} {o1_Z13 o2_Z13 : Option Addr} {sl_Z13 : Array (Option Value)} {oc_Z13 kV_Z13 dc_Z13 pm_Z13 cd_Z13 ct_Z13 : Value} {o1_Z10 o2_Z10 : Option Addr} {sl_Z10 : Array (Option Value)} {oc_Z10 kV_Z10 dc_Z10 pm_Z10 cd_Z10 ct_Z10 : Value} {o1_Z18 o2_Z18 : Option Addr} {sl_Z18 : Array (Option Value)} {oc_Z18 kV_Z18 dc_Z18 pm_Z18 cd_Z18 ct_Z18 : Value} {o1_Z14 o2_Z14 : Option Addr} {sl_Z14 : Array (Option Value)} {oc_Z14 kV_Z14 dc_Z14 pm_Z14 cd_Z14 ct_Z14 : Value} {o1_Z3 o2_Z3 : Option Addr} {sl_Z3 : Array (Option Value)} {oc_Z3 kV_Z3 dc_Z3 pm_Z3 cd_Z3 ct_Z3 : Value} {o1_Z0 o2_Z0 : Option Addr} {sl_Z0 : Array (Option Value)} {oc_Z0 kV_Z0 dc_Z0 pm_Z0 cd_Z0 ct_Z0 : Value} {o1_Z11 o2_Z11 : Option Addr} {sl_Z11 : Array (Option Value)} {oc_Z11 kV_Z11 dc_Z11 pm_Z11 cd_Z11 ct_Z11 : Value} {o1_Z19 o2_Z19 : Option Addr} {sl_Z19 : Array (Option Value)} {oc_Z19 kV_Z19 dc_Z19 pm_Z19 cd_Z19 ct_Z19 : Value} {o1_law_come o2_law_come : Option Addr} {sl_law_come : Array (Option Value)} {oc_law_come kV_law_come dc_law_come pm_law_come cd_law_come ct_law_come : Value} {o1_Z15 o2_Z15 : Option Addr} {sl_Z15 : Array (Option Value)} {oc_Z15 kV_Z15 dc_Z15 pm_Z15 cd_Z15 ct_Z15 : Value} {o1_Z6 o2_Z6 : Option Addr} {sl_Z6 : Array (Option Value)} {oc_Z6 kV_Z6 dc_Z6 pm_Z6 cd_Z6 ct_Z6 : Value} {o1_Z20 o2_Z20 : Option Addr} {sl_Z20 : Array (Option Value)} {oc_Z20 kV_Z20 dc_Z20 pm_Z20 cd_Z20 ct_Z20 : Value}
  (e_Z5 : W.nsIn K mainGlobals "refuse_step" = some (some (.ref x_Z5))) (l_Z5 : K.lookup x_Z5 = some ⟨oc_Z5, o1_Z5, .func (W.fnOf "refuse_step" "refuse_step" (l0 s_Z5) (t4 s_Z5) (x0 s_Z5) .none kV_Z5 dc_Z5 pm_Z5 o2_Z5 cd_Z5 ct_Z5), sl_Z5⟩) (c_Z5 : W.codeIn K cd_Z5 "refuse_step" = true) (k_Z5 : W.keepIn K (.ref x_Z5) = true)
  (e_Z7 : W.nsIn K mainGlobals "are_places" = some (some (.ref x_Z7))) (l_Z7 : K.lookup x_Z7 = some ⟨oc_Z7, o1_Z7, .func (W.fnOf "are_places" "are_places" (l0 s_Z7) (t4 s_Z7) (x0 s_Z7) .none kV_Z7 dc_Z7 pm_Z7 o2_Z7 cd_Z7 ct_Z7), sl_Z7⟩) (c_Z7 : W.codeIn K cd_Z7 "are_places" = true) (k_Z7 : W.keepIn K (.ref x_Z7) = true)
  (e_Z12 : W.nsIn K mainGlobals "turns_of" = some (some (.ref x_Z12))) (l_Z12 : K.lookup x_Z12 = some ⟨oc_Z12, o1_Z12, .func (W.fnOf "turns_of" "turns_of" (l0 zm5) (t4 zm5) (x0 zm5) .none kV_Z12 dc_Z12 pm_Z12 o2_Z12 cd_Z12 ct_Z12), sl_Z12⟩) (c_Z12 : W.codeIn K cd_Z12 "turns_of" = true) (k_Z12 : W.keepIn K (.ref x_Z12) = true)
  (e_Z4 : W.nsIn K mainGlobals "go_by_turns" = some (some (.ref x_Z4))) (l_Z4 : K.lookup x_Z4 = some ⟨oc_Z4, o1_Z4, .func (W.fnOf "go_by_turns" "go_by_turns" (l0 s_Z4) (t4 s_Z4) (x0 s_Z4) .none kV_Z4 dc_Z4 pm_Z4 o2_Z4 cd_Z4 ct_Z4), sl_Z4⟩) (c_Z4 : W.codeIn K cd_Z4 "go_by_turns" = true) (k_Z4 : W.keepIn K (.ref x_Z4) = true)
  (e_Z8 : W.nsIn K mainGlobals "wavy_round" = some (some (.ref x_Z8))) (l_Z8 : K.lookup x_Z8 = some ⟨oc_Z8, o1_Z8, .func (W.fnOf "wavy_round" "wavy_round" (l0 s_Z8) (t4 s_Z8) (x0 s_Z8) .none kV_Z8 dc_Z8 pm_Z8 o2_Z8 cd_Z8 ct_Z8), sl_Z8⟩) (c_Z8 : W.codeIn K cd_Z8 "wavy_round" = true) (k_Z8 : W.keepIn K (.ref x_Z8) = true)
  (e_Z1 : W.nsIn K mainGlobals "longest_round" = some (some (.ref x_Z1))) (l_Z1 : K.lookup x_Z1 = some ⟨oc_Z1, o1_Z1, .func (W.fnOf "longest_round" "longest_round" (l0 s_Z1) (t4 s_Z1) (x0 s_Z1) .none kV_Z1 dc_Z1 pm_Z1 o2_Z1 cd_Z1 ct_Z1), sl_Z1⟩) (c_Z1 : W.codeIn K cd_Z1 "longest_round" = true) (k_Z1 : W.keepIn K (.ref x_Z1) = true)
  (e_Z2 : W.nsIn K mainGlobals "counts_round" = some (some (.ref x_Z2))) (l_Z2 : K.lookup x_Z2 = some ⟨oc_Z2, o1_Z2, .func (W.fnOf "counts_round" "counts_round" (l0 s_Z2) (t4 s_Z2) (x0 s_Z2) .none kV_Z2 dc_Z2 pm_Z2 o2_Z2 cd_Z2 ct_Z2), sl_Z2⟩) (c_Z2 : W.codeIn K cd_Z2 "counts_round" = true) (k_Z2 : W.keepIn K (.ref x_Z2) = true)
  (e_Z16 : W.nsIn K mainGlobals "_law_stir" = some (some (.ref x_Z16))) (l_Z16 : K.lookup x_Z16 = some ⟨oc_Z16, o1_Z16, .func (W.fnOf "_law_stir" "_law_stir" (l0 zm2) (t4 zm2) (x0 zm2) .none kV_Z16 dc_Z16 pm_Z16 o2_Z16 cd_Z16 ct_Z16), sl_Z16⟩) (c_Z16 : W.codeIn K cd_Z16 "_law_stir" = true) (k_Z16 : W.keepIn K (.ref x_Z16) = true)
  (e_Z9 : W.nsIn K mainGlobals "_law_cells" = some (some (.ref x_Z9))) (l_Z9 : K.lookup x_Z9 = some ⟨oc_Z9, o1_Z9, .func (W.fnOf "_law_cells" "_law_cells" (l0 s_Z9) (t4 s_Z9) (x0 s_Z9) .none kV_Z9 dc_Z9 pm_Z9 o2_Z9 cd_Z9 ct_Z9), sl_Z9⟩) (c_Z9 : W.codeIn K cd_Z9 "_law_cells" = true) (k_Z9 : W.keepIn K (.ref x_Z9) = true)
  (e_Z17 : W.nsIn K mainGlobals "_law_row" = some (some (.ref x_Z17))) (l_Z17 : K.lookup x_Z17 = some ⟨oc_Z17, o1_Z17, .func (W.fnOf "_law_row" "_law_row" (l0 zm1) (t4 zm1) (x0 zm1) .none kV_Z17 dc_Z17 pm_Z17 o2_Z17 cd_Z17 ct_Z17), sl_Z17⟩) (c_Z17 : W.codeIn K cd_Z17 "_law_row" = true) (k_Z17 : W.keepIn K (.ref x_Z17) = true)
  (e_Z13 : W.nsIn K mainGlobals "_law_step" = some (some (.ref x_Z13))) (l_Z13 : K.lookup x_Z13 = some ⟨oc_Z13, o1_Z13, .func (W.fnOf "_law_step" "_law_step" (l0 zm4) (t4 zm4) (x0 zm4) .none kV_Z13 dc_Z13 pm_Z13 o2_Z13 cd_Z13 ct_Z13), sl_Z13⟩) (c_Z13 : W.codeIn K cd_Z13 "_law_step" = true) (k_Z13 : W.keepIn K (.ref x_Z13) = true)
  (e_Z10 : W.nsIn K mainGlobals "_law_flags" = some (some (.ref x_Z10))) (l_Z10 : K.lookup x_Z10 = some ⟨oc_Z10, o1_Z10, .func (W.fnOf "_law_flags" "_law_flags" (l0 zm7) (t4 zm7) (x0 zm7) .none kV_Z10 dc_Z10 pm_Z10 o2_Z10 cd_Z10 ct_Z10), sl_Z10⟩) (c_Z10 : W.codeIn K cd_Z10 "_law_flags" = true) (k_Z10 : W.keepIn K (.ref x_Z10) = true)
  (e_Z18 : W.nsIn K mainGlobals "_law_far" = some (some (.ref x_Z18))) (l_Z18 : K.lookup x_Z18 = some ⟨oc_Z18, o1_Z18, .func (W.fnOf "_law_far" "_law_far" (l0 zm0) (t4 zm0) (x0 zm0) .none kV_Z18 dc_Z18 pm_Z18 o2_Z18 cd_Z18 ct_Z18), sl_Z18⟩) (c_Z18 : W.codeIn K cd_Z18 "_law_far" = true) (k_Z18 : W.keepIn K (.ref x_Z18) = true)
  (e_Z14 : W.nsIn K mainGlobals "_law_some" = some (some (.ref x_Z14))) (l_Z14 : K.lookup x_Z14 = some ⟨oc_Z14, o1_Z14, .func (W.fnOf "_law_some" "_law_some" (l0 zm3) (t4 zm3) (x0 zm3) .none kV_Z14 dc_Z14 pm_Z14 o2_Z14 cd_Z14 ct_Z14), sl_Z14⟩) (c_Z14 : W.codeIn K cd_Z14 "_law_some" = true) (k_Z14 : W.keepIn K (.ref x_Z14) = true)
  (e_Z3 : W.nsIn K mainGlobals "_law_by_turns" = some (some (.ref x_Z3))) (l_Z3 : K.lookup x_Z3 = some ⟨oc_Z3, o1_Z3, .func (W.fnOf "_law_by_turns" "_law_by_turns" (l0 s_Z3) (t4 s_Z3) (x0 s_Z3) .none kV_Z3 dc_Z3 pm_Z3 o2_Z3 cd_Z3 ct_Z3), sl_Z3⟩) (c_Z3 : W.codeIn K cd_Z3 "_law_by_turns" = true) (k_Z3 : W.keepIn K (.ref x_Z3) = true)
  (e_Z0 : W.nsIn K mainGlobals "_law_odd_places" = some (some (.ref x_Z0))) (l_Z0 : K.lookup x_Z0 = some ⟨oc_Z0, o1_Z0, .func (W.fnOf "_law_odd_places" "_law_odd_places" (l0 s_Z0) (t4 s_Z0) (x0 s_Z0) .none kV_Z0 dc_Z0 pm_Z0 o2_Z0 cd_Z0 ct_Z0), sl_Z0⟩) (c_Z0 : W.codeIn K cd_Z0 "_law_odd_places" = true) (k_Z0 : W.keepIn K (.ref x_Z0) = true)
  (e_Z11 : W.nsIn K mainGlobals "_law_round" = some (some (.ref x_Z11))) (l_Z11 : K.lookup x_Z11 = some ⟨oc_Z11, o1_Z11, .func (W.fnOf "_law_round" "_law_round" (l0 zm6) (t4 zm6) (x0 zm6) .none kV_Z11 dc_Z11 pm_Z11 o2_Z11 cd_Z11 ct_Z11), sl_Z11⟩) (c_Z11 : W.codeIn K cd_Z11 "_law_round" = true) (k_Z11 : W.keepIn K (.ref x_Z11) = true)
  (e_Z19 : W.nsIn K mainGlobals "_law_put" = some (some (.ref x_Z19))) (l_Z19 : K.lookup x_Z19 = some ⟨oc_Z19, o1_Z19, .func (W.fnOf "_law_put" "_law_put" (l0 zn9) (t4 zn9) (x0 zn9) .none kV_Z19 dc_Z19 pm_Z19 o2_Z19 cd_Z19 ct_Z19), sl_Z19⟩) (c_Z19 : W.codeIn K cd_Z19 "_law_put" = true) (k_Z19 : W.keepIn K (.ref x_Z19) = true)
  (e_law_come : W.nsIn K mainGlobals "_law_come" = some (some (.ref x_law_come))) (l_law_come : K.lookup x_law_come = some ⟨oc_law_come, o1_law_come, .func (W.fnOf "_law_come" "_law_come" (l0 d7) (t4 d7) (x0 d7) .none kV_law_come dc_law_come pm_law_come o2_law_come cd_law_come ct_law_come), sl_law_come⟩) (c_law_come : W.codeIn K cd_law_come "_law_come" = true) (k_law_come : W.keepIn K (.ref x_law_come) = true)
  (e_Z15 : W.nsIn K mainGlobals "_law_told" = some (some (.ref x_Z15))) (l_Z15 : K.lookup x_Z15 = some ⟨oc_Z15, o1_Z15, .func (W.fnOf "_law_told" "_law_told" (l0 zs0) (t4 zs0) (x0 zs0) .none kV_Z15 dc_Z15 pm_Z15 o2_Z15 cd_Z15 ct_Z15), sl_Z15⟩) (c_Z15 : W.codeIn K cd_Z15 "_law_told" = true) (k_Z15 : W.keepIn K (.ref x_Z15) = true)
  (e_Z6 : W.nsIn K mainGlobals "_law_refused" = some (some (.ref x_Z6))) (l_Z6 : K.lookup x_Z6 = some ⟨oc_Z6, o1_Z6, .func (W.fnOf "_law_refused" "_law_refused" (l0 s_Z6) (t4 s_Z6) (x0 s_Z6) .none kV_Z6 dc_Z6 pm_Z6 o2_Z6 cd_Z6 ct_Z6), sl_Z6⟩) (c_Z6 : W.codeIn K cd_Z6 "_law_refused" = true) (k_Z6 : W.keepIn K (.ref x_Z6) = true)
  (e_Z20 : W.nsIn K mainGlobals "law" = some (some (.ref x_Z20))) (l_Z20 : K.lookup x_Z20 = some ⟨oc_Z20, o1_Z20, .func (W.fnOf "law" "law" (l0 G1) (t4 G1) (x0 G1) .none kV_Z20 dc_Z20 pm_Z20 o2_Z20 cd_Z20 ct_Z20), sl_Z20⟩) (c_Z20 : W.codeIn K cd_Z20 "law" = true) (k_Z20 : W.keepIn K (.ref x_Z20) = true) {y_NoForm : Addr} {y_NoNumber : Addr} {y_NoPlace : Addr} {y_NoStep : Addr} {y_NoText : Addr} {y_NoWeights : Addr} {y_NoneYet : Addr} {y_WaveError : Addr}
  (e_NoForm : W.nsIn K mainGlobals "NoForm" = some (some (.ref y_NoForm)))
  (e_NoNumber : W.nsIn K mainGlobals "NoNumber" = some (some (.ref y_NoNumber)))
  (e_NoPlace : W.nsIn K mainGlobals "NoPlace" = some (some (.ref y_NoPlace)))
  (e_NoStep : W.nsIn K mainGlobals "NoStep" = some (some (.ref y_NoStep)))
  (e_NoText : W.nsIn K mainGlobals "NoText" = some (some (.ref y_NoText)))
  (e_NoWeights : W.nsIn K mainGlobals "NoWeights" = some (some (.ref y_NoWeights)))
  (e_NoneYet : W.nsIn K mainGlobals "NoneYet" = some (some (.ref y_NoneYet)))
  (e_WaveError : W.nsIn K mainGlobals "WaveError" = some (some (.ref y_WaveError)))
  (n_NoStep : ys6 K y_NoStep = some "NoStep")
  (q_NoStep : W.excIn K y_NoStep bmV "ValueError.__new__" = true)
  (w_NoStep : ys4 K y_NoStep = true)
  (m_NoStep_WaveError : W.exmOne K (.ref y_NoStep) (.ref y_WaveError) = some true)
  (i_NoStep_NoForm : W.kitOne K (.ref y_NoStep) (.ref y_NoForm) = some false)
  (i_NoStep_NoNumber : W.kitOne K (.ref y_NoStep) (.ref y_NoNumber) = some false)
  (i_NoStep_NoPlace : W.kitOne K (.ref y_NoStep) (.ref y_NoPlace) = some false)
  (i_NoStep_NoStep : W.kitOne K (.ref y_NoStep) (.ref y_NoStep) = some true)
  (i_NoStep_NoText : W.kitOne K (.ref y_NoStep) (.ref y_NoText) = some false)
  (i_NoStep_NoWeights : W.kitOne K (.ref y_NoStep) (.ref y_NoWeights) = some false)
  (i_NoStep_NoneYet : W.kitOne K (.ref y_NoStep) (.ref y_NoneYet) = some false)
  (j_NoStep_ValueError : W.kitOne K (.ref y_NoStep) (.type "ValueError") = some true)
  (y_ValueError : W.nsIn K mainGlobals "ValueError" = some none)
  (y_abs : W.nsIn K mainGlobals "abs" = some none)
  (y_bool : W.nsIn K mainGlobals "bool" = some none)
  (y_enumerate : W.nsIn K mainGlobals "enumerate" = some none)
  (y_int : W.nsIn K mainGlobals "int" = some none)
  (y_isinstance : W.nsIn K mainGlobals "isinstance" = some none)
  (y_len : W.nsIn K mainGlobals "len" = some none)
  (y_list : W.nsIn K mainGlobals "list" = some none)
  (y_max : W.nsIn K mainGlobals "max" = some none)
  (y_min : W.nsIn K mainGlobals "min" = some none)
  (y_range : W.nsIn K mainGlobals "range" = some none)
  (y_zip : W.nsIn K mainGlobals "zip" = some none) :
  ∃ fd : FuncData, (∀ (s : Shared) (v : Value), BindsTo s fd ⟨[v], []⟩ [("script", v)]) /\ ∀ base : Heap, K.In base -> base.Ns mainGlobals mg -> FnOk l.prog w K mg base CX0 5 fa fd ["script"] (spR K 1 zr2) := by
 have e := hfa.symm.trans (W.mg_of X G e_Z20)
 cases e
 have F_Z5 := e7 (st := s_Z5) l_Z5 c_Z5 k_Z5
 have b_Z5 := F_Z5.binds (ps := ["step"]) fun _ _ _ _ _ _ us hl => by refine us1 (P := fun vs => bindArgs _ { pos := vs } = pure (List.zip _ vs)) ?_ us hl; intros; rfl
 have a_Z5 := W.mg_of X G e_Z5
 have F_Z7 := e7 (st := s_Z7) l_Z7 c_Z7 k_Z7
 have b_Z7 := F_Z7.binds (ps := ["row", "places"]) fun _ _ _ _ _ _ us hl => by refine us2 (P := fun vs => bindArgs _ { pos := vs } = pure (List.zip _ vs)) ?_ us hl; intros; rfl
 have a_Z7 := W.mg_of X G e_Z7
 have F_Z12 := e7 (st := zm5) l_Z12 c_Z12 k_Z12
 have b_Z12 := F_Z12.binds (ps := ["numbers"]) fun _ _ _ _ _ _ us hl => by refine us1 (P := fun vs => bindArgs _ { pos := vs } = pure (List.zip _ vs)) ?_ us hl; intros; rfl
 have a_Z12 := W.mg_of X G e_Z12
 have F_Z4 := e7 (st := s_Z4) l_Z4 c_Z4 k_Z4
 have b_Z4 := F_Z4.binds (ps := ["numbers", "step"]) fun _ _ _ _ _ _ us hl => by refine us2 (P := fun vs => bindArgs _ { pos := vs } = pure (List.zip _ vs)) ?_ us hl; intros; rfl
 have a_Z4 := W.mg_of X G e_Z4
 have F_Z8 := e7 (st := s_Z8) l_Z8 c_Z8 k_Z8
 have b_Z8 := F_Z8.binds (ps := ["row", "step", "places"]) fun _ _ _ _ _ _ us hl => by refine us3 (P := fun vs => bindArgs _ { pos := vs } = pure (List.zip _ vs)) ?_ us hl; intros; rfl
 have a_Z8 := W.mg_of X G e_Z8
 have F_Z1 := e7 (st := s_Z1) l_Z1 c_Z1 k_Z1
 have b_Z1 := F_Z1.binds (ps := ["row", "step"]) fun _ _ _ _ _ _ us hl => by refine us2 (P := fun vs => bindArgs _ { pos := vs } = pure (List.zip _ vs)) ?_ us hl; intros; rfl
 have a_Z1 := W.mg_of X G e_Z1
 have F_Z2 := e7 (st := s_Z2) l_Z2 c_Z2 k_Z2
 have b_Z2 := F_Z2.binds (ps := ["row", "step"]) fun _ _ _ _ _ _ us hl => by refine us2 (P := fun vs => bindArgs _ { pos := vs } = pure (List.zip _ vs)) ?_ us hl; intros; rfl
 have a_Z2 := W.mg_of X G e_Z2
 have F_Z16 := e7 (st := zm2) l_Z16 c_Z16 k_Z16
 have b_Z16 := F_Z16.binds (ps := ["cell", "k"]) fun _ _ _ _ _ _ us hl => by refine us2 (P := fun vs => bindArgs _ { pos := vs } = pure (List.zip _ vs)) ?_ us hl; intros; rfl
 have a_Z16 := W.mg_of X G e_Z16
 have F_Z9 := e7 (st := s_Z9) l_Z9 c_Z9 k_Z9
 have b_Z9 := F_Z9.binds (ps := ["script", "many"]) fun _ _ _ _ _ _ us hl => by refine us2 (P := fun vs => bindArgs _ { pos := vs } = pure (List.zip _ vs)) ?_ us hl; intros; rfl
 have a_Z9 := W.mg_of X G e_Z9
 have F_Z17 := e7 (st := zm1) l_Z17 c_Z17 k_Z17
 have b_Z17 := F_Z17.binds (ps := ["cell", "most"]) fun _ _ _ _ _ _ us hl => by refine us2 (P := fun vs => bindArgs _ { pos := vs } = pure (List.zip _ vs)) ?_ us hl; intros; rfl
 have a_Z17 := W.mg_of X G e_Z17
 have F_Z13 := e7 (st := zm4) l_Z13 c_Z13 k_Z13
 have b_Z13 := F_Z13.binds (ps := ["cell"]) fun _ _ _ _ _ _ us hl => by refine us1 (P := fun vs => bindArgs _ { pos := vs } = pure (List.zip _ vs)) ?_ us hl; intros; rfl
 have a_Z13 := W.mg_of X G e_Z13
 have F_Z10 := e7 (st := zm7) l_Z10 c_Z10 k_Z10
 have b_Z10 := F_Z10.binds (ps := ["e"]) fun _ _ _ _ _ _ us hl => by refine us1 (P := fun vs => bindArgs _ { pos := vs } = pure (List.zip _ vs)) ?_ us hl; intros; rfl
 have a_Z10 := W.mg_of X G e_Z10
 have F_Z18 := e7 (st := zm0) l_Z18 c_Z18 k_Z18
 have b_Z18 := F_Z18.binds (ps := ["cell", "k"]) fun _ _ _ _ _ _ us hl => by refine us2 (P := fun vs => bindArgs _ { pos := vs } = pure (List.zip _ vs)) ?_ us hl; intros; rfl
 have a_Z18 := W.mg_of X G e_Z18
 have F_Z14 := e7 (st := zm3) l_Z14 c_Z14 k_Z14
 have b_Z14 := F_Z14.binds (ps := ["cell", "k", "size"]) fun _ _ _ _ _ _ us hl => by refine us3 (P := fun vs => bindArgs _ { pos := vs } = pure (List.zip _ vs)) ?_ us hl; intros; rfl
 have a_Z14 := W.mg_of X G e_Z14
 have F_Z3 := e7 (st := s_Z3) l_Z3 c_Z3 k_Z3
 have b_Z3 := F_Z3.binds (ps := ["cell", "k", "row", "step"]) fun _ _ _ _ _ _ us hl => by refine us4 (P := fun vs => bindArgs _ { pos := vs } = pure (List.zip _ vs)) ?_ us hl; intros; rfl
 have a_Z3 := W.mg_of X G e_Z3
 have F_Z0 := e7 (st := s_Z0) l_Z0 c_Z0 k_Z0
 have b_Z0 := F_Z0.binds (ps := ["cell", "k", "places", "size"]) fun _ _ _ _ _ _ us hl => by refine us4 (P := fun vs => bindArgs _ { pos := vs } = pure (List.zip _ vs)) ?_ us hl; intros; rfl
 have a_Z0 := W.mg_of X G e_Z0
 have F_Z11 := e7 (st := zm6) l_Z11 c_Z11 k_Z11
 have b_Z11 := F_Z11.binds (ps := ["row", "step", "places"]) fun _ _ _ _ _ _ us hl => by refine us3 (P := fun vs => bindArgs _ { pos := vs } = pure (List.zip _ vs)) ?_ us hl; intros; rfl
 have a_Z11 := W.mg_of X G e_Z11
 have F_Z19 := e7 (st := zn9) l_Z19 c_Z19 k_Z19
 have b_Z19 := F_Z19.binds (ps := ["some", "others"]) fun _ _ _ _ _ _ us hl => by refine us2 (P := fun vs => bindArgs _ { pos := vs } = pure (List.zip _ vs)) ?_ us hl; intros; rfl
 have a_Z19 := W.mg_of X G e_Z19
 have F_law_come := e7 (st := d7) l_law_come c_law_come k_law_come
 have b_law_come := F_law_come.binds (ps := ["numbers", "step", "first"]) fun _ _ _ _ _ _ us hl => by refine us3 (P := fun vs => bindArgs _ { pos := vs } = pure (List.zip _ vs)) ?_ us hl; intros; rfl
 have a_law_come := W.mg_of X G e_law_come
 have F_Z15 := e7 (st := zs0) l_Z15 c_Z15 k_Z15
 have b_Z15 := F_Z15.binds (ps := ["row", "step"]) fun _ _ _ _ _ _ us hl => by refine us2 (P := fun vs => bindArgs _ { pos := vs } = pure (List.zip _ vs)) ?_ us hl; intros; rfl
 have a_Z15 := W.mg_of X G e_Z15
 have F_Z6 := e7 (st := s_Z6) l_Z6 c_Z6 k_Z6
 have b_Z6 := F_Z6.binds (ps := ["door", "row", "step", "places"]) fun _ _ _ _ _ _ us hl => by refine us4 (P := fun vs => bindArgs _ { pos := vs } = pure (List.zip _ vs)) ?_ us hl; intros; rfl
 have a_Z6 := W.mg_of X G e_Z6
 have F_Z20 := e7 (st := G1) l_Z20 c_Z20 k_Z20
 have yu4 := F_Z20.binds (ps := ["script"]) fun _ _ _ _ _ _ us hl => by refine us1 (P := fun vs => bindArgs _ { pos := vs } = pure (List.zip _ vs)) ?_ us hl; intros; rfl
 have a_Z20 := W.mg_of X G e_Z20
 have z_ValueError := W.mg_none_of X G y_ValueError
 have z_abs := W.mg_none_of X G y_abs
 have z_bool := W.mg_none_of X G y_bool
 have z_enumerate := W.mg_none_of X G y_enumerate
 have z_int := W.mg_none_of X G y_int
 have z_isinstance := W.mg_none_of X G y_isinstance
 have z_len := W.mg_none_of X G y_len
 have z_list := W.mg_none_of X G y_list
 have z_max := W.mg_none_of X G y_max
 have z_min := W.mg_none_of X G y_min
 have z_range := W.mg_none_of X G y_range
 have z_zip := W.mg_none_of X G y_zip
 have a_NoForm := W.mg_of X G e_NoForm
 have a_NoNumber := W.mg_of X G e_NoNumber
 have a_NoPlace := W.mg_of X G e_NoPlace
 have a_NoStep := W.mg_of X G e_NoStep
 have a_NoText := W.mg_of X G e_NoText
 have a_NoWeights := W.mg_of X G e_NoWeights
 have a_NoneYet := W.mg_of X G e_NoneYet
 have a_WaveError := W.mg_of X G e_WaveError
 have xc_NoStep : XC K "NoStep" y_NoStep := ⟨e_NoStep, n_NoStep⟩
 have hcl_WaveError : ∀ c ∈ (["NoStep"] : List Str), ∀ C, XC K c C -> W.exmOne K (.ref C) (.ref y_WaveError) = some true := by
  intro c hc C h
  simp only [mem_cons, not_mem_nil, or_false] at hc
  rcases hc with rfl
  ·rw [h.eq e_NoStep]; exact m_NoStep_WaveError
 have hi_NoForm : ∀ c k, ([("NoStep", false)] : List (Str × Bool)).lookup c = some k -> ∀ C, XC K c C -> XCls K C /\ W.kitOne K (.ref C) (.ref y_NoForm) = some k := d9 (P := fun c k => ∀ C, XC K c C -> XCls K C /\ W.kitOne K (.ref C) (.ref y_NoForm) = some k) (by
  intro p hp
  simp only [mem_cons, not_mem_nil, or_false] at hp
  rcases hp with rfl
  ·intro C h; rw [h.eq e_NoStep]; exact ⟨V7 w_NoStep, i_NoStep_NoForm⟩
  )
 have hi_NoNumber : ∀ c k, ([("NoStep", false)] : List (Str × Bool)).lookup c = some k -> ∀ C, XC K c C -> XCls K C /\ W.kitOne K (.ref C) (.ref y_NoNumber) = some k := d9 (P := fun c k => ∀ C, XC K c C -> XCls K C /\ W.kitOne K (.ref C) (.ref y_NoNumber) = some k) (by
  intro p hp
  simp only [mem_cons, not_mem_nil, or_false] at hp
  rcases hp with rfl
  ·intro C h; rw [h.eq e_NoStep]; exact ⟨V7 w_NoStep, i_NoStep_NoNumber⟩
  )
 have hi_NoPlace : ∀ c k, ([("NoStep", false)] : List (Str × Bool)).lookup c = some k -> ∀ C, XC K c C -> XCls K C /\ W.kitOne K (.ref C) (.ref y_NoPlace) = some k := d9 (P := fun c k => ∀ C, XC K c C -> XCls K C /\ W.kitOne K (.ref C) (.ref y_NoPlace) = some k) (by
  intro p hp
  simp only [mem_cons, not_mem_nil, or_false] at hp
  rcases hp with rfl
  ·intro C h; rw [h.eq e_NoStep]; exact ⟨V7 w_NoStep, i_NoStep_NoPlace⟩
  )
 have hi_NoStep : ∀ c k, ([("NoStep", true)] : List (Str × Bool)).lookup c = some k -> ∀ C, XC K c C -> XCls K C /\ W.kitOne K (.ref C) (.ref y_NoStep) = some k := d9 (P := fun c k => ∀ C, XC K c C -> XCls K C /\ W.kitOne K (.ref C) (.ref y_NoStep) = some k) (by
  intro p hp
  simp only [mem_cons, not_mem_nil, or_false] at hp
  rcases hp with rfl
  ·intro C h; rw [h.eq e_NoStep]; exact ⟨V7 w_NoStep, i_NoStep_NoStep⟩
  )
 have hi_NoText : ∀ c k, ([("NoStep", false)] : List (Str × Bool)).lookup c = some k -> ∀ C, XC K c C -> XCls K C /\ W.kitOne K (.ref C) (.ref y_NoText) = some k := d9 (P := fun c k => ∀ C, XC K c C -> XCls K C /\ W.kitOne K (.ref C) (.ref y_NoText) = some k) (by
  intro p hp
  simp only [mem_cons, not_mem_nil, or_false] at hp
  rcases hp with rfl
  ·intro C h; rw [h.eq e_NoStep]; exact ⟨V7 w_NoStep, i_NoStep_NoText⟩
  )
 have hi_NoWeights : ∀ c k, ([("NoStep", false)] : List (Str × Bool)).lookup c = some k -> ∀ C, XC K c C -> XCls K C /\ W.kitOne K (.ref C) (.ref y_NoWeights) = some k := d9 (P := fun c k => ∀ C, XC K c C -> XCls K C /\ W.kitOne K (.ref C) (.ref y_NoWeights) = some k) (by
  intro p hp
  simp only [mem_cons, not_mem_nil, or_false] at hp
  rcases hp with rfl
  ·intro C h; rw [h.eq e_NoStep]; exact ⟨V7 w_NoStep, i_NoStep_NoWeights⟩
  )
 have hi_NoneYet : ∀ c k, ([("NoStep", false)] : List (Str × Bool)).lookup c = some k -> ∀ C, XC K c C -> XCls K C /\ W.kitOne K (.ref C) (.ref y_NoneYet) = some k := d9 (P := fun c k => ∀ C, XC K c C -> XCls K C /\ W.kitOne K (.ref C) (.ref y_NoneYet) = some k) (by
  intro p hp
  simp only [mem_cons, not_mem_nil, or_false] at hp
  rcases hp with rfl
  ·intro C h; rw [h.eq e_NoStep]; exact ⟨V7 w_NoStep, i_NoStep_NoneYet⟩
  )
 have hb_ValueError : ∀ c k, ([("NoStep", true)] : List (Str × Bool)).lookup c = some k -> ∀ C, XC K c C -> XCls K C /\ W.kitOne K (.ref C) (.type "ValueError") = some k := d9 (P := fun c k => ∀ C, XC K c C -> XCls K C /\ W.kitOne K (.ref C) (.type "ValueError") = some k) (by
  intro p hp
  simp only [mem_cons, not_mem_nil, or_false] at hp
  rcases hp with rfl
  ·intro C h; rw [h.eq e_NoStep]; exact ⟨V7 w_NoStep, j_NoStep_ValueError⟩
  )
 refine ⟨W.fnOf "law" "law" (l0 G1) (t4 G1) (x0 G1) .none kV_Z20 dc_Z20 pm_Z20 o2_Z20 cd_Z20 ct_Z20, fun s v => .of_eq rfl, fun base _ _ => ?_⟩
 have G_Z5 := xy9 (P := l.prog) (w := w) (mg := mg) (base := base) F_Z5      a_NoStep xc_NoStep q_NoStep
 have GX_Z5 := ye0 (P := l.prog) (w := w) (mg := mg) (base := base) F_Z5      a_NoStep xc_NoStep q_NoStep
 have G_Z7 := xy7 (P := l.prog) (w := w) (mg := mg) (base := base) F_Z7         z_len
 have G_Z12 := yd1 (P := l.prog) (w := w) (mg := mg) (base := base) F_Z12         z_max z_min z_zip
 have G_Z4 := xx0 (P := l.prog) (w := w) (mg := mg) (base := base) F_Z4  G_Z12 b_Z12 k_Z12 a_Z12       z_abs z_len z_max z_zip
 have G_Z8 := xy6 (P := l.prog) (w := w) (mg := mg) (base := base) F_Z8  G_Z7 b_Z7 k_Z7 a_Z7 G_Z4 b_Z4 k_Z4 a_Z4 G_Z5 b_Z5 k_Z5 a_Z5   GX_Z5
 have GX_Z8 := yf9 (P := l.prog) (w := w) (mg := mg) (base := base) F_Z8  G_Z7 b_Z7 k_Z7 a_Z7 G_Z4 b_Z4 k_Z4 a_Z4 G_Z5 b_Z5 k_Z5 a_Z5   GX_Z5
 have G_Z1 := xx3 (P := l.prog) (w := w) (mg := mg) (base := base) F_Z1  G_Z5 b_Z5 k_Z5 a_Z5   GX_Z5
 have GX_Z1 := ye2 (P := l.prog) (w := w) (mg := mg) (base := base) F_Z1  G_Z5 b_Z5 k_Z5 a_Z5   GX_Z5
 have G_Z2 := xx2 (P := l.prog) (w := w) (mg := mg) (base := base) F_Z2  G_Z5 b_Z5 k_Z5 a_Z5   GX_Z5
 have GX_Z2 := ye1 (P := l.prog) (w := w) (mg := mg) (base := base) F_Z2  G_Z5 b_Z5 k_Z5 a_Z5   GX_Z5
 have G_Z16 := ye7 (P := l.prog) (w := w) (mg := mg) (base := base) F_Z16
 have G_Z9 := xy5 (P := l.prog) (w := w) (mg := mg) (base := base) F_Z9         z_len z_max z_min
 have G_Z17 := ye6 (P := l.prog) (w := w) (mg := mg) (base := base) F_Z17  G_Z16 b_Z16 k_Z16 a_Z16       z_min z_range
 have G_Z13 := yd0 (P := l.prog) (w := w) (mg := mg) (base := base) F_Z13  G_Z16 b_Z16 k_Z16 a_Z16
 have G_Z10 := yd3 (P := l.prog) (w := w) (mg := mg) (base := base) F_Z10      a_NoForm a_NoNumber a_NoPlace a_NoStep a_NoText a_NoWeights a_NoneYet hi_NoForm hi_NoNumber hi_NoPlace hi_NoStep hi_NoText hi_NoWeights hi_NoneYet hb_ValueError   z_ValueError z_isinstance
 have G_Z18 := ye5 (P := l.prog) (w := w) (mg := mg) (base := base) F_Z18  G_Z16 b_Z16 k_Z16 a_Z16
 have G_Z14 := ye9 (P := l.prog) (w := w) (mg := mg) (base := base) F_Z14  G_Z16 b_Z16 k_Z16 a_Z16       z_range
 have G_Z3 := xx1 (P := l.prog) (w := w) (mg := mg) (base := base) F_Z3  G_Z16 b_Z16 k_Z16 a_Z16       z_abs z_enumerate
 have G_Z0 := xx4 (P := l.prog) (w := w) (mg := mg) (base := base) F_Z0  G_Z18 b_Z18 k_Z18 a_Z18 G_Z16 b_Z16 k_Z16 a_Z16       z_len z_list z_max
 have G_Z11 := yd2 (P := l.prog) (w := w) (mg := mg) (base := base) F_Z11         z_abs z_len z_zip
 have G_Z19 := ye4 (P := l.prog) (w := w) (mg := mg) (base := base) F_Z19         z_enumerate z_len
 have G_law_come := zs7 (P := l.prog) (w := w) (mg := mg) (base := base) F_law_come  G_Z19 b_Z19 k_Z19 a_Z19       z_abs z_int z_len z_min z_range
 have G_Z15 := ye8 (P := l.prog) (w := w) (mg := mg) (base := base) F_Z15  G_law_come b_law_come k_law_come a_law_come       z_enumerate z_len z_min z_range
 have G_Z6 := xy8 (P := l.prog) (w := w) (mg := mg) (base := base) F_Z6  G_Z10 b_Z10 k_Z10 a_Z10 G_Z2 b_Z2 k_Z2 a_Z2 G_Z1 b_Z1 k_Z1 a_Z1 G_Z8 b_Z8 k_Z8 a_Z8   GX_Z2 GX_Z1 GX_Z8 a_WaveError hcl_WaveError   z_list
 have G_Z20 := ye3 (P := l.prog) (w := w) (mg := mg) (base := base) F_Z20  G_Z3 b_Z3 k_Z3 a_Z3 G_Z9 b_Z9 k_Z9 a_Z9 G_Z18 b_Z18 k_Z18 a_Z18 G_Z0 b_Z0 k_Z0 a_Z0 G_Z6 b_Z6 k_Z6 a_Z6 G_Z11 b_Z11 k_Z11 a_Z11 G_Z17 b_Z17 k_Z17 a_Z17 G_Z14 b_Z14 k_Z14 a_Z14 G_Z13 b_Z13 k_Z13 a_Z13 G_Z15 b_Z15 k_Z15 a_Z15 G_Z8 b_Z8 k_Z8 a_Z8       z_bool z_isinstance z_len z_list z_range
 exact G_Z20
theorem walk {l : W.OpenLaw} {q : Program} {loose : List Str} {XP : (Str -> Option Value) -> Heap -> Prop} {YP : World -> Heap -> Prop} {d : DefRec} {K : Params -> W.Frag} (hn : l.most = some 63) (hdf : d.params.defaults = [])
  (law : ∀ ns : List Int, ns.length <= 63 -> zr2 [.lst (ns.map .int)] = some (.sh (.bl true)))
  (hY : ∀ (w : World) (h : Heap), YP w h -> (K w.params).In h)
  (F : ∀ (w : World) (mg : Str -> Option Value) (fa : Addr) (h : Heap), (K w.params).In h -> h.Ns mainGlobals mg -> mg d.name = some (.ref fa) ->
   ∃ fd : FuncData, (∀ (s : Shared) (u : Value), BindsTo s fd ⟨[u], []⟩ [("script", u)]) /\ ∀ base : Heap, (K w.params).In base -> base.Ns mainGlobals mg -> FnOk l.prog w (K w.params) mg base CX0 5 fa fd ["script"] (spR (K w.params) 1 zr2)) :
  W.WalkO q loose XP YP l.row.toRowW d [] (fun f vs => PySem.call f vs) :=
 L2.walk_of (n := 63) (k := 5) (x := "script") (CX := fun _ => CX0) (sp := fun w => spR (K w.params) 1 zr2) hn (by decide) hdf ⟨rfl, by decide, by decide⟩ hY F (fun w H a ns hl _ hS => yj7 law H a ns hl hS _) fun _ _ _ _ _ z => z
end
end Lw
open PySem PySem.W PyProof.Rows
set_option maxRecDepth 100000 in
set_option maxHeartbeats 0 in
theorem PySem.Challenge.cw_wavyrow_k47_wavy_round_or_not_holds : PySem.Challenge.rw_wavyrow_k47_wavy_round_or_not.Holds := by
 w_on; o_law; k_head; (case hw => w_witness2)
 k_fill
 refine Lw.walk (l := PySem.Challenge.rw_wavyrow_k47_wavy_round_or_not) rfl rfl Lw.law_true (fun w h Y => PySem.W.kIn_of Y) ?F
 case F =>
  intro w mg fa h KX G hmg
  refine' Lw.all_mk KX G hmg  ?e_Z5 ?l_Z5 ?c_Z5 ?k_Z5 ?e_Z7 ?l_Z7 ?c_Z7 ?k_Z7 ?e_Z12 ?l_Z12 ?c_Z12 ?k_Z12 ?e_Z4 ?l_Z4 ?c_Z4 ?k_Z4 ?e_Z8 ?l_Z8 ?c_Z8 ?k_Z8 ?e_Z1 ?l_Z1 ?c_Z1 ?k_Z1 ?e_Z2 ?l_Z2 ?c_Z2 ?k_Z2 ?e_Z16 ?l_Z16 ?c_Z16 ?k_Z16 ?e_Z9 ?l_Z9 ?c_Z9 ?k_Z9 ?e_Z17 ?l_Z17 ?c_Z17 ?k_Z17 ?e_Z13 ?l_Z13 ?c_Z13 ?k_Z13 ?e_Z10 ?l_Z10 ?c_Z10 ?k_Z10 ?e_Z18 ?l_Z18 ?c_Z18 ?k_Z18 ?e_Z14 ?l_Z14 ?c_Z14 ?k_Z14 ?e_Z3 ?l_Z3 ?c_Z3 ?k_Z3 ?e_Z0 ?l_Z0 ?c_Z0 ?k_Z0 ?e_Z11 ?l_Z11 ?c_Z11 ?k_Z11 ?e_Z19 ?l_Z19 ?c_Z19 ?k_Z19 ?e_law_come ?l_law_come ?c_law_come ?k_law_come ?e_Z15 ?l_Z15 ?c_Z15 ?k_Z15 ?e_Z6 ?l_Z6 ?c_Z6 ?k_Z6 ?e_Z20 ?l_Z20 ?c_Z20 ?k_Z20   ?e_NoForm ?e_NoNumber ?e_NoPlace ?e_NoStep ?e_NoText ?e_NoWeights ?e_NoneYet ?e_WaveError ?n_NoStep ?q_NoStep ?w_NoStep ?m_NoStep_WaveError ?i_NoStep_NoForm ?i_NoStep_NoNumber ?i_NoStep_NoPlace ?i_NoStep_NoStep ?i_NoStep_NoText ?i_NoStep_NoWeights ?i_NoStep_NoneYet ?j_NoStep_ValueError ?y_ValueError ?y_abs ?y_bool ?y_enumerate ?y_int ?y_isinstance ?y_len ?y_list ?y_max ?y_min ?y_range ?y_zip
  (case e_Z5 => k_is); (case l_Z5 => k_is); (case c_Z5 => k_is); (case k_Z5 => k_is)
  (case e_Z7 => k_is); (case l_Z7 => k_is); (case c_Z7 => k_is); (case k_Z7 => k_is)
  (case e_Z12 => k_is); (case l_Z12 => k_is); (case c_Z12 => k_is); (case k_Z12 => k_is)
  (case e_Z4 => k_is); (case l_Z4 => k_is); (case c_Z4 => k_is); (case k_Z4 => k_is)
  (case e_Z8 => k_is); (case l_Z8 => k_is); (case c_Z8 => k_is); (case k_Z8 => k_is)
  (case e_Z1 => k_is); (case l_Z1 => k_is); (case c_Z1 => k_is); (case k_Z1 => k_is)
  (case e_Z2 => k_is); (case l_Z2 => k_is); (case c_Z2 => k_is); (case k_Z2 => k_is)
  (case e_Z16 => k_is); (case l_Z16 => k_is); (case c_Z16 => k_is); (case k_Z16 => k_is)
  (case e_Z9 => k_is); (case l_Z9 => k_is); (case c_Z9 => k_is); (case k_Z9 => k_is)
  (case e_Z17 => k_is); (case l_Z17 => k_is); (case c_Z17 => k_is); (case k_Z17 => k_is)
  (case e_Z13 => k_is); (case l_Z13 => k_is); (case c_Z13 => k_is); (case k_Z13 => k_is)
  (case e_Z10 => k_is); (case l_Z10 => k_is); (case c_Z10 => k_is); (case k_Z10 => k_is)
  (case e_Z18 => k_is); (case l_Z18 => k_is); (case c_Z18 => k_is); (case k_Z18 => k_is)
  (case e_Z14 => k_is); (case l_Z14 => k_is); (case c_Z14 => k_is); (case k_Z14 => k_is)
  (case e_Z3 => k_is); (case l_Z3 => k_is); (case c_Z3 => k_is); (case k_Z3 => k_is)
  (case e_Z0 => k_is); (case l_Z0 => k_is); (case c_Z0 => k_is); (case k_Z0 => k_is)
  (case e_Z11 => k_is); (case l_Z11 => k_is); (case c_Z11 => k_is); (case k_Z11 => k_is)
  (case e_Z19 => k_is); (case l_Z19 => k_is); (case c_Z19 => k_is); (case k_Z19 => k_is)
  (case e_law_come => k_is); (case l_law_come => k_is); (case c_law_come => k_is); (case k_law_come => k_is)
  (case e_Z15 => k_is); (case l_Z15 => k_is); (case c_Z15 => k_is); (case k_Z15 => k_is)
  (case e_Z6 => k_is); (case l_Z6 => k_is); (case c_Z6 => k_is); (case k_Z6 => k_is)
  (case e_Z20 => k_is); (case l_Z20 => k_is); (case c_Z20 => k_is); (case k_Z20 => k_is)
  (case e_NoForm => first | k_is | rfl | k_exc | (unfold L2.bmV; k_exc))
  (case e_NoNumber => first | k_is | rfl | k_exc | (unfold L2.bmV; k_exc))
  (case e_NoPlace => first | k_is | rfl | k_exc | (unfold L2.bmV; k_exc))
  (case e_NoStep => first | k_is | rfl | k_exc | (unfold L2.bmV; k_exc))
  (case e_NoText => first | k_is | rfl | k_exc | (unfold L2.bmV; k_exc))
  (case e_NoWeights => first | k_is | rfl | k_exc | (unfold L2.bmV; k_exc))
  (case e_NoneYet => first | k_is | rfl | k_exc | (unfold L2.bmV; k_exc))
  (case e_WaveError => first | k_is | rfl | k_exc | (unfold L2.bmV; k_exc))
  (case n_NoStep => first | k_is | rfl | k_exc | (unfold L2.bmV; k_exc))
  (case q_NoStep => first | k_is | rfl | k_exc | (unfold L2.bmV; k_exc))
  (case w_NoStep => first | k_is | rfl | k_exc | (unfold L2.bmV; k_exc))
  (case m_NoStep_WaveError => first | k_is | rfl | k_exc | (unfold L2.bmV; k_exc))
  (case i_NoStep_NoForm => first | k_is | rfl | k_exc | (unfold L2.bmV; k_exc))
  (case i_NoStep_NoNumber => first | k_is | rfl | k_exc | (unfold L2.bmV; k_exc))
  (case i_NoStep_NoPlace => first | k_is | rfl | k_exc | (unfold L2.bmV; k_exc))
  (case i_NoStep_NoStep => first | k_is | rfl | k_exc | (unfold L2.bmV; k_exc))
  (case i_NoStep_NoText => first | k_is | rfl | k_exc | (unfold L2.bmV; k_exc))
  (case i_NoStep_NoWeights => first | k_is | rfl | k_exc | (unfold L2.bmV; k_exc))
  (case i_NoStep_NoneYet => first | k_is | rfl | k_exc | (unfold L2.bmV; k_exc))
  (case j_NoStep_ValueError => first | k_is | rfl | k_exc | (unfold L2.bmV; k_exc))
  (case y_ValueError => k_is)
  (case y_abs => k_is)
  (case y_bool => k_is)
  (case y_enumerate => k_is)
  (case y_int => k_is)
  (case y_isinstance => k_is)
  (case y_len => k_is)
  (case y_list => k_is)
  (case y_max => k_is)
  (case y_min => k_is)
  (case y_range => k_is)
  (case y_zip => k_is)
