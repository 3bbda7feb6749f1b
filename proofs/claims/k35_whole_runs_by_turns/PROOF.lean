import PyProof.Rows.All
import Wide.All
import OpenK.AllK
import Wide.FinOn
import Lean
import PyProof.EqAt
import PyProof.EqKinds
import PyProof.TupleCall
import PyProof.NeKinds
import KE.IntBitsLaws
import PyProof.FitsBits
import PySem.Challenge.RW_wavyrow_k35_whole_runs_by_turns
theorem PySem.W.Fast.te13408854079461403397 : True := True.intro
noncomputable def PySem.W.Fast.tw15499799369862050671 := PySem.Challenge.pw_wavyrow_k35_whole_runs_by_turns
theorem PySem.W.Fast.te15499799369862050671 : PySem.Challenge.pw_wavyrow_k35_whole_runs_by_turns = PySem.W.Fast.tw15499799369862050671 := rfl
def PySem.W.Fast.tw5872653236214776448 : Nat := 0
def PySem.W.Fast.tw8657250889513568993 : Nat := 0
def PySem.W.Fast.tw6834428263256248706 : Nat := 0
def PySem.W.Fast.tw6728606946037170692 : Nat := 0
def PySem.W.Fast.tw6448307928342535371 : Nat := 0
def PySem.W.Fast.tw2730210069725930063 : Nat := 0
def PySem.W.Fast.tw5939434160926717559 : Nat := 0
def PySem.W.Fast.tw11984480450059648441 : Nat := 0
def PySem.W.Fast.tw13874704144732028858 : Nat := 0
def PySem.W.Fast.tw14450741112757640605 : Nat := 0
def PySem.W.Fast.tw10583964841539112861 : Nat := 0
def PySem.W.Fast.tw7496912299847937055 : Nat := 0
set_option Elab.async false
set_option linter.all false
set_option maxRecDepth 100000
namespace L2
open List
open PySem PySem.Spec PyProof.Rows
section
abbrev Key := Sum Int Str
def yh2 : Key -> Value -> Bool
 | .inl k, v => Value.isInt k v
 | .inr x, v => Value.isStrOf x v
def keyH (w : World) : Key -> Int
 | .inl k => hashInt k
 | .inr x => hashStr w x
theorem p9 : ∀ {k : Key} {v : Value}, yh2 k v = true -> (∃ i t, k = Sum.inl i /\ v = Value.int i t) \/ (∃ x t, k = Sum.inr x /\ v = Value.str x t)
 | .inl i, v, h => by
  obtain ⟨t, e⟩ := Value.isInt_shape (k := i) (v := v) h
  exact .inl ⟨i, t, rfl, e⟩
 | .inr x, v, h => by
  obtain ⟨t, e⟩ := Value.isStrOf_shape (x := x) (v := v) h
  exact .inr ⟨x, t, rfl, e⟩
theorem G6 (x : Str) (t : Tok) : yh2 (.inr x) (.str x t) = true := by simp [yh2, Value.isStrOf]
theorem xi2 (a b : Int) : decide ((Sum.inl a : Key) = Sum.inl b) = (a == b) := by
 by_cases e : a = b
 ·subst e; simp
 ·have h : ¬ (Sum.inl a : Key) = Sum.inl b := fun q => e (Sum.inl.inj q)
  rw [decide_eq_false h]
  exact (beq_eq_false_iff_ne.mpr e).symm
theorem xj9 (a b : Str) : decide ((Sum.inr a : Key) = Sum.inr b) = decide (a = b) := by
 by_cases e : a = b
 ·subst e; simp
 ·have h : ¬ (Sum.inr a : Key) = Sum.inr b := fun q => e (Sum.inr.inj q)
  rw [decide_eq_false h, decide_eq_false e]
theorem xi1 (a : Int) (b : Str) : decide ((Sum.inl a : Key) = Sum.inr b) = false := decide_eq_false (fun q => nomatch q)
theorem xi0 (a : Str) (b : Int) : decide ((Sum.inr a : Key) = Sum.inl b) = false := decide_eq_false (fun q => nomatch q)
def J9 (prog : Program) (w : World) : PySem.KeyKind prog w Key where
 is := yh2
 hash := keyH w
 inj := fun v a b ha hb => by
  rcases p9 ha with ⟨i, t, rfl, rfl⟩ | ⟨x, t, rfl, rfl⟩
  ·rcases p9 hb with ⟨j, u, rfl, e⟩ | ⟨y, u, rfl, e⟩
   ·injection e with e1 _; rw [e1]
   ·exact nomatch e
  ·rcases p9 hb with ⟨j, u, rfl, e⟩ | ⟨y, u, rfl, e⟩
   ·exact nomatch e
   ·injection e with e1 _; rw [e1]
 byValue := fun k v h => by
  rcases p9 h with ⟨i, t, rfl, rfl⟩ | ⟨x, t, rfl, rfl⟩ <;> rfl
 pyHash := fun hv h => by
  rcases p9 hv with ⟨i, t, rfl, rfl⟩ | ⟨x, t, rfl, rfl⟩
  ·exact wpAny_pyHash_int h
  ·exact wpAny_pyHash_str h
 eqBool := fun hu hv h => by
  rcases p9 hu with ⟨i, t, rfl, rfl⟩ | ⟨x, t, rfl, rfl⟩
  ·rcases p9 hv with ⟨j, u, rfl, rfl⟩ | ⟨y, u, rfl, rfl⟩
   ·rw [xi2] at h; exact wpAny_eqBool_int h
   ·rw [xi1] at h; exact SeqAt.EqAt.int_str i t y u _ _ _ _ h
  ·rcases p9 hv with ⟨j, u, rfl, rfl⟩ | ⟨y, u, rfl, rfl⟩
   ·rw [xi0] at h; exact SeqAt.EqAt.str_int x t j u _ _ _ _ h
   ·rw [xj9] at h; exact wpAny_eqBool_str h
 «strs» := fun k x t v h => by
  rcases p9 h with ⟨i, u, rfl, e⟩ | ⟨y, u, rfl, e⟩
  ·exact nomatch e
  ·injection e with e1 _
   subst e1
   cases v <;> rfl
end
section
inductive V where
 | non | bl (b : Bool) | int (i : Int) | str (x : Str) | byt (b : Array UInt8) | flt (b : UInt64) | ref (a : Addr) | ty (n : String)
 deriving DecidableEq
def RelV : V -> Value -> Prop
 | .non, u => u = Value.none
 | .bl b, u => u = Value.bool b
 | .int i, u => ∃ t, u = Value.int i t
 | .str x, u => ∃ t, u = Value.str x t
 | .byt b, u => ∃ t, u = Value.bytes b t
 | .flt b, u => ∃ t, u = Value.float b t
 | .ref a, u => u = Value.ref a
 | .ty n, u => u = Value.type n
abbrev Vals : List V -> List Value -> Prop := Paired RelV
theorem Vals.length {xs : List V} {us : List Value} (r : Vals xs us) : xs.length = us.length := Paired.length r
theorem Vals.get : ∀ {xs : List V} {us : List Value} {i : Nat} {x : V}, Vals xs us -> xs[i]? = some x -> ∃ u, us[i]? = some u /\ RelV x u
 | _, _, _, _, .nil, e => by simp at e
 | _, _, 0, _, .cons r _, e => by simp at e; subst e; exact ⟨_, rfl, r⟩
 | _, _, i + 1, x, .cons _ t, e => by
  obtain ⟨u, h1, h2⟩ := Vals.get (i := i) (x := x) t (by simpa using e)
  exact ⟨u, by simpa using h1, h2⟩
theorem Vals.set {x : V} {u : Value} (r : RelV x u) : ∀ {xs : List V} {us : List Value} (i : Nat), Vals xs us -> Vals (xs.set i x) (us.set i u)
 | _, _, _, .nil => .nil
 | _, _, 0, .cons _ t => .cons r t
 | _, _, i + 1, .cons q t => .cons q (Vals.set r i t)
theorem Vals.append : ∀ {xs ys : List V} {us ws : List Value}, Vals xs us -> Vals ys ws -> Vals (xs ++ ys) (us ++ ws)
 | _, _, _, _, .nil, s => s
 | _, _, _, _, .cons r t, s => .cons r (Vals.append t s)
theorem Vals.take : ∀ {xs : List V} {us : List Value} (n : Nat), Vals xs us -> Vals (xs.take n) (us.take n)
 | _, _, 0, _ => .nil
 | _, _, _ + 1, .nil => .nil
 | _, _, n + 1, .cons r t => .cons r (Vals.take n t)
theorem Vals.drop : ∀ {xs : List V} {us : List Value} (n : Nat), Vals xs us -> Vals (xs.drop n) (us.drop n)
 | _, _, 0, r => r
 | _, _, _ + 1, .nil => .nil
 | _, _, n + 1, .cons _ t => Vals.drop n t
def RelO : Option V -> Option Value -> Prop
 | some v, some u => RelV v u
 | none, none => True
 | _, _ => False
def KV {κ : Type} : List (κ × V) -> List (κ × Value) -> Prop := Paired fun (p : κ × V) (q : κ × Value) => p.1 = q.1 /\ RelV p.2 q.2
def kV : Key -> V
 | .inl i => .int i
 | .inr x => .str x
inductive HO where
 | lst (xs : List V)
 | tup (xs : List V)
 | dK (kvs : List (Key × V)) | dT (kvs : List (List Key × V))
 | set (S : Int -> Bool) (n : Nat)
 | ins (C dx : Addr) (fs : List (Str × V))
 | own (x : Addr)
 | xd (fs : List (Str × V))
 | met (f x : Addr)
 | rng (lo hi : Int)
 | frz (o : Obj) (u : HO)
 | tbl (ps : Array Value)
 | ext (φ : Heap -> Prop)
abbrev Hp := Addr -> Option HO
def upd (H : Hp) (a : Addr) (o : HO) : Hp := fun b => if b = a then some o else H b
theorem y6 {H : Hp} {a : Addr} {o : HO} : upd H a o a = some o := by unfold upd; rw [if_pos rfl]
theorem y9 {H : Hp} {a b : Addr} {o : HO} (h : b ≠ a) : upd H a o b = H b := by unfold upd; rw [if_neg h]
theorem t8 {H : Hp} {a b : Addr} {o : HO} (h : H a = some o) (h' : H b = none) : a ≠ b := by
 intro e; subst e; rw [h] at h'; cases h'
section
variable (P : Program) (w : World)
def ObjOk (H : Hp) (h : Heap) (a : Addr) : HO -> Prop
 | .lst xs => xs.length <= sizeLine /\ ∃ (its : List Value) (n : Nat), Vals xs its /\ h.get? a = some { cls := .type "list", data := .seq its.toArray n }
 | .tup xs => xs.length <= sizeLine /\ ∃ its : List Value, Vals xs its /\ IsTup h a its.toArray
 | .dK kvs => kvs.length <= sizeLine /\ (a == sysModules) = false /\ ∃ vs, KV kvs vs /\ h.DictOf (J9 P w) a vs
 | .dT kvs => kvs.length <= sizeLine /\ (a == sysModules) = false /\ ∃ xs : List (List Key × Addr × Value),
   Paired (fun (p : List Key × V) (q : List Key × Addr × Value) => p.1 = q.1 /\ H q.2.1 = some (.tup (p.1.map kV)) /\ RelV p.2 q.2.2) kvs xs /\
   ∃ o es ep, h.get? a = some o /\ o.ExactDict /\ o.data = .dict es ep /\ es.toList = xs.map (entryOfKey (tupleKind (J9 P w))) /\ (xs.map (·.1)).Nodup
 | .set S n => h.SetOf (intKind P w) a S n
 | .ins C dx fs => H dx = some (.own a) /\ fs.length <= 1000 /\ dx ≠ a /\ h.get? a = some (W.instObj C dx) /\
   ∃ mA, h.Ns1 dx mA /\ (∀ f, RelO (fs.lookup f) (mA f)) /\ PySem.Within mA (fs.map (·.1))
 | .own _ => ∃ o, h.get? a = some o
 | .xd fs => ∃ mA, h.Ns1 a mA /\ ∀ f, RelO (fs.lookup f) (mA f)
 | .rng lo hi => ∃ t u v, h.get? a = some { cls := .type "range", data := .fields #[.int lo t, .int hi u, .int 1 v] }
 | .frz o u => h.get? a = some o /\ ObjOk H h a u
 | .tbl ps => h.get? a = some { cls := .none, data := .fields ps }
 | .met f x => h.get? a = some (W.methodObj (.ref f) (.ref x))
 | .ext φ => φ h /\ (∃ o, h.get? a = some o) /\ ∀ h1 h2 : Heap, φ h1 -> (∀ o, h1.get? a = some o -> h2.get? a = some o) -> φ h2
def HOk (H : Hp) (h : Heap) : Prop := ∀ a o, H a = some o -> ObjOk P w H h a o
end
section
variable {P : Program} {w : World} {H H' : Hp} {h h' : Heap} {a : Addr} {o : HO}
theorem ObjOk.lt (x : ObjOk P w H h a o) : a < h.objs.size := by
 cases o with
 | lst xs => obtain ⟨_, _, _, _, e⟩ := x; exact Heap.lt_size e
 | tup xs => obtain ⟨_, _, _, p⟩ := x; exact p.lt
 | dK kvs => obtain ⟨_, _, _, _, o, _, _, e, _⟩ := x; exact Heap.lt_size e
 | dT kvs => obtain ⟨_, _, _, _, o, _, _, e, _⟩ := x; exact Heap.lt_size e
 | set S n => obtain ⟨o, _, _, _, e, _⟩ := x; exact Heap.lt_size e
 | ins C dx fs => obtain ⟨_, _, _, e, _⟩ := x; exact Heap.lt_size e
 | own y => obtain ⟨_, e⟩ := x; exact Heap.lt_size e
 | xd fs => obtain ⟨_, ⟨_, _, _, e, _⟩, _⟩ := x; exact Heap.lt_size e
 | rng lo hi => obtain ⟨_, _, _, e⟩ := x; exact Heap.lt_size e
 | frz ob u => obtain ⟨e, _⟩ := x; exact Heap.lt_size e
 | tbl ps => exact Heap.lt_size (show h.get? a = some _ from x)
 | met f y => exact Heap.lt_size (show h.get? a = some _ from x)
 | ext φ => obtain ⟨_, ⟨_, e⟩, _⟩ := x; exact Heap.lt_size e
theorem Paired.mapP {α β : Type} {F G : α -> β -> Prop} : ∀ {l₁ : List α} {l₂ : List β}, Paired F l₁ l₂ -> (∀ a b, F a b -> G a b) -> Paired G l₁ l₂
 | _, _, .nil, _ => .nil
 | _, _, .cons r t, f => .cons (f _ _ r) (Paired.mapP t f)
theorem ObjOk.stay (x : ObjOk P w H h a o) (k : ∀ b u, (b = a \/ H b = some (.own a)) -> h.get? b = some u -> h'.get? b = some u)
  (ho : ∀ b, H b = some (.own a) -> H' b = some (.own a)) (ht : ∀ b xs, H b = some (.tup xs) -> H' b = some (.tup xs)) : ObjOk P w H' h' a o := by
 induction o with
 | lst xs => obtain ⟨z, its, n, r, e⟩ := x; exact ⟨z, its, n, r, k _ _ (.inl rfl) e⟩
 | tup xs => obtain ⟨z, its, r, ob, e, c⟩ := x; exact ⟨z, its, r, ob, k _ _ (.inl rfl) e, c⟩
 | dK kvs => obtain ⟨z, y, vs, r, ob, es, ep, e, c⟩ := x; exact ⟨z, y, vs, r, ob, es, ep, k _ _ (.inl rfl) e, c⟩
 | dT kvs =>
  obtain ⟨z, y, xs, r, ob, es, ep, e, c⟩ := x
  exact ⟨z, y, xs, Paired.mapP r fun p q z => ⟨z.1, ht _ _ z.2.1, z.2.2⟩, ob, es, ep, k _ _ (.inl rfl) e, c⟩
 | set S n => obtain ⟨ob, es, ep, t, e, c⟩ := x; exact ⟨ob, es, ep, t, k _ _ (.inl rfl) e, c⟩
 | ins C dx fs =>
  obtain ⟨d, z, ne, e, mA, ⟨od, es, ep, e2, c⟩, r⟩ := x
  exact ⟨ho _ d, z, ne, k _ _ (.inl rfl) e, mA, ⟨od, es, ep, k _ _ (.inr d) e2, c⟩, r⟩
 | own y => obtain ⟨ob, e⟩ := x; exact ⟨ob, k _ _ (.inl rfl) e⟩
 | xd fs => obtain ⟨mA, ⟨od, es, ep, e, c⟩, r⟩ := x; exact ⟨mA, ⟨od, es, ep, k _ _ (.inl rfl) e, c⟩, r⟩
 | rng lo hi => obtain ⟨t, u, v, e⟩ := x; exact ⟨t, u, v, k _ _ (.inl rfl) e⟩
 | frz ob u ih => obtain ⟨e, q⟩ := x; exact ⟨k _ _ (.inl rfl) e, ih q⟩
 | tbl ps =>
  have e : h.get? a = some { cls := .none, data := .fields ps } := x
  show h'.get? a = some { cls := .none, data := .fields ps }
  exact k a _ (.inl rfl) e
 | met f y =>
  have e : h.get? a = some (W.methodObj (.ref f) (.ref y)) := x
  show h'.get? a = some (W.methodObj (.ref f) (.ref y))
  exact k a _ (.inl rfl) e
 | ext φ => obtain ⟨p, ⟨o, e⟩, st⟩ := x; exact ⟨st _ _ p fun o q => k _ _ (.inl rfl) q, ⟨o, k _ _ (.inl rfl) e⟩, st⟩
theorem HOk.lt (x : HOk P w H h) (e : H a = some o) : a < h.objs.size := (x a o e).lt
theorem HOk.fresh (x : HOk P w H h) (e : h.objs.size <= a) : H a = none := by
 cases q : H a with
 | none => rfl
 | some u => exact absurd (Nat.lt_of_lt_of_le (x.lt q) e) (Nat.lt_irrefl _)
theorem HOk.kept (x : HOk P w H h) (k : ∀ b u, h.get? b = some u -> h'.get? b = some u) : HOk P w H h' := fun a o e =>
 (x a o e).stay (fun b u _ q => k b u q) (fun _ q => q) fun _ _ q => q
theorem HOk.laid (x : HOk P w H h) (k : ∀ b u, h.get? b = some u -> h'.get? b = some u) (hp : h.objs.size <= a) (new : ObjOk P w (upd H a o) h' a o) : HOk P w (upd H a o) h' := fun b u e => by
 have hn := x.fresh hp
 by_cases hb : b = a
 ·subst hb; rw [y6] at e; cases e; exact new
 ·rw [y9 hb] at e
  exact (x b u e).stay (fun c v _ q => k c v q) (fun c q => by rw [y9 (t8 q hn)]; exact q) fun c xs q => by rw [y9 (t8 q hn)]; exact q
end
def Rd (H : Hp) (a : Addr) (u : HO) : Prop := H a = some u \/ ∃ o, H a = some (.frz o u)
theorem Rd.ok {P : Program} {w : World} {H : Hp} {h : Heap} {a : Addr} {u : HO} (r : Rd H a u) (x : HOk P w H h) : ObjOk P w H h a u := by
 rcases r with r | ⟨o, r⟩
 ·exact x a u r
 ·obtain ⟨_, q⟩ := x a _ r
  exact q
def Mut : Option HO -> Prop
 | some (.lst _) => True
 | some (.dK _) => True
 | some (.dT _) => True
 | some (.set _ _) => True
 | some (.ins _ _ _) => True
 | some (.ext _) => True
 | _ => False
section
variable {P : Program} {w : World} {H : Hp} {h h' : Heap} {x e : Addr} {o' : HO}
theorem HOk.write (ok : HOk P w H h) (mu : Mut (H x)) (he : e = x \/ H e = some (.own x)) (k : ∀ b u, b ≠ e -> h.get? b = some u -> h'.get? b = some u) (heo : ∃ u, h'.get? e = some u)
  (new : ObjOk P w (upd H x o') h' x o') : HOk P w (upd H x o') h' := fun b u q => by
 have nown : ∀ c y, H c = some (.own y) -> c ≠ x := fun c y r z => by subst z; rw [r] at mu; exact mu
 have ntup : ∀ c xs, H c = some (.tup xs) -> c ≠ x := fun c xs r z => by subst z; rw [r] at mu; exact mu
 by_cases hb : b = x
 ·subst hb; rw [y6] at q; cases q; exact new
 ·rw [y9 hb] at q
  by_cases hbe : b = e
  ·have q' : H b = some (.own x) := by
    rcases he with z | z
    ·exact absurd (hbe.trans z) hb
    ·rw [hbe]; exact z
   rw [q] at q'; cases q'
   obtain ⟨v, hv⟩ := heo
   exact ⟨v, by rw [hbe]; exact hv⟩
  ·refine (ok b u q).stay (fun c v hc r => k c v ?_ r) (fun c r => by rw [y9 (nown c b r)]; exact r) fun c xs r => by rw [y9 (ntup c xs r)]; exact r
   rcases hc with rfl | hc
   ·exact hbe
   ·rintro rfl
    rcases he with z | z
    ·exact nown c b hc z
    ·rw [hc] at z; cases z; exact hb rfl
end
structure Un (fs ex : List Addr) (H H' : Hp) (h h' : Heap) : Prop where
 keep : ∀ b o, h.get? b = some o -> H b = none -> b ∉ fs -> b ∉ ex -> h'.get? b = some o
 slot : ∀ b o, h.get? b = some o -> H b = none -> b ∈ fs -> b ∉ ex -> ∃ sl, h'.get? b = some { o with slots := sl }
 free : ∀ b o, h.get? b = some o -> H b = none -> b ∉ ex -> H' b = none
 there : ∀ b o, h.get? b = some o -> b ∉ ex -> ∃ o', h'.get? b = some o'
 tups : ∀ b xs, H b = some (.tup xs) -> H' b = some (.tup xs)
 frzs : ∀ b o u, H b = some (.frz o u) -> H' b = some (.frz o u)
 tbls : ∀ b ps, H b = some (.tbl ps) -> ∃ more, H' b = some (.tbl (ps ++ more))
section
variable {fs fs' ex ex' : List Addr} {H H1 H2 : Hp} {h h1 h2 h' : Heap} {a x e : Addr} {o : HO}
theorem Un.any (u : Un fs ex H H1 h h1) {b : Addr} {ob : Obj} (q : h.get? b = some ob) (n : H b = none) (hx : b ∉ ex) : ∃ sl, h1.get? b = some { ob with slots := sl } := by
 by_cases hb : b ∈ fs
 ·exact u.slot b ob q n hb hx
 ·exact ⟨ob.slots, u.keep b ob q n hb hx⟩
theorem Un.kept (k : ∀ b u, h.get? b = some u -> h'.get? b = some u) : Un fs ex H H h h' :=
 ⟨fun b ob q _ _ _ => k b ob q, fun b ob q _ _ _ => ⟨ob.slots, k b ob q⟩, fun _ _ _ n _ => n, fun b ob q _ => ⟨ob, k b ob q⟩, fun _ _ q => q, fun _ _ _ q => q, fun _ ps q => ⟨#[], by rw [q]; simp⟩⟩
theorem Un.refl : Un fs ex H H h h := Un.kept fun _ _ q => q
theorem Un.laid (k : ∀ b u, h.get? b = some u -> h'.get? b = some u) (hp : h.objs.size <= a) (hn : H a = none) : Un fs ex H (upd H a o) h h' where
 keep := fun b u q _ _ _ => k b u q
 slot := fun b u q _ _ _ => ⟨u.slots, k b u q⟩
 free := fun b u q n _ => by rw [y9 (Nat.ne_of_lt (Nat.lt_of_lt_of_le (Heap.lt_size q) hp))]; exact n
 there := fun b u q _ => ⟨u, k b u q⟩
 tups := fun b xs q => by rw [y9 (t8 q hn)]; exact q
 frzs := fun b u xs q => by rw [y9 (t8 q hn)]; exact q
 tbls := fun b ps q => ⟨#[], by rw [y9 (t8 q hn), q]; simp⟩
theorem Un.write (mu : Mut (H x)) (he : e = x \/ H e = some (.own x)) (k : ∀ b u, b ≠ e -> h.get? b = some u -> h'.get? b = some u) (heo : ∃ u, h'.get? e = some u) : Un fs ex H (upd H x o) h h' := by
 have hx : ∀ b, H b = none -> b ≠ x := fun b n z => by subst z; rw [n] at mu; exact mu
 have hb : ∀ b, H b = none -> b ≠ e := fun b n z => by
  subst z
  rcases he with r | r
  ·exact hx b n r
  ·rw [n] at r; cases r
 have hm : ∀ b u, H b = some u -> ¬ Mut (some u) -> b ≠ x := fun b u q nm z => by subst z; rw [q] at mu; exact nm mu
 refine ⟨fun b u q n _ _ => k b u (hb b n) q, fun b u q n _ _ => ⟨u.slots, k b u (hb b n) q⟩, fun b u q n _ => by rw [y9 (hx b n)]; exact n, fun b u q _ => ?_,
  fun b xs q => by rw [y9 (hm b _ q fun z => z)]; exact q, fun b u xs q => by rw [y9 (hm b _ q fun z => z)]; exact q, fun b ps q => ⟨#[], by rw [y9 (hm b _ q fun z => z), q]; simp⟩⟩
 by_cases hbe : b = e
 ·subst hbe; exact heo
 ·exact ⟨u, k b u hbe q⟩
end
def trk (h : Heap) (H : Hp) : List Addr := (List.range h.objs.size).filter fun a => (H a).isSome
def hidT (h : Heap) (H : Hp) : Heap := W.hideAll h (trk h H)
theorem yr5 (h : Heap) (H : Hp) : (hidT h H).objs.size = h.objs.size := W.hideAll_size _ _
theorem yh7 {h : Heap} {H : Hp} {b : Addr} {o : Obj} (e : h.get? b = some o) (n : H b = none) : (hidT h H).get? b = some o :=
 W.hideAll_get _ e fun hm => by
  have q : (H b).isSome = true := (List.mem_filter.mp hm).2
  rw [n] at q; simp at q
theorem xw1 {h : Heap} {H : Hp} {b : Addr} {o : Obj} (e : (hidT h H).get? b = some o) : h.get? b = some o /\ H b = none := by
 have e' : h.get? b = some o := W.of_hideAll (trk h H) e
 refine ⟨e', ?_⟩
 cases q : H b with
 | none => rfl
 | some x =>
  have hm : b ∈ trk h H := List.mem_filter.mpr ⟨List.mem_range.mpr (Heap.lt_size e'), by simp [q]⟩
  have z : (hidT h H).get? b = none := W.hideAll_none (trk h H) hm
  rw [z] at e; cases e
def xr6 (g h : Heap) (L : Addr) : List (Addr × Obj) := (List.range h.objs.size).filterMap fun a => if a = L \/ (g.get? a).isSome = true then none else (h.get? a).map fun o => (a, o)
def rest (g h : Heap) (L d : Addr) : List (Addr × Obj) := (xr6 g h L).filter fun p => decide (p.1 ≠ d)
end
section
structure Mod (K : W.Frag) (mg : Str -> Option Value) (base : Heap) : Prop where
 kin : K.In base
 glob : base.Ns mainGlobals mg
 blt : ∃ mb, base.Ns builtinsNs mb /\ ∀ x : Str, x ≠ "__name__" -> mb x = bootBuiltins x
 nolimit : base.NoLimit
structure Cx where
 prog : Program
 w : World
 K : W.Frag
 mg : Str -> Option Value
 base : Heap
 A : Around
 N : List Str
 s₀ : Shared
 H₀ : Hp
 env : Env
 outer : List Env
 stack : List Env
 ex : List Addr
 fn : Str -> Bool
 calm : Bool
 pn : List (Addr × Obj)
 xe : Value -> Shared -> Prop
def frs (l : List Env) : List Addr := l.filterMap (·.frame)
abbrev Cx.fs (X : Cx) : List Addr := frs X.outer
def Vis (sc : Scope) (x : Str) : Prop := sc.names.lookup x = some .local \/ sc.names.lookup x = some .cell \/ sc.names.lookup x = some .free
def Loc (sc : Scope) (x : Str) : Prop := sc.names.lookup x = some .local \/ sc.names.lookup x = some .cell
def Look (env : Env) (h : Heap) (m : Str -> Option Value) (x : Str) (u : Value) : Prop :=
 (env.kindOf x = some .local /\ m x = some u) \/ ((env.kindOf x = some .cell \/ env.kindOf x = some .free) /\ ∃ c, env.cells.lookup x = some c /\ h.IsCell c (some u))
structure Cx.Ok (X : Cx) : Prop where
 mod : Mod X.K X.mg X.base
 kind : X.env.scope.kind = .function
 glob : X.env.globals = mainGlobals
 blt : X.env.builtins = builtinsNs
 above : X.s₀.heap.objs.size <= X.env.locals
 inj : ∀ x y c, X.env.cells.lookup x = some c -> X.env.cells.lookup y = some c -> x = y
 has : ∀ x, (X.env.kindOf x = some .cell \/ X.env.kindOf x = some .free) -> ∃ c, X.env.cells.lookup x = some c
 cab : ∀ x c, X.fn x = true -> X.env.cells.lookup x = some c -> X.s₀.heap.objs.size <= c
 hd : X.calm = true -> X.A.handled = none
 frames : X.A.frames = some X.stack
 stk : X.stack = X.outer \/ (X.stack = X.env :: X.outer /\ X.env.frame = some X.env.locals)
 exf : ∀ b ∈ X.ex, b ≠ X.env.locals /\ ∀ x c, X.env.cells.lookup x = some c -> c ≠ b
 bs : ∀ b o, X.base.get? b = some o -> X.s₀.heap.get? b = some o /\ X.H₀ b = none
 bsz : X.base.objs.size <= X.s₀.heap.objs.size
 noex : ∀ b o, X.base.get? b = some o -> b ∉ X.ex
 exfs : ∀ b ∈ X.ex, b ∉ X.fs
 funs : X.s₀.heap.FunFrames X.base X.outer
 frf : ∀ b ∈ X.fs, X.H₀ b = none
structure Inv (X : Cx) (pins : List (Addr × Obj)) (σ : List (Option V)) (H : Hp) (s : Shared) : Prop where
 ok : X.Ok
 os : s.os = X.s₀.os
 bare : AllBare s.gens
 base : Un X.fs X.ex X.H₀ H X.s₀.heap s.heap
 loc : ∃ m, s.heap.Ns X.env.locals m /\ ∀ (i : Nat) (x : Str) (v : V), X.N[i]? = some x -> σ[i]? = some (some v) -> Vis X.env.scope x -> ∃ u, RelV v u /\ Look X.env s.heap m x u
 cell : ∀ x c, X.env.cells.lookup x = some c -> ∃ v, s.heap.IsCell c v
 free : H X.env.locals = none
 freeC : ∀ x c, X.env.cells.lookup x = some c -> H c = none
 pin : ∀ p ∈ X.pn ++ pins, s.heap.get? p.1 = some p.2 /\ H p.1 = none /\ p.1 ≠ X.env.locals /\ p.1 ∉ X.fs /\ ∀ v, p.2.data ≠ .cell v
 hok : HOk X.prog X.w H s.heap
 len : σ.length = X.N.length
section
variable {X : Cx} {pins : List (Addr × Obj)} {σ : List (Option V)} {H H' : Hp} {s : Shared} {h' : Heap}
theorem Cx.Ok.nofr (ok : X.Ok) {b : Addr} {o : Obj} (e : X.base.get? b = some o) : b ∉ X.fs := fun hb => by
 have := (ok.funs.mem hb).1
 rw [e] at this; cases this
theorem Inv.bs (I : Inv X pins σ H s) : ∀ b o, X.base.get? b = some o -> s.heap.get? b = some o /\ H b = none := fun b o e =>
 ⟨I.base.keep b o (I.ok.bs b o e).1 (I.ok.bs b o e).2 (I.ok.nofr e) (I.ok.noex b o e), I.base.free b o (I.ok.bs b o e).1 (I.ok.bs b o e).2 (I.ok.noex b o e)⟩
theorem Inv.bk (I : Inv X pins σ H s) : ∀ b o, X.base.get? b = some o -> s.heap.get? b = some o := fun b o e => (I.bs b o e).1
theorem Inv.mod (I : Inv X pins σ H s) : Mod X.K X.mg X.base := I.ok.mod
theorem Inv.kIn (I : Inv X pins σ H s) : X.K.In s.heap := I.ok.mod.kin.keeps I.bk
theorem Inv.lt (I : Inv X pins σ H s) : X.env.locals < s.heap.objs.size := let ⟨_, hn, _⟩ := I.loc; hn.lt
theorem Inv.sz (I : Inv X pins σ H s) : X.s₀.heap.objs.size <= s.heap.objs.size := Nat.le_trans I.ok.above (Nat.le_of_lt I.lt)
theorem Inv.nofs (I : Inv X pins σ H s) {a : Addr} (h : s.heap.objs.size <= a) : a ∉ X.fs := fun hb => by
 obtain ⟨_, o, ho, _⟩ := I.ok.funs.mem hb
 exact absurd (Nat.lt_of_lt_of_le (Heap.lt_size ho) (Nat.le_trans I.sz h)) (Nat.lt_irrefl _)
theorem Inv.cne (I : Inv X pins σ H s) : ∀ x c, X.env.cells.lookup x = some c -> c ≠ X.env.locals := fun x c e z => by
 obtain ⟨v, o, ho, hd⟩ := I.cell x c e
 obtain ⟨m, ⟨o', es, ep, ho', hd', _⟩, _⟩ := I.loc
 rw [z, ho'] at ho; cases ho; rw [hd'] at hd; cases hd
theorem Inv.funs (I : Inv X pins σ H s) : s.heap.FunFrames X.base X.outer := by
 have all : ∀ (l : List Env), (∀ b ∈ frs l, b ∈ X.fs) -> X.s₀.heap.FunFrames X.base l -> s.heap.FunFrames X.base l := by
  intro l
  induction l with
  | nil => intro _ _; trivial
  | cons env r ih =>
   intro hs hl
   obtain ⟨hk, ⟨L, o, hf, hn, ho, hd⟩, hr⟩ := hl
   have hL : L ∈ X.fs := hs L (by unfold frs; rw [filterMap_cons, hf]; exact mem_cons_self)
   obtain ⟨sl, e⟩ := I.base.slot L o ho (I.ok.frf L hL) hL fun z => I.ok.exfs L z hL
   exact ⟨hk, ⟨L, _, hf, hn, e, hd⟩, ih (fun b hb => hs b (by unfold frs; rw [filterMap_cons, hf]; exact mem_cons_of_mem _ hb)) hr⟩
 exact all X.outer (fun _ hb => hb) I.ok.funs
theorem Inv.stack (I : Inv X pins σ H s) : s.heap.FunFrames X.base X.stack := by
 rcases I.ok.stk with e | ⟨e, hf⟩
 ·rw [e]; exact I.funs
 ·rw [e]
  obtain ⟨m, hn, _⟩ := I.loc
  refine .cons (by rw [I.ok.kind]; decide) hf hn ?_ I.funs
  exact Heap.get?_none_of_le (Nat.le_trans I.ok.bsz I.ok.above)
theorem Inv.stkSub (I : Inv X pins σ H s) : ∀ b ∈ frs X.stack, b ∈ X.env.locals :: X.fs := fun b hb => by
 rcases I.ok.stk with e | ⟨e, hf⟩
 ·rw [e] at hb; exact mem_cons_of_mem _ hb
 ·rw [e] at hb
  unfold frs at hb
  rw [filterMap_cons, hf] at hb
  exact hb
theorem Inv.stkFree (I : Inv X pins σ H s) : ∀ b ∈ frs X.stack, H b = none := fun b hb => by
 rcases List.mem_cons.mp (I.stkSub b hb) with e | hb
 ·rw [e]; exact I.free
 ·obtain ⟨_, o, ho, _⟩ := I.ok.funs.mem hb
  exact I.base.free b o ho (I.ok.frf b hb) fun z => I.ok.exfs b z hb
theorem Inv.step {g' : Array GenState} {t' : Nat} {d' : Drawn} {ch : List Addr} (I : Inv X pins σ H s)
  (hch : ∀ b ∈ ch, (b ∈ X.ex \/ X.s₀.heap.objs.size <= b) /\ b ≠ X.env.locals /\ (∀ x c, X.env.cells.lookup x = some c -> c ≠ b) /\ ∀ p ∈ X.pn ++ pins, p.1 ≠ b)
  (keep : ∀ b o, b ≠ X.env.locals -> b ∉ X.fs -> b ∉ ch -> s.heap.get? b = some o -> H b = none -> h'.get? b = some o)
  (slot : ∀ b o, b ≠ X.env.locals -> b ∈ X.fs -> b ∉ ch -> s.heap.get? b = some o -> H b = none -> ∃ sl, h'.get? b = some { o with slots := sl }) (free : ∀ b o, b ∉ ch -> s.heap.get? b = some o -> H b = none -> H' b = none)
  (there : ∀ b o, b ∉ ch -> s.heap.get? b = some o -> ∃ o', h'.get? b = some o')
  (tups : ∀ b xs, H b = some (.tup xs) -> H' b = some (.tup xs)) (frzs : ∀ b o u, H b = some (.frz o u) -> H' b = some (.frz o u)) (tbls : ∀ b ps, H b = some (.tbl ps) -> ∃ more, H' b = some (.tbl (ps ++ more)))
  (ns : ∀ m, s.heap.Ns X.env.locals m -> h'.Ns X.env.locals m) (hok : HOk X.prog X.w H' h') (hg : AllBare g') :
  Inv X pins σ H' { s with heap := h', gens := g', drawn := d', toks := t' } := by
 have neL : ∀ b o, X.s₀.heap.get? b = some o -> b ≠ X.env.locals := fun b o e => Nat.ne_of_lt (Nat.lt_of_lt_of_le (Heap.lt_size e) I.ok.above)
 have neC : ∀ b o, X.s₀.heap.get? b = some o -> b ∉ X.ex -> b ∉ ch := fun b o e hx hb => by
  rcases (hch b hb).1 with z | z
  ·exact hx z
  ·exact absurd (Nat.lt_of_lt_of_le (Heap.lt_size e) z) (Nat.lt_irrefl _)
 have cellK : ∀ x c, X.env.cells.lookup x = some c -> ∀ v, s.heap.IsCell c v -> h'.IsCell c v := fun x c e v hpat => by
  obtain ⟨o, ho, hd⟩ := hpat
  have nch : c ∉ ch := fun z => (hch c z).2.2.1 x c e rfl
  by_cases hc : c ∈ X.fs
  ·obtain ⟨sl, q⟩ := slot c o (I.cne x c e) hc nch ho (I.freeC x c e)
   exact ⟨_, q, hd⟩
  ·exact ⟨o, keep c o (I.cne x c e) hc nch ho (I.freeC x c e), hd⟩
 refine ⟨I.ok, I.os, hg, ⟨fun b o e n hb hx => ?_, fun b o e n hb hx => ?_, fun b o e n hx => ?_, fun b o e hx => ?_, fun b xs e => tups b xs (I.base.tups b xs e), fun b o xs e => frzs b o xs (I.base.frzs b o xs e), fun b ps e => ?_⟩, ?_, fun x c e => ?_, ?_, fun x c e => ?_, fun p hp => ?_, hok, I.len⟩
 ·exact keep b o (neL b o e) hb (neC b o e hx) (I.base.keep b o e n hb hx) (I.base.free b o e n hx)
 ·obtain ⟨sl, e1⟩ := I.base.slot b o e n hb hx
  obtain ⟨sl', e2⟩ := slot b _ (neL b o e) hb (neC b o e hx) e1 (I.base.free b o e n hx)
  exact ⟨sl', e2⟩
 ·obtain ⟨o', e1⟩ := I.base.there b o e hx
  exact free b o' (neC b o e hx) e1 (I.base.free b o e n hx)
 ·obtain ⟨o', e1⟩ := I.base.there b o e hx
  exact there b o' (neC b o e hx) e1
 ·obtain ⟨m1, e1⟩ := I.base.tbls b ps e
  obtain ⟨m2, e2⟩ := tbls b _ e1
  exact ⟨m1 ++ m2, by rw [e2, Array.append_assoc]⟩
 ·obtain ⟨m, hn, hl⟩ := I.loc
  refine ⟨m, ns m hn, fun i x v e1 e2 e3 => ?_⟩
  obtain ⟨u, r, l⟩ := hl i x v e1 e2 e3
  refine ⟨u, r, ?_⟩
  rcases l with l | ⟨k, c, e, z⟩
  ·exact .inl l
  ·exact .inr ⟨k, c, e, cellK x c e _ z⟩
 ·obtain ⟨v, z⟩ := I.cell x c e
  exact ⟨v, cellK x c e v z⟩
 ·obtain ⟨m, ⟨o, _, _, ho, _⟩, _⟩ := I.loc
  exact free _ o (fun z => (hch _ z).2.1 rfl) ho I.free
 ·obtain ⟨v, o, ho, hd⟩ := I.cell x c e
  exact free c o (fun z => (hch c z).2.2.1 x c e rfl) ho (I.freeC x c e)
 ·obtain ⟨e, n, ne, nf, d⟩ := I.pin p hp
  have nch : p.1 ∉ ch := fun z => (hch p.1 z).2.2.2 p hp rfl
  exact ⟨keep p.1 p.2 ne nf nch e n, free p.1 p.2 nch e n, ne, nf, d⟩
theorem Inv.un {t' : Nat} (I : Inv X pins σ H s) (u : Un X.fs [] H H' s.heap h') (hok : HOk X.prog X.w H' h') : Inv X pins σ H' { s with heap := h', toks := t' } := by
 obtain ⟨m, ⟨o, es, ep, ho, r⟩, _⟩ := id I.loc
 obtain ⟨sl, hL⟩ := u.any ho I.free (by simp)
 exact I.step (g' := s.gens) (d' := s.drawn) (ch := []) (fun _ z => nomatch z) (fun b o _ hb _ e n => u.keep b o e n hb (by simp)) (fun b o _ hb _ e n => u.slot b o e n hb (by simp)) (fun b o _ e n => u.free b o e n (by simp)) (fun b o _ e => u.there b o e (by simp)) u.tups u.frzs u.tbls (fun m' hm => by
  obtain ⟨o', es', ep', ho', r'⟩ := hm
  rw [ho] at ho'; cases ho'
  exact ⟨_, es', ep', hL, r'⟩) hok I.bare
theorem Inv.call {g' : Array GenState} {t' : Nat} {d' : Drawn} {ch : List Addr} (I : Inv X pins σ H s) (u : Un (frs X.stack) ch H H' s.heap h') (hok : HOk X.prog X.w H' h') (hg : AllBare g')
  (hch : ∀ b ∈ ch, (b ∈ X.ex \/ X.s₀.heap.objs.size <= b) /\ b ≠ X.env.locals /\ (∀ x c, X.env.cells.lookup x = some c -> c ≠ b) /\ ∀ p ∈ X.pn ++ pins, p.1 ≠ b) :
  Inv X pins σ H' { s with heap := h', gens := g', drawn := d', toks := t' } := by
 obtain ⟨m, ⟨o, es, ep, ho, r⟩, _⟩ := id I.loc
 obtain ⟨sl, hL⟩ := u.any ho I.free fun z => (hch _ z).2.1 rfl
 exact I.step (ch := ch) hch (fun b o hL hb hc e n => u.keep b o e n (fun z => (List.mem_cons.mp (I.stkSub b z)).elim hL hb) hc) (fun b o _ _ hc e n => u.any e n hc) (fun b o hc e n => u.free b o e n hc) (fun b o hc e => u.there b o e hc) u.tups u.frzs u.tbls (fun m' hm => by
  obtain ⟨o', es', ep', ho', r'⟩ := hm
  rw [ho] at ho'; cases ho'
  exact ⟨_, es', ep', hL, r'⟩) hok hg
theorem Inv.turned {t' : Nat} {it : Addr} (I : Inv X pins σ H s) (k : ∀ b o, b ≠ it -> s.heap.get? b = some o -> h'.get? b = some o) (hn : H it = none) (hL : it ≠ X.env.locals)
  (h1 : it ∈ X.ex \/ X.s₀.heap.objs.size <= it) (h2 : ∀ x c, X.env.cells.lookup x = some c -> c ≠ it) (h3 : ∀ p ∈ X.pn ++ pins, p.1 ≠ it) : Inv X pins σ H { s with heap := h', toks := t' } := by
 have nit : ∀ b u, H b = some u -> b ≠ it := fun b u e z => by rw [z, hn] at e; cases e
 refine I.step (g' := s.gens) (d' := s.drawn) (ch := [it]) (fun b hb => ?_) (fun b o _ _ hc e _ => k b o (fun z => hc (by simp [z])) e) (fun b o _ _ hc e _ => ⟨o.slots, k b o (fun z => hc (by simp [z])) e⟩) (fun _ _ _ _ n => n)
  (fun b o hc e => ⟨o, k b o (fun z => hc (by simp [z])) e⟩) (fun _ _ e => e) (fun _ _ _ e => e) (fun b ps e => ⟨#[], by rw [e]; simp⟩) (fun m hm => ?_) (fun b u e => ?_) I.bare
 ·have e : b = it := by simpa using hb
  subst e
  exact ⟨h1, hL, h2, h3⟩
 ·obtain ⟨o, es, ep, ho, r⟩ := hm
  exact ⟨o, es, ep, k _ o (Ne.symm hL) ho, r⟩
 ·refine (I.hok b u e).stay (fun c v hc q => k c v ?_ q) (fun _ q => q) fun _ _ q => q
  rcases hc with z | z
  ·rw [z]; exact nit b u e
  ·exact nit c _ z
theorem Inv.tok (I : Inv X pins σ H s) (t : Nat) : Inv X pins σ H { s with toks := t } := I.un (h' := s.heap) (t' := t) Un.refl I.hok
theorem Inv.kept {t' : Nat} (I : Inv X pins σ H s) (k : ∀ b u, s.heap.get? b = some u -> h'.get? b = some u) : Inv X pins σ H { s with heap := h', toks := t' } := I.un (Un.kept k) (I.hok.kept k)
theorem Inv.laid {a : Addr} {o : HO} {t' : Nat} (I : Inv X pins σ H s) (k : ∀ b u, s.heap.get? b = some u -> h'.get? b = some u) (hp : s.heap.objs.size <= a) (new : ObjOk X.prog X.w (upd H a o) h' a o) :
  Inv X pins σ (upd H a o) { s with heap := h', toks := t' } := I.un (Un.laid k hp (I.hok.fresh hp)) (I.hok.laid k hp new)
theorem Inv.write {x e : Addr} {o : HO} {t' : Nat} (I : Inv X pins σ H s) (mu : Mut (H x)) (he : e = x \/ H e = some (.own x)) (k : ∀ b u, b ≠ e -> s.heap.get? b = some u -> h'.get? b = some u) (heo : ∃ u, h'.get? e = some u)
  (new : ObjOk X.prog X.w (upd H x o) h' x o) : Inv X pins σ (upd H x o) { s with heap := h', toks := t' } := I.un (Un.write mu he k heo) (I.hok.write mu he k heo new)
theorem Inv.pins_of {pins' : List (Addr × Obj)} (I : Inv X pins σ H s) (h : ∀ p ∈ pins', s.heap.get? p.1 = some p.2 /\ H p.1 = none /\ p.1 ≠ X.env.locals /\ p.1 ∉ X.fs /\ ∀ v, p.2.data ≠ .cell v) : Inv X pins' σ H s :=
 ⟨I.ok, I.os, I.bare, I.base, I.loc, I.cell, I.free, I.freeC, fun p hp => (List.mem_append.mp hp).elim (fun z => I.pin p (mem_append_left _ z)) (h p), I.hok, I.len⟩
theorem zh6 {N : List Str} (hN : N.Nodup) {i j : Nat} {x : Str} (a : N[i]? = some x) (b : N[j]? = some x) : i = j := by
 obtain ⟨h1, e1⟩ := List.getElem?_eq_some_iff.mp a
 obtain ⟨h2, e2⟩ := List.getElem?_eq_some_iff.mp b
 exact (getElem_inj hN).mp (e1.trans e2.symm)
theorem zv0 {M : Model} {A : Around} {E : Value -> Shared -> Prop} {i : Nat} {x : Str} {v : V} {u : Value} {Q : Unit -> Shared -> Prop} (I : Inv X pins σ H s) (hN : X.N.Nodup) (hi : X.N[i]? = some x) (hx : Loc X.env.scope x) (r : RelV v u)
  (h : ∀ s', Inv X pins (σ.set i (some v)) H s' -> (∃ a, Heap.SameBut a s.heap s'.heap /\ (a = X.env.locals \/ X.env.cells.lookup x = some a)) -> Q () s') (hf : X.fn x = true \/ X.env.scope.names.lookup x = some .local := by first | exact .inl rfl | exact .inr rfl | assumption) : wpAny M A (storeName X.env x u) Q E s := by
 obtain ⟨m, hn, hl⟩ := id I.loc
 have hcls : (X.env.scope.kind == .class || (X.env.scope.kind == .module && X.env.locals != X.env.globals)) = false := by rw [I.ok.kind]; rfl
 have hiσ : i < σ.length := by rw [I.len]; exact (List.getElem?_eq_some_iff.mp hi).1
 have cne := I.cne
 have tracked : ∀ {a : Addr} {h' : Heap}, (∃ o, s.heap.get? a = some o /\ H a = none) -> Heap.SameBut a s.heap h' -> HOk X.prog X.w H h' := fun {a h'} ha hs b ob e => by
  obtain ⟨_, _, hfree⟩ := ha
  refine (I.hok b ob e).stay (fun c w' hc q => (hs.2 c ?_).trans q) (fun _ q => q) fun _ _ q => q
  rintro rfl
  rcases hc with rfl | hc
  ·rw [hfree] at e; cases e
  ·rw [hfree] at hc; cases hc
 rcases hx with hk | hk
 ·refine wpAny_storeName_local hk hn (fun h' hn' hs => ?_) hcls
  obtain ⟨oL, _, _, hoL, _⟩ := id hn
  refine h _ ⟨I.ok, I.os, I.bare, ⟨fun b o e n hb hx => ?_, fun b o e n hb hx => ?_, I.base.free, fun b o e hx => ?_, I.base.tups, I.base.frzs, I.base.tbls⟩, ⟨_, hn', fun j y v' e1 e2 e3 => ?_⟩, fun y c e => ?_, I.free, I.freeC, fun p hp => ?_, tracked ⟨oL, hoL, I.free⟩ hs, by simpa using I.len⟩ ⟨_, hs, .inl rfl⟩
  ·exact (hs.2 b (Nat.ne_of_lt (Nat.lt_of_lt_of_le (Heap.lt_size e) I.ok.above))).trans (I.base.keep b o e n hb hx)
  ·obtain ⟨sl, e1⟩ := I.base.slot b o e n hb hx
   exact ⟨sl, (hs.2 b (Nat.ne_of_lt (Nat.lt_of_lt_of_le (Heap.lt_size e) I.ok.above))).trans e1⟩
  ·obtain ⟨o', e1⟩ := I.base.there b o e hx
   exact ⟨o', (hs.2 b (Nat.ne_of_lt (Nat.lt_of_lt_of_le (Heap.lt_size e) I.ok.above))).trans e1⟩
  ·by_cases hj : j = i
   ·subst hj
    rw [hi] at e1; cases e1
    rw [getElem?_set_self hiσ] at e2
    cases e2
    exact ⟨u, r, .inl ⟨hk, by simp⟩⟩
   ·rw [getElem?_set_ne (Ne.symm hj)] at e2
    obtain ⟨u', r', q⟩ := hl j y v' e1 e2 e3
    refine ⟨u', r', ?_⟩
    rcases q with ⟨k, e⟩ | ⟨k, c, e, z⟩
    ·refine .inl ⟨k, ?_⟩
     have : y ≠ x := fun e => hj (zh6 hN e1 (e ▸ hi))
     simp [this, e]
    ·exact .inr ⟨k, c, e, z.sameBut hs (cne y c e)⟩
  ·obtain ⟨w', z⟩ := I.cell y c e
   exact ⟨w', z.sameBut hs (cne y c e)⟩
  ·obtain ⟨e, n, ne, nf, d⟩ := I.pin p hp
   exact ⟨(hs.2 p.1 ne).trans e, n, ne, nf, d⟩
 ·have hfn : X.fn x = true := by
   rcases hf with z | z
   ·exact z
   ·rw [z] at hk; cases hk
  obtain ⟨c, hc⟩ := I.ok.has x (.inl hk)
  obtain ⟨w', z⟩ := I.cell x c hc
  refine wpAny_storeName_cell I.ok.kind hk hc z (fun h' hc' hs => ?_)
  obtain ⟨oc, hoc, hocd⟩ := id z
  refine h { s with heap := h' } ⟨I.ok, I.os, I.bare, ⟨fun b o e n hb hx => ?_, fun b o e n hb hx => ?_, I.base.free, fun b o e hx => ?_, I.base.tups, I.base.frzs, I.base.tbls⟩, ⟨m, hn.sameBut hs (Ne.symm (cne x c hc)), fun j y v' e1 e2 e3 => ?_⟩, fun y c' e => ?_, I.free, I.freeC, fun p hp => ?_, tracked ⟨oc, hoc, I.freeC x c hc⟩ hs, by simpa using I.len⟩ ⟨c, hs, .inr hc⟩
  ·exact (hs.2 b (Nat.ne_of_lt (Nat.lt_of_lt_of_le (Heap.lt_size e) (I.ok.cab x c hfn hc)))).trans (I.base.keep b o e n hb hx)
  ·obtain ⟨sl, e1⟩ := I.base.slot b o e n hb hx
   exact ⟨sl, (hs.2 b (Nat.ne_of_lt (Nat.lt_of_lt_of_le (Heap.lt_size e) (I.ok.cab x c hfn hc)))).trans e1⟩
  ·obtain ⟨o', e1⟩ := I.base.there b o e hx
   exact ⟨o', (hs.2 b (Nat.ne_of_lt (Nat.lt_of_lt_of_le (Heap.lt_size e) (I.ok.cab x c hfn hc)))).trans e1⟩
  ·by_cases hj : j = i
   ·subst hj
    rw [hi] at e1; cases e1
    rw [getElem?_set_self hiσ] at e2
    cases e2
    exact ⟨u, r, .inr ⟨.inl hk, c, hc, hc'⟩⟩
   ·rw [getElem?_set_ne (Ne.symm hj)] at e2
    obtain ⟨u', r', q⟩ := hl j y v' e1 e2 e3
    refine ⟨u', r', ?_⟩
    rcases q with q | ⟨k, c', e, z'⟩
    ·exact .inl q
    ·refine .inr ⟨k, c', e, z'.sameBut hs ?_⟩
     rintro rfl
     exact hj (zh6 hN e1 (I.ok.inj _ _ _ e hc ▸ hi))
  ·by_cases hcc : c' = c
   ·subst hcc; exact ⟨_, hc'⟩
   ·obtain ⟨w2, z2⟩ := I.cell y c' e
    exact ⟨w2, z2.sameBut hs hcc⟩
  ·obtain ⟨e, n, ne, nf, d⟩ := I.pin p hp
   refine ⟨(hs.2 p.1 ?_).trans e, n, ne, nf, d⟩
   intro q
   rw [q, hoc] at e
   have q' : oc = p.2 := Option.some.inj e
   exact d w' (by rw [<- q']; exact hocd)
theorem zi8 {M : Model} {A : Around} {E : Value -> Shared -> Prop} {i : Nat} {x : Str} {v : V} {u : Value} {Q : Unit -> Shared -> Prop} (I : Inv X pins σ H s) (hN : X.N.Nodup) (hi : X.N[i]? = some x) (hx : Loc X.env.scope x) (r : RelV v u)
  (h : ∀ s', Inv X pins (σ.set i (some v)) H s' -> Q () s') (hf : X.fn x = true \/ X.env.scope.names.lookup x = some .local := by first | exact .inl rfl | exact .inr rfl | assumption) : wpAny M A (storeName X.env x u) Q E s :=
 zv0 I hN hi hx r (fun s' I' _ => h s' I') hf
theorem Inv.call' {s' : Shared} {ch : List Addr} (I : Inv X pins σ H s) (ho : s'.os = s.os) (u : Un (frs X.stack) ch H H' s.heap s'.heap) (hok : HOk X.prog X.w H' s'.heap) (hg : AllBare s'.gens)
  (hch : ∀ b ∈ ch, (b ∈ X.ex \/ X.s₀.heap.objs.size <= b) /\ b ≠ X.env.locals /\ (∀ x c, X.env.cells.lookup x = some c -> c ≠ b) /\ ∀ p ∈ X.pn ++ pins, p.1 ≠ b) : Inv X pins σ H' s' := by
 obtain ⟨h', g', d', t', o'⟩ := s'
 have e : o' = s.os := ho
 subst e
 exact I.call (g' := g') (t' := t') (d' := d') u hok hg hch
end
abbrev XK := Value -> Option Addr -> Hp -> Prop
abbrev St := List (Option V)
abbrev VK := V -> Hp -> Prop
abbrev TE := St -> Hp -> VK -> Prop
abbrev TT := St -> Hp -> (Bool -> Hp -> Prop) -> Prop
abbrev TA := St -> Hp -> (List V -> Hp -> Prop) -> Prop
structure Ends where
 nx : St -> Hp -> Prop
 rt : VK
 bk : St -> Hp -> Prop := fun _ _ => False
 ct : St -> Hp -> Prop := fun _ _ => False
abbrev TS := Ends -> St -> Hp -> Prop
def EP (X : Cx) (pins : List (Addr × Obj)) (σ : St) (Q : VK) (u : Value) (s' : Shared) : Prop := ∃ v H', Inv X pins σ H' s' /\ RelV v u /\ Q v H'
def TP (X : Cx) (pins : List (Addr × Obj)) (σ : St) (Q : Bool -> Hp -> Prop) (b : Bool) (s' : Shared) : Prop := ∃ H', Inv X pins σ H' s' /\ Q b H'
def AP (X : Cx) (pins : List (Addr × Obj)) (σ : St) (Q : List V -> Hp -> Prop) (us : List Value) (s' : Shared) : Prop := ∃ vs H', Inv X pins σ H' s' /\ Vals vs us /\ Q vs H'
def SP (X : Cx) (pins : List (Addr × Obj)) (D : Ends) (f : Flow) (s' : Shared) : Prop :=
 match f with
 | .next => ∃ σ' H', Inv X pins σ' H' s' /\ D.nx σ' H'
 | .brk => ∃ σ' H', Inv X pins σ' H' s' /\ D.bk σ' H'
 | .cont => ∃ σ' H', Inv X pins σ' H' s' /\ D.ct σ' H'
 | .ret u => ∃ v σ' H', Inv X pins σ' H' s' /\ RelV v u /\ D.rt v H'
def PE (X : Cx) (e : Expr) (t : TE) : Prop :=
 ∀ (pins : List (Addr × Obj)) (s : Shared) (σ : St) (H : Hp) (Q : VK), Inv X pins σ H s -> t σ H Q -> wpAny (model X.prog X.w) X.A (eval e X.env) (EP X pins σ Q) X.xe s
def PT (X : Cx) (e : Expr) (t : TT) : Prop :=
 ∀ (pins : List (Addr × Obj)) (s : Shared) (σ : St) (H : Hp) (Q : Bool -> Hp -> Prop), Inv X pins σ H s -> t σ H Q -> wpAny (model X.prog X.w) X.A (isTrue e X.env (eval e X.env)) (TP X pins σ Q) X.xe s
def PW (X : Cx) (e : Expr) (t : TT) : Prop :=
 ∀ (whole : Sem Value) (pins : List (Addr × Obj)) (s : Shared) (σ : St) (H : Hp) (Q : Bool -> Hp -> Prop), Inv X pins σ H s -> t σ H Q -> wpAny (model X.prog X.w) X.A (isTrue e X.env whole) (TP X pins σ Q) X.xe s
theorem PW.pt {X : Cx} {e : Expr} {t : TT} (h : PW X e t) : PT X e t := h _
def PA (X : Cx) (es : List Expr) (t : TA) : Prop :=
 ∀ (pos : Pos) (pins : List (Addr × Obj)) (s : Shared) (σ : St) (H : Hp) (Q : List V -> Hp -> Prop), Inv X pins σ H s -> t σ H Q -> wpAny (model X.prog X.w) X.A (spliced (backTo pos (starEach es X.env))) (AP X pins σ Q) X.xe s
def PS (X : Cx) (st : Stmt) (t : TS) : Prop :=
 ∀ (pins : List (Addr × Obj)) (s : Shared) (σ : St) (H : Hp) (D : Ends), Inv X pins σ H s -> t D σ H -> wpAny (model X.prog X.w) X.A (exec st X.env) (SP X pins D) X.xe s
def PSs (X : Cx) (st : List Stmt) (t : TS) : Prop :=
 ∀ (pins : List (Addr × Obj)) (s : Shared) (σ : St) (H : Hp) (D : Ends), Inv X pins σ H s -> t D σ H -> wpAny (model X.prog X.w) X.A (execs st X.env) (SP X pins D) X.xe s
theorem thn {α : Type} {t : Sem α} {Q Q' : α -> Shared -> Prop} {M : Model} {A : Around} {E : Value -> Shared -> Prop} {s : Shared} (h : wpAny M A t Q E s) (hQ : ∀ a s, Q a s -> Q' a s) : wpAny M A t Q' E s := wpAny_mono h hQ fun _ _ x => x
end
section
section
variable {X : Cx}
def tVar (i : Nat) : TE := fun σ H Q => ∃ v, σ[i]? = some (some v) /\ Q v H
def tC (v : V) : TE := fun _ H Q => Q v H
theorem xn8 {i : Nat} {x : Str} {pos : Pos} (hN : X.N[i]? = some x) (hv : Vis X.env.scope x) (hd : (x == ("__debug__" : Str)) = false := by decide) (hcd : (x == ("__classdict__" : Str)) = false := by decide) : PE X (.Name x pos) (tVar i) := by
 intro pins s σ H Q I h
 obtain ⟨v, e, h⟩ := h
 obtain ⟨m, hn, hl⟩ := I.loc
 obtain ⟨u, r, l⟩ := hl i x v hN e hv
 have fin : EP X pins σ Q u s := ⟨v, H, I, r, h⟩
 rcases l with ⟨hk, hm⟩ | ⟨hk, c, hc, hcell⟩
 ·exact wpAny_Name (wpAny_loadName_local I.ok.kind hk hn hm fin) hd
 ·rcases hk with hk | hk
  ·exact wpAny_Name (wpAny_loadName_cell I.ok.kind hk hc hcell fin) hd
  ·exact wpAny_Name (wpAny_loadName_free I.ok.kind hk hc hcell fin hcd) hd
theorem pe_int {i j pos} : PE X (.Constant (.int i) j pos) (tC (.int i)) := fun _ _ _ H _ I h => wpAny_Constant_int ⟨.int i, H, I.tok _, ⟨_, rfl⟩, h⟩
theorem pe_bl {b j pos} : PE X (.Constant (.bool b) j pos) (tC (.bl b)) := fun _ _ _ H _ I h => Constant_bool ⟨.bl b, H, I, rfl, h⟩
theorem pe_non {j pos} : PE X (.Constant .none j pos) (tC .non) := fun _ _ _ H _ I h => Constant_none ⟨.non, H, I, rfl, h⟩
theorem pe_str {x j pos} : PE X (.Constant (.str x) j pos) (tC (.str x)) := fun _ _ _ H _ I h => Calls.Constant_str ⟨.str x, H, I.tok _, ⟨_, rfl⟩, h⟩
def Gl (X : Cx) (x : Str) : Prop := X.env.kindOf x = some .globalImplicit
theorem zm8 {E : Value -> Shared -> Prop} {pins : List (Addr × Obj)} {s : Shared} {σ : St} {H : Hp} {x : Str} {u : Value} {pos : Pos} {Q : Value -> Shared -> Prop} (I : Inv X pins σ H s) (hg : Gl X x) (hm : X.mg x = some u) (h : Q u s)
  (hd : (x == ("__debug__" : Str)) = false := by decide) : wpAny (model X.prog X.w) X.A (eval (.Name x pos) X.env) Q E s :=
 Calls.Name_function_global I.ok.kind hg (Calls.loadGlobal_global (by rw [I.ok.glob]; exact I.mod.glob.keeps I.bk) hm h) hd
theorem Y8 {E : Value -> Shared -> Prop} {pins : List (Addr × Obj)} {s : Shared} {σ : St} {H : Hp} {x : Str} {u : Value} {pos : Pos} {Q : Value -> Shared -> Prop} (I : Inv X pins σ H s) (hg : Gl X x) (hm : X.mg x = none) (hv : bootBuiltins x = some u) (h : Q u s)
  (hn : x ≠ "__name__" := by decide) (hd : (x == ("__debug__" : Str)) = false := by decide) : wpAny (model X.prog X.w) X.A (eval (.Name x pos) X.env) Q E s := by
 obtain ⟨mb, h1, h2⟩ := I.mod.blt
 exact Calls.Name_function_global I.ok.kind hg (Calls.loadGlobal_builtin (by rw [I.ok.glob]; exact I.mod.glob.keeps I.bk) hm (by rw [I.ok.blt]; exact h1.keeps I.bk) ((h2 x hn).trans hv) h) hd
theorem zz6 {x : Str} {v : V} {u : Value} {pos : Pos} (hg : Gl X x) (hm : X.mg x = some u) (r : RelV v u) (hd : (x == ("__debug__" : Str)) = false := by decide) : PE X (.Name x pos) (tC v) :=
 fun _ _ _ H _ I h => zm8 I hg hm ⟨v, H, I, r, h⟩ hd
variable {a b : Expr} {ta tb : TE} {pos : Pos}
def tB (t : TE) : TT := fun σ H Q => t σ H fun x H1 => ∃ c, x = .bl c /\ Q c H1
variable {tA tB' : TT} {rest : List Expr}
def tAnd (t u : TT) : TT := fun σ H Q => t σ H fun c H1 => if c = true then u σ H1 Q else Q false H1
def tOr (t u : TT) : TT := fun σ H Q => t σ H fun c H1 => if c = true then Q true H1 else u σ H1 Q
def tNot (t : TT) : TT := fun σ H Q => t σ H fun c H1 => Q (!c) H1
theorem yx2 (ha : PT X a tA) : PW X (.BoolOp .And [a] pos) tA := by
 intro wh pins s σ H Q I h
 refine isTrue_and (thn (ha pins s σ H Q I h) fun c s1 e => ?_)
 cases c with
 | true => exact isTrue_and_nil e
 | false => exact e
theorem xn2 (ha : PT X a tA) : PW X (.BoolOp .Or [a] pos) tA := by
 intro wh pins s σ H Q I h
 refine isTrue_or (thn (ha pins s σ H Q I h) fun c s1 e => ?_)
 cases c with
 | false => exact isTrue_or_nil e
 | true => exact e
theorem yf7 (ha : PT X a tA) (hb : PW X (.BoolOp .And (b :: rest) pos) tB') : PW X (.BoolOp .And (a :: b :: rest) pos) (tAnd tA tB') := by
 intro wh pins s σ H Q I h
 refine isTrue_and (thn (ha pins s σ H _ I h) fun c s1 hpat => ?_)
 obtain ⟨H1, I1, q1⟩ := hpat
 cases c with
 | true => exact hb wh pins s1 σ H1 Q I1 q1
 | false => exact ⟨H1, I1, q1⟩
theorem xd6 (ha : PT X a tA) (hb : PW X (.BoolOp .Or (b :: rest) pos) tB') : PW X (.BoolOp .Or (a :: b :: rest) pos) (tOr tA tB') := by
 intro wh pins s σ H Q I h
 refine isTrue_or (thn (ha pins s σ H _ I h) fun c s1 hpat => ?_)
 obtain ⟨H1, I1, q1⟩ := hpat
 cases c with
 | true => exact ⟨H1, I1, q1⟩
 | false => exact hb wh pins s1 σ H1 Q I1 q1
theorem xn4 (ha : PT X a tA) : PT X (.UnaryOp .Not a pos) (tNot tA) := by
 intro pins s σ H Q I h
 exact isTrue_not (ha pins s σ H (fun c H1 => Q (!c) H1) I h)
def tIf (t : TT) (ta tb : TE) : TE := fun σ H Q => t σ H fun c H1 => if c = true then ta σ H1 Q else tb σ H1 Q
theorem yk5 {c : Expr} (hc : PT X c tA) (ha : PE X a ta) (hb : PE X b tb) : PE X (.IfExp c a b pos) (tIf tA ta tb) := by
 intro pins s σ H Q I h
 refine wpAny_IfExp (thn (hc pins s σ H _ I h) fun d s1 hpat => ?_)
 obtain ⟨H1, I1, q1⟩ := hpat
 cases d with
 | true => exact ha pins s1 σ H1 Q I1 q1
 | false => exact hb pins s1 σ H1 Q I1 q1
end
end
section
def SqL (K : W.Frag) (H : Hp) (a : Addr) (xs : List V) : Prop :=
 Rd H a (.lst xs) \/
  ∃ (o : Obj) (its : Array Value) (n : Nat), K.lookup a = some o /\ o.cls = .type "list" /\ o.dict = none /\ o.data = .seq its n /\ its.size <= sizeLine /\ Vals xs its.toList
def SqT (K : W.Frag) (H : Hp) (a : Addr) (xs : List V) : Prop :=
 Rd H a (.tup xs) \/
  ∃ (o : Obj) (its : Array Value) (n : Nat), K.lookup a = some o /\ o.cls = .type "tuple" /\ o.data = .seq its n /\ its.size <= sizeLine /\ Vals xs its.toList
def absV : Value -> Option V
 | .none => some .non
 | .bool b => some (.bl b)
 | .int i _ => some (.int i)
 | .str x _ => some (.str x)
 | .bytes b _ => some (.byt b)
 | .float b _ => some (.flt b)
 | .ref a => some (.ref a)
 | .type n => some (.ty n)
 | _ => none
theorem RelV.abs {x : V} {u : Value} (r : RelV x u) : absV u = some x := by
 cases x with
 | non => cases r; rfl
 | bl _ => cases r; rfl
 | int _ => obtain ⟨t, rfl⟩ := r; rfl
 | str _ => obtain ⟨t, rfl⟩ := r; rfl
 | byt _ => obtain ⟨t, rfl⟩ := r; rfl
 | flt _ => obtain ⟨t, rfl⟩ := r; rfl
 | ref _ => cases r; rfl
 | ty _ => cases r; rfl
theorem RelV.inj {x y : V} {u : Value} (r : RelV x u) (q : RelV y u) : x = y := Option.some.inj (r.abs.symm.trans q.abs)
theorem Vals.inj : ∀ {xs ys : List V} {us : List Value}, Vals xs us -> Vals ys us -> xs = ys
 | _, _, _, .nil, .nil => rfl
 | _, _, _, .cons r t, .cons r' t' => by rw [r.inj r', Vals.inj t t']
section
variable {X : Cx} {pins : List (Addr × Obj)} {σ : St} {H : Hp} {s : Shared} {a : Addr} {xs ys : List V}
theorem SqL.of {K : W.Frag} (h : H a = some (.lst xs)) : SqL K H a xs := .inl (.inl h)
theorem SqT.of {K : W.Frag} (h : H a = some (.tup xs)) : SqT K H a xs := .inl (.inl h)
theorem Inv.list (I : Inv X pins σ H s) (h : SqL X.K H a xs) : ∃ its : List Value, Vals xs its /\ PlainL s.heap a its.toArray /\ xs.length <= sizeLine := by
 rcases h with h | ⟨o, its, n, hk, hc, hd, hs, hz, r⟩
 ·obtain ⟨z, its, n, r, e⟩ := h.ok I.hok
  exact ⟨its, r, ⟨_, n, e, rfl, rfl, rfl⟩, z⟩
 ·refine ⟨its.toList, r, ⟨o, n, I.kIn a o hk, hc, hd, by simpa using hs⟩, ?_⟩
  have e := r.length
  simp only [Array.length_toList] at e
  omega
theorem Inv.tuple (I : Inv X pins σ H s) (h : SqT X.K H a xs) : ∃ its : List Value, Vals xs its /\ IsTup s.heap a its.toArray /\ xs.length <= sizeLine := by
 rcases h with h | ⟨o, its, n, hk, hc, hs, hz, r⟩
 ·obtain ⟨z, its, r, p⟩ := h.ok I.hok
  exact ⟨its, r, p, z⟩
 ·refine ⟨its.toList, r, ⟨o, I.kIn a o hk, hc, n, by simpa using hs⟩, ?_⟩
  have e := r.length
  simp only [Array.length_toList] at e
  omega
theorem Inv.list_inj (I : Inv X pins σ H s) (h : SqL X.K H a xs) (h' : SqL X.K H a ys) : xs = ys := by
 obtain ⟨its, r, ⟨o, n, e, _, _, d⟩, _⟩ := I.list h
 obtain ⟨its', r', ⟨o', n', e', _, _, d'⟩, _⟩ := I.list h'
 rw [e] at e'; cases e'
 rw [d] at d'
 injection d' with d1 _
 have : its = its' := by simpa using congrArg Array.toList d1
 subst this
 exact r.inj r'
theorem Inv.tuple_inj (I : Inv X pins σ H s) (h : SqT X.K H a xs) (h' : SqT X.K H a ys) : xs = ys := by
 obtain ⟨its, r, ⟨o, e, _, n, d⟩, _⟩ := I.tuple h
 obtain ⟨its', r', ⟨o', e', _, n', d'⟩, _⟩ := I.tuple h'
 rw [e] at e'; cases e'
 rw [d] at d'
 injection d' with d1 _
 have : its = its' := by simpa using congrArg Array.toList d1
 subst this
 exact r.inj r'
end
abbrev Cx.wish (X : Cx) (E : Value -> Shared -> Prop) : Cx := { X with xe := E }
abbrev Cx.nox (X : Cx) : Cx := X.wish fun _ _ => False
theorem Cx.Ok.wish {X : Cx} (ok : X.Ok) (E : Value -> Shared -> Prop) : (X.wish E).Ok :=
 ⟨ok.mod, ok.kind, ok.glob, ok.blt, ok.above, ok.inj, ok.has, ok.cab, ok.hd, ok.frames, ok.stk, ok.exf, ok.bs, ok.bsz, ok.noex, ok.exfs, ok.funs, ok.frf⟩
theorem Cx.Ok.unwish {X : Cx} {E : Value -> Shared -> Prop} (ok : (X.wish E).Ok) : X.Ok :=
 ⟨ok.mod, ok.kind, ok.glob, ok.blt, ok.above, ok.inj, ok.has, ok.cab, ok.hd, ok.frames, ok.stk, ok.exf, ok.bs, ok.bsz, ok.noex, ok.exfs, ok.funs, ok.frf⟩
section
variable {X : Cx} {pins : List (Addr × Obj)} {σ : St} {H : Hp} {s : Shared} {E : Value -> Shared -> Prop}
theorem Inv.wish (I : Inv X pins σ H s) (E : Value -> Shared -> Prop) : Inv (X.wish E) pins σ H s := ⟨I.ok.wish E, I.os, I.bare, I.base, I.loc, I.cell, I.free, I.freeC, I.pin, I.hok, I.len⟩
theorem Inv.unwish (I : Inv (X.wish E) pins σ H s) : Inv X pins σ H s := ⟨I.ok.unwish, I.os, I.bare, I.base, I.loc, I.cell, I.free, I.freeC, I.pin, I.hok, I.len⟩
theorem SP.unwish {D : Ends} {f : Flow} {s' : Shared} (h : SP (X.wish E) pins D f s') : SP X pins D f s' := by
 cases f with
 | next => obtain ⟨σ', H', I, q⟩ := h; exact ⟨σ', H', I.unwish, q⟩
 | brk => obtain ⟨σ', H', I, q⟩ := h; exact ⟨σ', H', I.unwish, q⟩
 | cont => obtain ⟨σ', H', I, q⟩ := h; exact ⟨σ', H', I.unwish, q⟩
 | ret u => obtain ⟨v, σ', H', I, r, q⟩ := h; exact ⟨v, σ', H', I.unwish, r, q⟩
theorem PSs.nox {st : List Stmt} {t : TS} (h : PSs X.nox st t) : PSs X st t := fun pins s σ H D I hw =>
 wpAny_mono (h pins s σ H D (I.wish _) hw) (fun _ _ q => q.unwish) fun _ _ z => False.elim z
end
section
variable {X : Cx} {st : Stmt} {rest : List Stmt} {t u : TS} {e : Expr} {te : TE} {pos : Pos}
def xe8 : TS := fun D σ H => D.nx σ H
def tSeq (t u : TS) : TS := fun D σ H => t { D with nx := u D } σ H
theorem pss_nil : PSs X [] xe8 := fun _ _ σ H _ I h => wpAny_execs_nil ⟨σ, H, I, h⟩
theorem M8 (h1 : PS X st t) (h2 : PSs X rest u) : PSs X (st :: rest) (tSeq t u) := by
 intro pins s σ H D I h
 refine wpAny_execs_cons (thn (h1 pins s σ H { D with nx := u D } I h) fun f s1 q => ?_)
 cases f with
 | next =>
  obtain ⟨σ', H', I', q⟩ := q
  exact h2 pins s1 σ' H' D I' q
 | ret v => exact q
 | brk => exact q
 | cont => exact q
theorem A9 (h1 : PS X st t) : PSs X [st] t := by
 intro pins s σ H D I h
 refine wpAny_execs_cons (thn (h1 pins s σ H D I h) fun f s1 q => ?_)
 cases f with
 | next => exact wpAny_execs_nil q
 | ret v => exact q
 | brk => exact q
 | cont => exact q
theorem Inv.quiet {pins : List (Addr × Obj)} {σ : St} {H : Hp} {s : Shared} (I : Inv X pins σ H s) : interactive X.env = false := by simp [interactive, I.ok.kind]
def xp9 (te : TE) : TS := fun D σ H => te σ H fun _ H1 => D.nx σ H1
theorem K5 (he : PE X e te) (hs : swapsWith e none pos.line X.env = pure false := by rfl) : PS X (.Expr e pos) (xp9 te) := by
 intro pins s σ H D I h
 exact wpAny_Expr_any (thn (he pins s σ H _ I h) fun v s1 ⟨x, H1, I1, r1, q1⟩ => ⟨σ, H1, I1, q1⟩) I.quiet hs
def tRet (te : TE) : TS := fun D σ H => te σ H D.rt
theorem R7 (he : PE X e te) : PS X (.Return (some e) pos) (tRet te) := by
 intro pins s σ H D I h
 exact wpAny_Return_some (thn (he pins s σ H _ I h) fun v s1 ⟨x, H1, I1, r1, q1⟩ => ⟨x, σ, H1, I1, r1, q1⟩)
def tIfS (c : TT) (t u : TS) : TS := fun D σ H => c σ H fun b H1 => if b = true then t D σ H1 else u D σ H1
theorem yk0 {c : Expr} {a b : List Stmt} {tc : TT} (hc : PT X c tc) (ha : PSs X a t) (hb : PSs X b u) : PS X (.If c a b pos) (tIfS tc t u) := by
 intro pins s σ H D I h
 refine wpAny_If (thn (hc pins s σ H _ I h) fun d s1 hpat => ?_)
 obtain ⟨H1, I1, q1⟩ := hpat
 cases d with
 | true => exact ha pins s1 σ H1 D I1 q1
 | false => exact hb pins s1 σ H1 D I1 q1
def xp6 : TS := fun _ _ _ => False
theorem ps_never : PS X st xp6 := fun _ _ _ _ _ _ h => h.elim
end
abbrev TG := V -> St -> Hp -> (St -> Hp -> Prop) -> Prop
abbrev TGs := List V -> St -> Hp -> (St -> Hp -> Prop) -> Prop
def PG (X : Cx) (target : Expr) (t : TG) : Prop :=
 ∀ (pins : List (Addr × Obj)) (s : Shared) (σ : St) (H : Hp) (v : V) (u : Value) (Q : St -> Hp -> Prop), Inv X pins σ H s -> RelV v u -> t v σ H Q ->
  wpAny (model X.prog X.w) X.A (assign target X.env u) (fun _ s' => ∃ σ' H', Inv X pins σ' H' s' /\ Q σ' H') X.xe s
def PGs (X : Cx) (ts : List Expr) (t : TGs) : Prop :=
 ∀ (pins : List (Addr × Obj)) (s : Shared) (σ : St) (H : Hp) (vs : List V) (us : List Value) (Q : St -> Hp -> Prop), Inv X pins σ H s -> Vals vs us -> t vs σ H Q ->
  wpAny (model X.prog X.w) X.A (assignInOrder ((assignEach ts X.env).map (·.2)) us) (fun _ s' => ∃ σ' H', Inv X pins σ' H' s' /\ Q σ' H') X.xe s
abbrev TSet := V -> V -> V -> Hp -> (Hp -> Prop) -> Prop
def PSet (X : Cx) (t : TSet) : Prop :=
 ∀ (pins : List (Addr × Obj)) (s : Shared) (σ : St) (H : Hp) (o i v : V) (ov iv u : Value) (Q : Hp -> Prop), Inv X pins σ H s -> RelV o ov -> RelV i iv -> RelV v u -> t o i v H Q ->
  wpAny (model X.prog X.w) X.A (setItem ov iv u) (fun _ s' => ∃ H', Inv X pins σ H' s' /\ Q H') X.xe s
section
variable {X : Cx} {pos : Pos}
def M1 (i : Nat) : TG := fun v σ H Q => Q (σ.set i (some v)) H
theorem x8 {i : Nat} {x : Str} (hN : X.N.Nodup) (hi : X.N[i]? = some x) (hx : Loc X.env.scope x) (hf : X.fn x = true \/ X.env.scope.names.lookup x = some .local := by first | exact .inl rfl | exact .inr rfl | assumption) : PG X (.Name x pos) (M1 i) := by
 intro pins s σ H v u Q I r h
 exact wpAny_assign_Name (zi8 I hN hi hx r (fun s' I' => ⟨_, H, I', h⟩) hf)
def gNil : TGs := fun vs σ H Q => vs = [] /\ Q σ H
def yh9 (t : TG) (u : TGs) : TGs := fun vs σ H Q => ∃ v r, vs = v :: r /\ t v σ H fun σ' H' => u r σ' H' Q
theorem m9 : PGs X [] gNil := by
 intro pins s σ H vs us Q I r h
 obtain ⟨e, h⟩ := h
 subst e
 cases r
 exact assignInOrder_nil ⟨σ, H, I, h⟩
theorem w4 {e : Expr} {es : List Expr} {t : TG} {u : TGs} (h1 : PG X e t) (h2 : PGs X es u)
  (hs : (assignEach (e :: es) X.env).map (·.2) = assign e X.env :: (assignEach es X.env).map (·.2) := by rfl) : PGs X (e :: es) (yh9 t u) := by
 intro pins s σ H vs us Q I r h
 obtain ⟨v, vr, e1, h⟩ := h
 subst e1
 cases r with
 | cons r rr =>
  rw [hs]
  refine assignInOrder_cons (thn (h1 pins s σ H _ _ _ I r h) fun _ s1 hpat => ?_)
  obtain ⟨σ1, H1, I1, q1⟩ := hpat
  exact h2 pins s1 σ1 H1 _ _ Q I1 rr q1
def gTup (K : W.Frag) (n : Nat) (t : TGs) : TG := fun v σ H Q => ∃ a xs, v = .ref a /\ SqT K H a xs /\ xs.length = n /\ t xs σ H Q
theorem a9 {es : List Expr} {k : Nat} {t : TGs} {n : Nat} (hc : X.calm = true) (h : PGs X es t)
  (hn : (assignEach es X.env).length = n := by rfl) (hst : (assignEach es X.env).findIdx? (·.1) = none := by rfl) : PG X (.Tuple es k pos) (gTup X.K n t) := by
 intro pins s σ H v u Q I r hw
 obtain ⟨a, xs, e1, hq, hl, hw⟩ := hw
 subst e1
 cases r
 obtain ⟨its, rv, ht, hz⟩ := I.tuple hq
 refine assign_Tuple_tuple (I.ok.hd hc) ht (by simp [hn, <- hl, rv.length]) hst fun h' hx => ?_
 have I1 : Inv X pins σ H { s with heap := h' } := I.kept (t' := s.toks) fun b o e => hx b o (Nat.ne_of_lt (Heap.lt_size e)) e
 exact h pins _ σ H xs _ Q I1 (by simpa using rv) hw
def gSub (to ti : TE) (t : TSet) : TG := fun v σ H Q => to σ H fun o H1 => ti σ H1 fun i H2 => t o i v H2 fun H3 => Q σ H3
theorem R8 {o i : Expr} {to ti : TE} {t : TSet} (ho : PE X o to) (hi : PE X i ti) (hs : PSet X t)
  (ha : ∀ v, assign (.Subscript o i pos) X.env v = (do
   let ov ← holding [v] (eval o X.env)
   let iv ← holding [v, ov] (eval i X.env)
   standAt pos
   holding [v, ov, iv] (setItem ov iv v)
   release [v, ov, iv] []) := by intro _; rfl) : PG X (.Subscript o i pos) (gSub to ti t) := by
 intro pins s σ H v u Q I r h
 rw [ha]
 refine wpAny_bind (wpAny_holding (thn (ho pins s σ H _ I h) fun ov s1 hpat => ?_))
 obtain ⟨x, H1, I1, r1, q1⟩ := hpat
 refine wpAny_bind (wpAny_holding (thn (hi pins s1 σ H1 _ I1 q1) fun iv s2 hpat => ?_))
 obtain ⟨y, H2, I2, r2, q2⟩ := hpat
 refine wpAny_bind (wpAny_standAt (wpAny_bind (wpAny_holding (thn (hs pins s2 σ H2 x y v ov iv u _ I2 r1 r2 r q2) fun _ s3 hpat => ?_))))
 obtain ⟨H3, I3, q3⟩ := hpat
 exact wpAny_release ⟨σ, H3, I3, q3⟩
def tAsg (te : TE) (g : TG) : TS := fun D σ H => te σ H fun x H1 => g x σ H1 D.nx
theorem l7 {tg e : Expr} {te : TE} {g : TG} (he : PE X e te) (hg : PG X tg g) (hs : swapsWithSole [tg] e pos.line X.env = pure false := by rfl) (hw : swappedStores [tg] e X.env = pure none := by rfl)
  (h1 : (assignEach [tg] X.env).map (·.2) = [assign tg X.env] := by rfl) : PS X (.Assign [tg] e pos) (tAsg te g) := by
 intro pins s σ H D I h
 refine wpAny_Assign_stores (thn (he pins s σ H _ I h) fun v s1 hpat => ?_) hs hw
 obtain ⟨x, H1, I1, r1, q1⟩ := hpat
 rw [h1]
 exact thn (hg pins s1 σ H1 x v _ I1 r1 q1) fun _ s2 q => q
theorem zh2 {i : Nat} {x : Str} {e : Expr} {te : TE} {pos' : Pos} (hN : X.N.Nodup) (hi : X.N[i]? = some x) (hx : Loc X.env.scope x) (he : PE X e te) (hs : swapsWith e (some (.Name x pos')) pos.line X.env = pure false := by rfl) (hf : X.fn x = true \/ X.env.scope.names.lookup x = some .local := by first | exact .inl rfl | exact .inr rfl | assumption) :
  PS X (.Assign [.Name x pos'] e pos) (tAsg te (M1 i)) := by
 intro pins s σ H D I h
 refine wpAny_Assign_Name (thn (he pins s σ H _ I h) fun v s1 hpat => ?_) hs
 obtain ⟨y, H1, I1, r1, q1⟩ := hpat
 exact zi8 I1 hN hi hx r1 (fun s2 I2 => ⟨_, H1, I2, q1⟩) hf
end
section
variable {X : Cx} {pos : Pos}
def xp5 (c : TT) (tb : TS) : TS := fun D σ H => ∃ W : Nat -> St -> Hp -> Prop, (∃ m, W m σ H) /\ ∀ m σ H, W m σ H ->
 c σ H fun b H1 => if b = true then ∃ N : St -> Hp -> Prop, (∀ σ' H', N σ' H' -> ∃ m', m' < m /\ W m' σ' H') /\ tb { D with nx := N, ct := N, bk := D.nx } σ H1 else D.nx σ H1
theorem ym9 {c : Expr} {body : List Stmt} {tc : TT} {tb : TS} (hp : PassesOwn (model X.prog X.w) X.A X.env X.xe) (hc : PT X c tc) (hb : PSs X body tb) : PS X (.While c body [] pos) (xp5 tc tb) := by
 intro pins s σ H D I h
 obtain ⟨W, ⟨m0, w0⟩, turn⟩ := h
 refine wpAny_While (codeAny_whileLoop (fun n s' => ∃ σ' H', Inv X pins σ' H' s' /\ W n σ' H') ?_ m0 ⟨σ, H, I, w0⟩)
 rintro n s1 ⟨σ1, H1, I1, w1⟩
 refine wpAny_passesOwn hp (thn (hc pins s1 σ1 H1 _ I1 (turn n σ1 H1 w1)) fun b s2 hpat => ?_)
 obtain ⟨H2, I2, q2⟩ := hpat
 cases b with
 | true =>
  obtain ⟨N, hN, q2⟩ := q2
  rw [if_pos rfl]
  refine wpAny_passesOwn hp (thn (hb pins s2 σ1 H2 _ I2 q2) fun f s3 q3 => ?_)
  cases f with
  | next =>
   obtain ⟨σ3, H3, I3, n3⟩ := q3
   obtain ⟨m', hm, w3⟩ := hN σ3 H3 n3
   exact ⟨m', hm, σ3, H3, I3, w3⟩
  | cont =>
   obtain ⟨σ3, H3, I3, n3⟩ := q3
   obtain ⟨m', hm, w3⟩ := hN σ3 H3 n3
   exact ⟨m', hm, σ3, H3, I3, w3⟩
  | brk => exact q3
  | ret v => exact q3
 | false =>
  rw [if_neg Bool.false_ne_true]
  exact wpAny_execs_nil ⟨σ1, H2, I2, q2⟩
end
structure It where
 go : Nat -> Hp -> Prop
 yld : Nat -> Hp -> V -> Hp -> Prop
 stop : Nat -> Hp -> Prop
def FpOk (X : Cx) (pins : List (Addr × Obj)) (H : Hp) (b : Addr) : Prop :=
 H b = none /\ b ≠ X.env.locals /\ b ∉ X.fs /\ (b ∈ X.ex \/ X.s₀.heap.objs.size <= b) /\ (∀ x c, X.env.cells.lookup x = some c -> c ≠ b) /\ ∀ p ∈ X.pn ++ pins, p.1 ≠ b
theorem Inv.fpOk {X : Cx} {pins : List (Addr × Obj)} {σ : St} {H H' : Hp} {s : Shared} {b : Addr} (I : Inv X pins σ H s) (hb : s.heap.objs.size <= b) (hn : H' b = none) : FpOk X pins H' b := by
 refine ⟨hn, Nat.ne_of_gt (Nat.lt_of_lt_of_le I.lt hb), I.nofs hb, .inr (Nat.le_trans I.sz hb), fun x c e z => ?_, fun p hp z => ?_⟩
 ·obtain ⟨v, q⟩ := I.cell x c e
  exact absurd (Nat.lt_of_lt_of_le q.lt (by rw [z]; exact hb)) (Nat.lt_irrefl _)
 ·exact absurd (Nat.lt_of_lt_of_le (Heap.lt_size (I.pin p hp).1) (by rw [z]; exact hb)) (Nat.lt_irrefl _)
structure Turn (P : Program) (w : World) (K : W.Frag) (tg : Expr) (J : It) (fp : List Addr) (it : Addr) (tn : Nat -> Heap -> Prop) : Prop where
 mem : it ∈ fp
 obj : ∀ i h, tn i h -> ∀ b ∈ fp, ∃ o, h.get? b = some o /\ ∀ v, o.data ≠ .cell v
 keep : ∀ i h h', tn i h -> (∀ b ∈ fp, ∀ o, h.get? b = some o -> h'.get? b = some o) -> tn i h'
 item : ∀ (X : Cx), X.prog = P -> X.w = w -> X.K = K -> X.calm = true -> ∀ (i : Nat) (pins : List (Addr × Obj)) (s : Shared) (σ : St) (H : Hp) (E : Value -> Shared -> Prop), Inv X pins σ H s -> (∀ b ∈ fp, FpOk X pins H b) -> tn i s.heap -> J.go i H ->
  wpAny (model P w) X.A (pyNext (.ref it)) (fun r s1 => ∃ u, r = some u /\
   wpAny (model P w) X.A (letOwnedTupleGo tg (.ref it) u) (fun _ s2 => ∃ x H', Inv X pins σ H' s2 /\ RelV x u /\ J.yld i H x H' /\ tn (i + 1) s2.heap /\ ∀ b ∈ fp, H' b = none) E s1) E s
 done : ∀ (X : Cx), X.prog = P -> X.w = w -> X.K = K -> X.calm = true -> ∀ (i : Nat) (pins : List (Addr × Obj)) (s : Shared) (σ : St) (H : Hp) (E : Value -> Shared -> Prop), Inv X pins σ H s -> (∀ b ∈ fp, FpOk X pins H b) -> tn i s.heap -> J.stop i H ->
  wpAny (model P w) X.A (pyNext (.ref it)) (fun r s1 => r = none /\ Inv X pins σ H s1) E s
 self : ∀ (A : Around) (i : Nat) (s : Shared) (Q : Value -> Shared -> Prop) (E : Value -> Shared -> Prop), tn i s.heap -> Q (.ref it) s -> wpAny (model P w) A (pyIter (.ref it)) Q E s
abbrev TI := St -> Hp -> (It -> Hp -> Prop) -> Prop
def PIE (X : Cx) (pins : List (Addr × Obj)) (σ : St) (tg : Expr) (R : It -> Hp -> Prop) (itv : Value) (s2 : Shared) : Prop :=
 ∃ (it : Addr) (fp : List Addr) (tn : Nat -> Heap -> Prop) (J : It) (H' : Hp), itv = .ref it /\ Inv X pins σ H' s2 /\ Turn X.prog X.w X.K tg J fp it tn /\ tn 0 s2.heap /\ (∀ b ∈ fp, FpOk X pins H' b) /\ R J H'
def PI (X : Cx) (tg iter : Expr) (wi : TI) : Prop :=
 ∀ (pins : List (Addr × Obj)) (s : Shared) (σ : St) (H : Hp) (R : It -> Hp -> Prop), Inv X pins σ H s -> wi σ H R ->
  wpAny (model X.prog X.w) X.A (eval iter X.env) (fun v s1 => wpAny (model X.prog X.w) X.A (pyIter v) (PIE X pins σ tg R) X.xe s1) X.xe s
theorem xu0 {M : Model} {A : Around} {E : Value -> Shared -> Prop} {s : Shared} {tg : Expr} {it : Addr} {u : Value} {o : Obj} {n : String} {vs : Array Value} {Q : Unit -> Shared -> Prop} (ho : s.heap.get? it = some o) (hc : o.cls = .type n) (hd : o.data = .fields vs)
  (hn : ["enumerate", "zip", "dict_itemiterator", "dict_reverseitemiterator", "odict_iterator", "itertools.zip_longest", "itertools.pairwise"].contains n = false) (hQ : Q () s) : wpAny M A (letOwnedTupleGo tg (.ref it) u) Q E s := by
 unfold letOwnedTupleGo
 cases tg <;> first
  | exact wpAny_pure hQ
  | (cases u <;> first
    | exact wpAny_pure hQ
    | (refine wpAny_bind (wpAny_load ho ?_)
       rw [hc, hd]
       show wpAny M A (if (["enumerate", "zip", "dict_itemiterator", "dict_reverseitemiterator", "odict_iterator", "itertools.zip_longest", "itertools.pairwise"].contains n && vs[0]? == some (rawInt _)) = true then _ else _) Q E s
       rw [if_neg (by intro h; rw [hn, Bool.false_and] at h; cases h)]
       exact wpAny_pure hQ))
def Itl (K : W.Frag) (a : Addr) : It :=
 ⟨fun i H => ∃ xs x, SqL K H a xs /\ xs[i]? = some x, fun i H x H' => H' = H /\ ∀ xs, SqL K H a xs -> xs[i]? = some x, fun i H => ∃ xs, SqL K H a xs /\ xs.length <= i⟩
def Itr (lo : Int) (n : Nat) : It := ⟨fun i _ => i < n, fun i H x H' => H' = H /\ x = .int (lo + i), fun i _ => n <= i⟩
theorem yz0 {P : Program} {w : World} {K : W.Frag} {tg : Expr} (a it : Addr) : Turn P w K tg (Itl K a) [it] it (fun i h => h.IsListIter it a i) where
 mem := by simp
 obj := fun i h st b hb => by
  have e : b = it := by simpa using hb
  subst e
  obtain ⟨o, e, c, d⟩ := st
  exact ⟨o, e, fun v z => by rw [d] at z; cases z⟩
 keep := fun i h h' st k => st.at fun o e => k it (by simp) o e
 item := by
  intro X hP hw hK hc i pins s σ H E I hf st hg
  subst hP hw hK
  obtain ⟨xs, x, hq, hx⟩ := hg
  obtain ⟨its, rv, p, hz⟩ := I.list hq
  obtain ⟨u, hu, ru⟩ := rv.get hx
  obtain ⟨f0, f1, f2, f3, f4, f5⟩ := hf it (by simp)
  refine wpAny_pyNext_list_item st p.isList (x := u) (by simpa using hu) fun h' st' sb => ?_
  have I1 : Inv X pins σ H { s with heap := h' } := I.turned (t' := s.toks) (fun b o hb e => (sb.2 b hb).trans e) f0 f1 f3 f4 f5
  obtain ⟨o, e, c, d⟩ := id st'
  exact ⟨u, rfl, xu0 (s := { s with heap := h' }) e c d (by decide) ⟨x, H, I1, ru, ⟨rfl, fun ys hy => by rw [I.list_inj hy hq]; exact hx⟩, st', fun b hb => (hf b hb).1⟩⟩
 done := by
  intro X hP hw hK hc i pins s σ H E I hf st hg
  subst hP hw hK
  obtain ⟨xs, hq, hx⟩ := hg
  obtain ⟨its, rv, p, hz⟩ := I.list hq
  obtain ⟨f0, f1, f2, f3, f4, f5⟩ := hf it (by simp)
  have hl := rv.length
  exact wpAny_pyNext_list_end (I.ok.hd hc) st p.isList (by simp; omega) fun h' eb => ⟨rfl, I.turned (t' := s.toks) (fun b o hb e => eb b o hb e) f0 f1 f3 f4 f5⟩
 self := fun _ _ _ _ _ st h => wpAny_pyIter_listiter st h
theorem zd3 {P : Program} {w : World} {K : PySem.W.Frag} {tg : Expr} (it : Addr) (lo : Int) (n : Nat) : Turn P w K tg (Itr lo n) [it] it (fun i h => IsRangeIter h it (lo + (i : Nat) * 1) ((n : Int) - (i : Nat)) 1) where
 mem := by simp
 obj := fun i h st b hb => by
  have e : b = it := by simpa using hb
  subst e
  exact ⟨_, st, fun v z => by
   have z' : Data.fields _ = Data.cell v := z
   cases z'⟩
 keep := fun i h h' st k => k it (by simp) _ st
 item := by
  intro X hP hw hK hc i pins s σ H E I hf st hg
  subst hP hw hK
  obtain ⟨f0, f1, f2, f3, f4, f5⟩ := hf it (by simp)
  have W := Walks.range (prog := X.prog) (w := X.w) (I.ok.hd hc) it lo 1 n
  refine W.item i s _ _ hg st fun v h' tk hv st' kk => ?_
  obtain ⟨t, rfl⟩ := hv
  have I1 : Inv X pins σ H { s with heap := h', toks := tk } := I.turned (fun b o hb e => kk b o (by simpa using hb) e) f0 f1 f3 f4 f5
  refine ⟨_, rfl, xu0 (s := { s with heap := h', toks := tk }) (n := "range_iterator") st' rfl rfl (by decide) ⟨.int (lo + i), H, I1, ⟨t, ?_⟩, ⟨rfl, rfl⟩, st', fun b hb => (hf b hb).1⟩⟩
  rw [Int.mul_one]
 done := by
  intro X hP hw hK hc i pins s σ H E I hf st hg
  subst hP hw hK
  obtain ⟨f0, f1, f2, f3, f4, f5⟩ := hf it (by simp)
  exact wpAny_pyNext_range_end (I.ok.hd hc) st (by have : n <= i := hg; omega) fun h' eb => ⟨rfl, I.turned (t' := s.toks) (fun b o hb e => eb b o hb e) f0 f1 f3 f4 f5⟩
 self := fun _ _ _ _ _ st h => wpAny_pyIter_rangeiter st h
end
section
section
variable {X : Cx} {tg : Expr}
def xb8 (K : W.Frag) (tl : TE) : TI := fun σ H R => tl σ H fun x H1 => ∃ a, x = .ref a /\ (∃ xs, SqL K H1 a xs) /\ R (Itl K a) H1
theorem xy1 {l : Expr} {tl : TE} (hl : PE X l tl) : PI X tg l (xb8 X.K tl) := by
 intro pins s σ H R I h
 refine thn (hl pins s σ H _ I h) fun v s1 hpat => ?_
 obtain ⟨x, H1, I1, r1, q1⟩ := hpat
 obtain ⟨a, e, ⟨xs, hq⟩, q⟩ := q1
 subst e
 cases r1
 obtain ⟨its, rv, p, hz⟩ := I1.list hq
 refine wpAny_pyIter_list p.isList ?_
 refine ⟨s1.heap.objs.size, [s1.heap.objs.size], _, _, H1, rfl, I1.kept (t' := s1.toks) fun b o e => Heap.get?_push_of_some _ e, yz0 a _, ⟨_, Heap.get?_push_size _ rfl, rfl, rfl⟩, fun b hb => ?_, q⟩
 have e : b = s1.heap.objs.size := by simpa using hb
 subst e
 exact I1.fpOk (Nat.le_refl _) (I1.hok.fresh (Nat.le_refl _))
theorem zh1 {pins : List (Addr × Obj)} {σ : St} {H : Hp} {s : Shared} {R : It -> Hp -> Prop} {E : Value -> Shared -> Prop} {lo hi : Int} {t u v : Tok} {tk : Nat} (I : Inv X pins σ H s) (h1 : -(2 ^ 62) <= lo) (h2 : lo < 2 ^ 62) (h3 : -(2 ^ 62) <= hi) (h4 : hi < 2 ^ 62)
  (q : R (Itr lo (hi - lo).toNat) H) : wpAny (model X.prog X.w) X.A (pyIter (.ref s.heap.objs.size)) (PIE X pins σ tg R) E { s with heap := s.heap.push { cls := .type "range", data := .fields #[.int lo t, .int hi u, .int 1 v] }, toks := tk } := by
 refine wpAny_pyIter_range (IsRange.new ..) (small_one h1 h2 h3 h4) ?_
 have I1 : Inv X pins σ H { s with heap := s.heap.push { cls := .type "range", data := .fields #[.int lo t, .int hi u, .int 1 v] }, toks := tk } := I.kept fun b o e => Heap.get?_push_of_some _ e
 refine ⟨(s.heap.push { cls := .type "range", data := .fields #[.int lo t, .int hi u, .int 1 v] }).objs.size, [(s.heap.push { cls := .type "range", data := .fields #[.int lo t, .int hi u, .int 1 v] }).objs.size], _, _, H, rfl,
  I1.kept (t' := tk) fun b o e => Heap.get?_push_of_some _ e, zd3 _ lo (hi - lo).toNat, ?_, fun b hb => ?_, q⟩
 ·have e1 : lo + ((0 : Nat) : Int) * 1 = lo := by simp
  have e2 : (((hi - lo).toNat : Nat) : Int) - ((0 : Nat) : Int) = Builtin.Range.rangeSize lo hi 1 := by rw [rangeSize_one]; split <;> omega
  show IsRangeIter _ _ (lo + ((0 : Nat) : Int) * 1) ((((hi - lo).toNat : Nat) : Int) - ((0 : Nat) : Int)) 1
  rw [e1, e2]
  exact Heap.get?_push_size _ rfl
 ·have e : b = (s.heap.push { cls := .type "range", data := .fields #[.int lo t, .int hi u, .int 1 v] }).objs.size := by simpa using hb
  subst e
  exact I1.fpOk (Nat.le_refl _) (I1.hok.fresh (Nat.le_refl _))
def xb7 (ta : TA) : TI := fun σ H R => ta σ H fun vs H1 => ∃ j : Int, vs = [.int j] /\ -(2 ^ 62) <= j /\ j < 2 ^ 62 /\ R (Itr 0 j.toNat) H1
def xb6 (ta : TA) : TI := fun σ H R => ta σ H fun vs H1 => ∃ i j : Int, vs = [.int i, .int j] /\ (-(2 ^ 62) <= i /\ i < 2 ^ 62 /\ -(2 ^ 62) <= j /\ j < 2 ^ 62) /\ R (Itr i (j - i).toNat) H1
theorem yw4 {a : Expr} {ta : TA} {p pos : Pos} (hg : Gl X "range") (hm : X.mg "range" = none) (ha : PA X [a] ta) (hs : starEach [a] X.env = [(false, eval a X.env)] := by rfl) : PI X tg (.Call (.Name "range" p) [a] [] pos) (xb7 ta) := by
 intro pins s σ H R I h
 refine Call_ (Y8 I hg hm boot_range (PyProof.Rows.callWith_type1 (thn (ha pos pins s σ H _ I h) fun us s1 hpat => ?_) hs rfl))
 obtain ⟨vs, H1, I1, r1, q1⟩ := hpat
 obtain ⟨j, e, q1, q2, q⟩ := q1
 subst e
 cases r1 with
 | cons r rr =>
  cases rr
  obtain ⟨t, rfl⟩ := r
  exact call_range_1 (zh1 I1 (by omega) (by omega) q1 q2 (by simpa using q))
theorem yw3 {a b : Expr} {ta : TA} {p pos : Pos} (hg : Gl X "range") (hm : X.mg "range" = none) (ha : PA X [a, b] ta) (hs : starEach [a, b] X.env = [(false, eval a X.env), (false, eval b X.env)] := by rfl) (hs2 : starEach [b] X.env = [(false, eval b X.env)] := by rfl) :
  PI X tg (.Call (.Name "range" p) [a, b] [] pos) (xb6 ta) := by
 intro pins s σ H R I h
 refine Call_ (Y8 I hg hm boot_range (PyProof.Rows.callWith_type1 (thn (ha pos pins s σ H _ I h) fun us s1 hpat => ?_) (by rw [hs, hs2]) (by rw [hs2]; rfl)))
 obtain ⟨vs, H1, I1, r1, q1⟩ := hpat
 obtain ⟨i, j, e, ⟨q1, q2, q3, q4⟩, q⟩ := q1
 subst e
 cases r1 with
 | cons r rr =>
  cases rr with
  | cons r' rr =>
   cases rr
   obtain ⟨t, rfl⟩ := r
   obtain ⟨t', rfl⟩ := r'
   exact call_range_2 (zh1 I1 q1 q2 q3 q4 q)
def tFor (wi : TI) (g : TG) (tb : TS) : TS := fun D σ H => wi σ H fun J H1 => ∃ W : Nat -> Nat -> St -> Hp -> Prop, (∃ m, W 0 m σ H1) /\ ∀ i m σ H, W i m σ H ->
 (J.stop i H /\ D.nx σ H) \/ (J.go i H /\ ∃ N : St -> Hp -> Prop, (∀ σ' H', N σ' H' -> ∃ m', m' < m /\ W (i + 1) m' σ' H') /\ ∀ x H', J.yld i H x H' -> g x σ H' fun σ2 H2 => tb { D with nx := N, ct := N, bk := D.nx } σ2 H2)
def zu5 (fp : List Addr) (h : Heap) : List (Addr × Obj) := fp.filterMap fun b => (h.get? b).map fun o => (b, o)
theorem U4 {fp : List Addr} {h : Heap} {b : Addr} {o : Obj} (hb : b ∈ fp) (e : h.get? b = some o) : (b, o) ∈ zu5 fp h := List.mem_filterMap.mpr ⟨b, hb, by rw [e]; rfl⟩
theorem yu2 {fp : List Addr} {h : Heap} {p : Addr × Obj} (hp : p ∈ zu5 fp h) : p.1 ∈ fp /\ h.get? p.1 = some p.2 := by
 obtain ⟨b, hb, e⟩ := List.mem_filterMap.mp hp
 cases q : h.get? b with
 | none => rw [q] at e; cases e
 | some o =>
  rw [q] at e
  have e' : (b, o) = p := Option.some.inj e
  subst e'
  exact ⟨hb, q⟩
theorem Inv.pinned {pins : List (Addr × Obj)} {σ : St} {H : Hp} {s : Shared} {fp : List Addr} (I : Inv X pins σ H s) (hf : ∀ b ∈ fp, FpOk X pins H b) (ho : ∀ b ∈ fp, ∃ o, s.heap.get? b = some o /\ ∀ v, o.data ≠ .cell v) : Inv X (pins ++ zu5 fp s.heap) σ H s :=
 I.pins_of fun p hp => (List.mem_append.mp hp).elim (fun z => I.pin p (mem_append_right _ z)) fun z => by
  obtain ⟨hb, e⟩ := yu2 z
  obtain ⟨f0, f1, f2, _⟩ := hf p.1 hb
  obtain ⟨o, e', d⟩ := ho p.1 hb
  rw [e] at e'; cases e'
  exact ⟨e, f0, f1, f2, d⟩
theorem Inv.unpinned {pins pl : List (Addr × Obj)} {σ : St} {H : Hp} {s : Shared} (I : Inv X (pins ++ pl) σ H s) : Inv X pins σ H s := I.pins_of fun p hp => I.pin p (mem_append_right _ (mem_append_left _ hp))
theorem yx9 {iter : Expr} {body : List Stmt} {wi : TI} {g : TG} {tb : TS} {pos : Pos} (hp : PassesOwn (model X.prog X.w) X.A X.env X.xe) (hc : X.calm = true) (hi : PI X tg iter wi) (hg : PG X tg g) (hb : PSs X body tb)
  (hs : ∀ x, foldedSetIterable iter X.env x = pure x := by intro _; rfl) : PS X (.For tg iter body [] pos) (tFor wi g tb) := by
 intro pins s σ H D I h
 refine wpAny_For (thn (hi pins s σ H _ I h) fun v s1 h1 => thn h1 fun itv s2 h2 => ?_) hs
 obtain ⟨it, fp, tn, J, H2, e, I2, T, st2, f2, W, ⟨m0, w0⟩, turn⟩ := h2
 subst e
 have stat : ∀ {H' : Hp}, (∀ b ∈ fp, H' b = none) -> ∀ b ∈ fp, FpOk X pins H' b := fun hn b hb => ⟨hn b hb, (f2 b hb).2⟩
 refine codeAny_forLoop_any (fun n s' => ∃ i σ' H', Inv X pins σ' H' s' /\ tn i s'.heap /\ (∀ b ∈ fp, H' b = none) /\ W i n σ' H') ?_ m0 ⟨0, σ, H2, I2, st2, fun b hb => (f2 b hb).1, w0⟩
 rintro n s3 ⟨i, σ3, H3, I3, st3, fr3, w3⟩
 rcases turn i n σ3 H3 w3 with ⟨stop, qn⟩ | ⟨go, N, hN, step⟩
 ·refine wpAny_passesOwn hp (thn (T.done X rfl rfl rfl hc i pins s3 σ3 H3 X.xe I3 (stat fr3) st3 stop) fun r s4 ⟨hr, I4⟩ => ?_)
  subst hr
  exact wpAny_execs_nil ⟨σ3, H3, I4, qn⟩
 ·refine wpAny_passesOwn hp (thn (T.item X rfl rfl rfl hc i pins s3 σ3 H3 X.xe I3 (stat fr3) st3 go) fun r s4 ⟨u, hr, h4⟩ => ?_)
  subst hr
  refine wpAny_passesOwn hp (thn h4 fun _ s5 hpat => ?_)
  obtain ⟨x, H5, I5, r5, y5, st5, fr5⟩ := hpat
  have I5' := I5.pinned (stat fr5) (T.obj _ _ st5)
  refine wpAny_passesOwn hp (thn (hg _ s5 σ3 H5 x u _ I5' r5 (step x H5 y5)) fun _ s6 hpat => ?_)
  obtain ⟨σ6, H6, I6, q6⟩ := hpat
  refine wpAny_passesOwn hp (thn (hb _ s6 σ6 H6 _ I6 q6) fun f s7 q7 => ?_)
  have again : ∀ {σ7 : St} {H7 : Hp}, Inv X (pins ++ zu5 fp s5.heap) σ7 H7 s7 -> N σ7 H7 -> ∃ m, m < n /\ ∃ i σ' H', Inv X pins σ' H' s7 /\ tn i s7.heap /\ (∀ b ∈ fp, H' b = none) /\ W i m σ' H' := fun {σ7 H7} I7 n7 => by
   obtain ⟨m', hm, w7⟩ := hN σ7 H7 n7
   refine ⟨m', hm, i + 1, σ7, H7, I7.unpinned, T.keep _ _ _ st5 fun b hb o e => (I7.pin (b, o) (mem_append_right _ (mem_append_right _ (U4 hb e)))).1, fun b hb => ?_, w7⟩
   obtain ⟨o, e, d⟩ := T.obj _ _ st5 b hb
   exact (I7.pin (b, o) (mem_append_right _ (mem_append_right _ (U4 hb e)))).2.1
  cases f with
  | next => obtain ⟨σ7, H7, I7, n7⟩ := q7; exact again I7 n7
  | cont => obtain ⟨σ7, H7, I7, n7⟩ := q7; exact again I7 n7
  | brk => obtain ⟨σ7, H7, I7, q7⟩ := q7; exact ⟨σ7, H7, I7.unpinned, q7⟩
  | ret v => obtain ⟨x7, σ7, H7, I7, r7, q7⟩ := q7; exact ⟨x7, σ7, H7, I7.unpinned, r7, q7⟩
end
end
section
abbrev R2 := V -> V -> Hp -> VK -> Prop
def OpR (X : Cx) (f : Value -> Value -> Sem Value) (r : R2) : Prop :=
 ∀ (pins : List (Addr × Obj)) (s : Shared) (σ : St) (H : Hp) (x y : V) (v u : Value) (Q : VK), Inv X pins σ H s -> RelV x v -> RelV y u -> r x y H Q ->
  wpAny (model X.prog X.w) X.A (f v u) (EP X pins σ Q) X.xe s
def UnR (X : Cx) (f : Value -> Sem Value) (r : V -> Hp -> VK -> Prop) : Prop :=
 ∀ (pins : List (Addr × Obj)) (s : Shared) (σ : St) (H : Hp) (x : V) (v : Value) (Q : VK), Inv X pins σ H s -> RelV x v -> r x H Q ->
  wpAny (model X.prog X.w) X.A (f v) (EP X pins σ Q) X.xe s
def zp7 (X : Cx) (f : Value) (r : List V -> Hp -> VK -> Prop) : Prop :=
 ∀ (pins : List (Addr × Obj)) (s : Shared) (σ : St) (H : Hp) (xs : List V) (us : List Value) (Q : VK), Inv X pins σ H s -> Vals xs us -> r xs H Q ->
  wpAny (model X.prog X.w) X.A (call f us) (EP X pins σ Q) X.xe s
def TruR (X : Cx) (r : V -> Hp -> (Bool -> Hp -> Prop) -> Prop) : Prop :=
 ∀ (pins : List (Addr × Obj)) (s : Shared) (σ : St) (H : Hp) (x : V) (v : Value) (Q : Bool -> Hp -> Prop), Inv X pins σ H s -> RelV x v -> r x H Q ->
  wpAny (model X.prog X.w) X.A (truthy v) (TP X pins σ Q) X.xe s
def tOp (r : R2) (ta tb : TE) : TE := fun σ H Q => ta σ H fun x H1 => tb σ H1 fun y H2 => r x y H2 Q
def tUn (r : V -> Hp -> VK -> Prop) (ta : TE) : TE := fun σ H Q => ta σ H fun x H1 => r x H1 Q
def rI (C : Int -> Int -> Prop) (g : Int -> Int -> V) : R2 := fun x y H Q => ∃ i j, x = .int i /\ y = .int j /\ C i j /\ Q (g i j) H
def rI0 (g : Int -> Int -> V) : R2 := fun x y H Q => ∃ i j, x = .int i /\ y = .int j /\ Q (g i j) H
def rU (g : Int -> V) : V -> Hp -> VK -> Prop := fun x H Q => ∃ i, x = .int i /\ Q (g i) H
section
variable {X : Cx} {a b c : Expr} {ta tb tc : TE} {pos : Pos}
theorem binT (ha : PE X a ta) (hb : PE X b tb) {pins : List (Addr × Obj)} {s : Shared} {σ : St} {H : Hp} {R : V -> V -> Hp -> Prop} (I : Inv X pins σ H s)
  (h : ta σ H fun x H1 => tb σ H1 fun y H2 => R x y H2) {Q : Value -> Shared -> Prop} {f : Value -> Value -> Sem Value}
  (hf : ∀ v u s2 x y H2, Inv X pins σ H2 s2 -> RelV x v -> RelV y u -> R x y H2 -> wpAny (model X.prog X.w) X.A (f v u) Q X.xe s2) :
  wpAny (model X.prog X.w) X.A (eval a X.env) (fun v s₁ => wpAny (model X.prog X.w) X.A (eval b X.env) (fun u s₂ => wpAny (model X.prog X.w) X.A (f v u) Q X.xe s₂) X.xe s₁) X.xe s := by
 refine thn (ha pins s σ H _ I h) fun v s1 hpat => ?_
 obtain ⟨x, H1, I1, r1, q1⟩ := hpat
 refine thn (hb pins s1 σ H1 _ I1 q1) fun u s2 hpat => ?_
 obtain ⟨y, H2, I2, r2, q2⟩ := hpat
 exact hf v u s2 x y H2 I2 r1 r2 q2
theorem yk3 {op : Operator} {r : R2} (ho : OpR X (binaryOp op) r) (ha : PE X a ta) (hb : PE X b tb) : PE X (.BinOp a op b pos) (tOp r ta tb) := by
 intro pins s σ H Q I h
 exact wpAny_BinOp (binT ha hb I h fun v u s2 x y H2 I2 rx ry q => ho pins s2 σ H2 x y v u Q I2 rx ry q)
theorem xd8 {op : UnaryOp} {r : V -> Hp -> VK -> Prop} (ho : UnR X (unaryOp op) r) (ha : PE X a ta) : PE X (.UnaryOp op a pos) (tUn r ta) := by
 intro pins s σ H Q I h
 exact UnaryOp_ (thn (ha pins s σ H _ I h) fun v s1 ⟨x, H1, I1, r1, q1⟩ => ho pins s1 σ H1 x v Q I1 r1 q1)
theorem opI {f : Value -> Value -> Sem Value} {C : Int -> Int -> Prop} {g : Int -> Int -> Int}
  (rule : ∀ (i j : Int) (t u : Tok) (s : Shared) (Q : Value -> Shared -> Prop) (E : Value -> Shared -> Prop), C i j -> Q (.int (g i j) s.toks) { s with toks := s.toks + 1 } -> wpAny (model X.prog X.w) X.A (f (.int i t) (.int j u)) Q E s) :
  OpR X f (rI C fun i j => .int (g i j)) := by
 intro pins s σ H x y v u Q I rx ry h
 obtain ⟨i, j, rfl, rfl, hc, q⟩ := h
 obtain ⟨t, rfl⟩ := rx
 obtain ⟨t', rfl⟩ := ry
 exact rule i j t t' s _ _ hc ⟨.int (g i j), H, I.tok _, ⟨_, rfl⟩, q⟩
theorem opI0 {f : Value -> Value -> Sem Value} {g : Int -> Int -> Int}
  (rule : ∀ (i j : Int) (t u : Tok) (s : Shared) (Q : Value -> Shared -> Prop) (E : Value -> Shared -> Prop), Q (.int (g i j) s.toks) { s with toks := s.toks + 1 } -> wpAny (model X.prog X.w) X.A (f (.int i t) (.int j u)) Q E s) :
  OpR X f (rI0 fun i j => .int (g i j)) := by
 intro pins s σ H x y v u Q I rx ry h
 obtain ⟨i, j, rfl, rfl, q⟩ := h
 obtain ⟨t, rfl⟩ := rx
 obtain ⟨t', rfl⟩ := ry
 exact rule i j t t' s _ _ ⟨.int (g i j), H, I.tok _, ⟨_, rfl⟩, q⟩
theorem opB0 {f : Value -> Value -> Sem Value} {g : Int -> Int -> Bool}
  (rule : ∀ (i j : Int) (t u : Tok) (s : Shared) (Q : Value -> Shared -> Prop) (E : Value -> Shared -> Prop), Q (.bool (g i j)) s -> wpAny (model X.prog X.w) X.A (f (.int i t) (.int j u)) Q E s) :
  OpR X f (rI0 fun i j => .bl (g i j)) := by
 intro pins s σ H x y v u Q I rx ry h
 obtain ⟨i, j, rfl, rfl, q⟩ := h
 obtain ⟨t, rfl⟩ := rx
 obtain ⟨t', rfl⟩ := ry
 exact rule i j t t' s _ _ ⟨.bl (g i j), H, I, rfl, q⟩
def CDiv (i j : Int) : Prop := 0 < j /\ j < 1073741824
def CPow (i j : Int) : Prop := 0 <= j /\ j <= 1000000 /\ i.natAbs < 2 ^ 64
def CMul (i j : Int) : Prop := (-(2 ^ 64) < i /\ i < 2 ^ 64) \/ (-(2 ^ 64) < j /\ j < 2 ^ 64)
theorem CMul.ok {i j : Int} (h : CMul i j) : IntMulOk i j := by
 rcases h with ⟨h1, h2⟩ | ⟨h1, h2⟩
 ·exact .of_left (intBits_le_64 h1 h2)
 ·exact .of_right (intBits_le_64 h1 h2)
theorem J2 : OpR X (binaryOp .Add) (rI0 fun i j => .int (i + j)) := opI0 fun _ _ _ _ _ _ _ q => add_int q
theorem ye6 : OpR X (binaryOp .Sub) (rI0 fun i j => .int (i - j)) := opI0 fun _ _ _ _ _ _ _ q => sub_int q
theorem ye7 : OpR X (binaryOp .Mult) (rI CMul fun i j => .int (i * j)) := opI fun _ _ _ _ _ _ _ hc q => mul_int q hc.ok
theorem xx9 : OpR X (binaryOp .FloorDiv) (rI CDiv fun i j => .int (i / j)) := opI fun i j _ _ _ _ _ hc q => by
 have h1 : (0 : Int) < j := hc.1
 have h2 : j < 1073741824 := hc.2
 exact floordiv_int (by omega) (by rw [Int.fdiv_eq_ediv_of_nonneg i (by omega)]; exact q) (.inl (PyProof.noPylong_small (by omega)))
theorem xm7 : OpR X (binaryOp .Mod) (rI (fun _ j => 0 < j) fun i j => .int (i % j)) := opI fun i j _ _ _ _ _ hc q => by
 have h1 : (0 : Int) < j := hc
 exact mod_int' (by omega) (by rw [Int.fmod_eq_emod_of_nonneg i (by omega)]; exact q)
theorem xm5 : OpR X (binaryOp .Pow) (rI CPow fun i j => .int (i ^ j.toNat)) := opI fun _ _ _ _ _ _ _ hc q => pow_int_small hc.1 hc.2.1 hc.2.2 q
theorem unI {f : Value -> Sem Value} {g : Int -> Int}
  (rule : ∀ (i : Int) (t : Tok) (s : Shared) (Q : Value -> Shared -> Prop) (E : Value -> Shared -> Prop), Q (.int (g i) s.toks) { s with toks := s.toks + 1 } -> wpAny (model X.prog X.w) X.A (f (.int i t)) Q E s) :
  UnR X f (rU fun i => .int (g i)) := by
 intro pins s σ H x v Q I rx h
 obtain ⟨i, rfl, q⟩ := h
 obtain ⟨t, rfl⟩ := rx
 exact rule i t s _ _ ⟨.int (g i), H, I.tok _, ⟨_, rfl⟩, q⟩
theorem xq4 : UnR X (unaryOp .USub) (rU fun i => .int (-i)) := unI fun _ _ _ _ _ q => neg_int q
end
def scal : V -> V -> Bool
 | .non, .non => true | .non, .int _ => true | .int _, .non => true | .non, .bl _ => true | .bl _, .non => true | .non, .str _ => true | .str _, .non => true
 | .int _, .int _ => true | .bl _, .bl _ => true | .str _, .str _ => true | .byt _, .byt _ => true
 | .int _, .str _ => true | .str _, .int _ => true | .bl _, .str _ => true | .str _, .bl _ => true
 | _, _ => false
def rEq : R2 := fun x y H Q => scal x y = true /\ Q (.bl (decide (x = y))) H
def rNe : R2 := fun x y H Q => scal x y = true /\ Q (.bl (!decide (x = y))) H
theorem zk9 {i j : Int} : decide (V.int i = V.int j) = (i == j) := by
 rw [Bool.eq_iff_iff]
 simp
theorem yq6 {i j : Bool} : decide (V.bl i = V.bl j) = (i == j) := by
 rw [Bool.eq_iff_iff]
 simp
theorem zk8 {i j : Str} : decide (V.str i = V.str j) = (i == j) := by
 rw [Bool.eq_iff_iff]
 simp
theorem yq5 {i j : Array UInt8} : decide (V.byt i = V.byt j) = (i.toList == j.toList) := by
 rw [Bool.eq_iff_iff]
 cases i
 cases j
 simp
section
variable {X : Cx} {a b c : Expr} {ta tb tc : TE} {pos : Pos}
theorem u6 {pins : List (Addr × Obj)} {σ : St} {H : Hp} {s : Shared} {Q : VK} {k k' : Bool} (I : Inv X pins σ H s) (q : Q (.bl k) H) (e : k = k') : EP X pins σ Q (.bool k') s := by
 subst e
 exact ⟨.bl k, H, I, rfl, q⟩
theorem yj2 : OpR X (compareOp .Eq) rEq := by
 intro pins s σ H x y v u Q I rx ry h
 obtain ⟨hs, q⟩ := h
 cases x with
 | non =>
  cases rx
  cases y with
  | non => cases ry; exact PySem.EqNone.eq_none_none (u6 I q (by simp))
  | bl j => cases ry; exact PySem.EqNone.eq_none_bool (u6 I q (by simp))
  | int j => obtain ⟨t', rfl⟩ := ry; exact PySem.EqNone.eq_none_int (u6 I q (by simp))
  | str j => obtain ⟨t', rfl⟩ := ry; exact PySem.EqNone.eq_none_str (u6 I q (by simp))
  | _ => exact absurd (show false = true from hs) Bool.false_ne_true
 | bl i =>
  cases rx
  cases y with
  | non => cases ry; exact PySem.EqNone.eq_bool_none (u6 I q (by simp))
  | bl j => cases ry; exact eq_bool (u6 I q yq6)
  | str j => obtain ⟨t', rfl⟩ := ry; exact PySem.EqMixed.eq_bool_str (u6 I q (by simp))
  | _ => exact absurd (show false = true from hs) Bool.false_ne_true
 | int i =>
  obtain ⟨t, rfl⟩ := rx
  cases y with
  | non => cases ry; exact PySem.EqNone.eq_int_none (u6 I q (by simp))
  | int j => obtain ⟨t', rfl⟩ := ry; exact eq_int (u6 I q zk9)
  | str j => obtain ⟨t', rfl⟩ := ry; exact PySem.EqMixed.eq_int_str (u6 I q (by simp))
  | _ => exact absurd (show false = true from hs) Bool.false_ne_true
 | str i =>
  obtain ⟨t, rfl⟩ := rx
  cases y with
  | non => cases ry; exact PySem.EqNone.eq_str_none (u6 I q (by simp))
  | bl j => cases ry; exact PySem.EqMixed.eq_str_bool (u6 I q (by simp))
  | int j => obtain ⟨t', rfl⟩ := ry; exact PySem.EqMixed.eq_str_int (u6 I q (by simp))
  | str j => obtain ⟨t', rfl⟩ := ry; exact eq_str (u6 I q zk8)
  | _ => exact absurd (show false = true from hs) Bool.false_ne_true
 | byt i =>
  obtain ⟨t, rfl⟩ := rx
  cases y with
  | byt j => obtain ⟨t', rfl⟩ := ry; exact W.eq_bytes (u6 I q yq5)
  | _ => exact absurd (show false = true from hs) Bool.false_ne_true
 | _ => cases y <;> exact absurd (show false = true from hs) Bool.false_ne_true
theorem zo9 : OpR X (compareOp .NotEq) rNe := by
 intro pins s σ H x y v u Q I rx ry h
 obtain ⟨hs, q⟩ := h
 cases x with
 | non =>
  cases rx
  cases y with
  | non => cases ry; exact PySem.EqNone.ne_none_none (u6 I q (by simp))
  | bl j => cases ry; exact PySem.EqNone.ne_none_bool (u6 I q (by simp))
  | int j => obtain ⟨t', rfl⟩ := ry; exact PySem.EqNone.ne_none_int (u6 I q (by simp))
  | str j => obtain ⟨t', rfl⟩ := ry; exact PySem.EqNone.ne_none_str (u6 I q (by simp))
  | _ => exact absurd (show false = true from hs) Bool.false_ne_true
 | bl i =>
  cases rx
  cases y with
  | non => cases ry; exact PySem.EqNone.ne_bool_none (u6 I q (by simp))
  | bl j => cases ry; exact ne_bool (u6 I q (congrArg not yq6))
  | str j => obtain ⟨t', rfl⟩ := ry; exact PySem.EqMixed.ne_bool_str (u6 I q (by simp))
  | _ => exact absurd (show false = true from hs) Bool.false_ne_true
 | int i =>
  obtain ⟨t, rfl⟩ := rx
  cases y with
  | non => cases ry; exact PySem.EqNone.ne_int_none (u6 I q (by simp))
  | int j => obtain ⟨t', rfl⟩ := ry; exact ne_int (u6 I q (congrArg not zk9))
  | str j => obtain ⟨t', rfl⟩ := ry; exact PySem.EqMixed.ne_int_str (u6 I q (by simp))
  | _ => exact absurd (show false = true from hs) Bool.false_ne_true
 | str i =>
  obtain ⟨t, rfl⟩ := rx
  cases y with
  | non => cases ry; exact PySem.EqNone.ne_str_none (u6 I q (by simp))
  | bl j => cases ry; exact PySem.EqMixed.ne_str_bool (u6 I q (by simp))
  | int j => obtain ⟨t', rfl⟩ := ry; exact PySem.EqMixed.ne_str_int (u6 I q (by simp))
  | str j => obtain ⟨t', rfl⟩ := ry; exact ne_str (u6 I q (congrArg not zk8))
  | _ => exact absurd (show false = true from hs) Bool.false_ne_true
 | byt i =>
  obtain ⟨t, rfl⟩ := rx
  cases y with
  | byt j => obtain ⟨t', rfl⟩ := ry; exact W.ne_bytes (u6 I q (congrArg not yq5))
  | _ => exact absurd (show false = true from hs) Bool.false_ne_true
 | _ => cases y <;> exact absurd (show false = true from hs) Bool.false_ne_true
theorem zz9 : OpR X (compareOp .Lt) (rI0 fun i j => .bl (decide (i < j))) := opB0 fun _ _ _ _ _ _ _ q => lt_int q
theorem xc1 : OpR X (compareOp .LtE) (rI0 fun i j => .bl (decide (i <= j))) := opB0 fun _ _ _ _ _ _ _ q => le_int q
theorem xx8 : OpR X (compareOp .Gt) (rI0 fun i j => .bl (decide (j < i))) := opB0 fun _ _ _ _ _ _ _ q => gt_int q
theorem zn0 : OpR X (compareOp .GtE) (rI0 fun i j => .bl (decide (j <= i))) := opB0 fun _ _ _ _ _ _ _ q => ge_int q
theorem xm8 : OpR X (compareOp .Is) (fun x y H Q => y = .non /\ Q (.bl (decide (x = .non))) H) := by
 intro pins s σ H x y v u Q I rx ry h
 obtain ⟨rfl, q⟩ := h
 cases ry
 refine is_none_gen (u6 I q ?_)
 cases x <;> first
  | (cases rx; rfl)
  | (obtain ⟨t, rfl⟩ := rx; rfl)
theorem OpR.or {f : Value -> Value -> Sem Value} {r r' : R2} (h : OpR X f r) (h' : OpR X f r') : OpR X f (fun x y H Q => r x y H Q \/ r' x y H Q) := by
 intro pins s σ H x y v u Q I rx ry q
 rcases q with q | q
 ·exact h pins s σ H x y v u Q I rx ry q
 ·exact h' pins s σ H x y v u Q I rx ry q
theorem u3 (b : Expr) {op : CmpOp} (h : op ≠ .In := by decide) (h2 : op ≠ .NotIn := by decide) : behindInMarks op b = false := by
 have e1 : (op == CmpOp.In) = false := by cases op <;> first | rfl | exact absurd rfl h
 have e2 : (op == CmpOp.NotIn) = false := by cases op <;> first | rfl | exact absurd rfl h2
 cases b <;> simp [behindInMarks, e1, e2]
theorem xy7 {op : CmpOp} {r : R2} (ho : OpR X (compareOp op) r) (ha : PE X a ta) (hb : PE X b tb) (hm : behindInMarks op b = false) : PE X (.Compare a [op] [b] pos) (tOp r ta tb) := by
 intro pins s σ H Q I h
 exact wpAny_Compare1 (binT ha hb I h fun v u s2 x y H2 I2 rx ry q => ho pins s2 σ H2 x y v u Q I2 rx ry q) hm
def xe6 (t : TE) : TT := fun σ H Q => t σ H fun x H' => ∃ k, x = .bl k /\ Q k H'
theorem zo4 {op : CmpOp} {r : R2} (ho : OpR X (compareOp op) r) (ha : PE X a ta) (hb : PE X b tb) (hm : behindInMarks op b = false) : PT X (.Compare a [op] [b] pos) (xe6 (tOp r ta tb)) := by
 intro pins s σ H Q I h
 refine wpAny_isTrue_Compare1 (thn (ha pins s σ H _ I h) fun v s1 ⟨x, H1, I1, r1, q1⟩ => thn (hb pins s1 σ H1 _ I1 q1) fun u s2 ⟨y, H2, I2, r2, q2⟩ =>
  thn (ho pins s2 σ H2 x y v u _ I2 r1 r2 q2) fun c s3 ⟨z, H3, I3, r3, k, e, q3⟩ => ?_) hm
 subst e
 cases r3
 exact wpAny_truthy_bool ⟨H3, I3, q3⟩
def TruV (K : W.Frag) (x : V) (H : Hp) (k : Bool) : Prop :=
 match x with
 | .non => k = false
 | .bl b => k = b
 | .int i => k = (i != 0)
 | .str y => y.length <= sizeLine /\ k = ((y.length : Int) != 0)
 | .byt y => y.size <= sizeLine /\ k = ((y.size : Int) != 0)
 | .ref p => (∃ xs, SqL K H p xs /\ k = !xs.isEmpty) \/ (∃ xs, SqT K H p xs /\ k = !xs.isEmpty) \/ ∃ kvs, H p = some (.dK kvs) /\ k = !kvs.isEmpty
 | _ => False
theorem zb2 {κ : Type} {kvs : List (κ × V)} {vs : List (κ × Value)} (r : KV kvs vs) : (!vs.isEmpty) = !kvs.isEmpty := by
 cases r <;> rfl
theorem C7 {xs : List V} {its : List Value} (r : Vals xs its) : (!its.toArray.isEmpty) = !xs.isEmpty := by
 cases r <;> simp
theorem zs8 : (sizeLine : Nat) < 2 ^ 63 := by rw [sizeLine_eq]; decide
theorem xq7 : TruR X (fun x H Q => ∃ k, TruV X.K x H k /\ Q k H) := by
 intro pins s σ H x v Q I rx h
 obtain ⟨k, e, q⟩ := h
 have hl := zs8
 have hs : sizeLine = 16777216 := sizeLine_eq
 cases x with
 | non =>
  cases rx
  have e' : k = false := e
  subst e'
  exact truthy_none ⟨H, I, q⟩
 | bl b =>
  cases rx
  have e' : k = b := e
  subst e'
  exact wpAny_truthy_bool ⟨H, I, q⟩
 | int i =>
  obtain ⟨t, rfl⟩ := rx
  have e' : k = (i != 0) := e
  subst e'
  exact PySem.P.truthy_int ⟨H, I, q⟩
 | str y =>
  obtain ⟨t, rfl⟩ := rx
  obtain ⟨hy, e'⟩ : y.length <= sizeLine /\ k = ((y.length : Int) != 0) := e
  subst e'
  exact PySem.P.truthy_str (by omega) ⟨H, I.tok _, q⟩
 | byt y =>
  obtain ⟨t, rfl⟩ := rx
  obtain ⟨hy, e'⟩ : y.size <= sizeLine /\ k = ((y.size : Int) != 0) := e
  subst e'
  exact W.truthy_bytes (by omega) ⟨H, I.tok _, q⟩
 | ref p =>
  cases rx
  have e' : (∃ xs, SqL X.K H p xs /\ k = !xs.isEmpty) \/ (∃ xs, SqT X.K H p xs /\ k = !xs.isEmpty) \/ ∃ kvs, H p = some (.dK kvs) /\ k = !kvs.isEmpty := e
  rcases e' with ⟨xs, hx, e'⟩ | ⟨xs, hx, e'⟩ | ⟨kvs, hx, e'⟩
  ·subst e'
   obtain ⟨its, r, pl, hz⟩ := I.list hx
   have hlen := r.length
   exact wpAny_truthy_list pl.isList (by simp only [size_toArray]; omega) ⟨H, I.tok _, by rw [C7 r]; exact q⟩
  ·subst e'
   obtain ⟨its, r, pl, hz⟩ := I.tuple hx
   have hlen := r.length
   exact truthy_tuple pl (by simp only [size_toArray]; omega) ⟨H, I.tok _, by rw [C7 r]; exact q⟩
  ·subst e'
   obtain ⟨hz, hS, vs, r, m⟩ : kvs.length <= sizeLine /\ (p == sysModules) = false /\ ∃ vs, KV kvs vs /\ s.heap.DictOf (J9 X.prog X.w) p vs := I.hok p _ hx
   have hlen : kvs.length = vs.length := Paired.length r
   exact wpAny_truthy_dict hS m (by omega) ⟨H, I.tok _, by rw [zb2 r]; exact q⟩
 | _ => exact (show False from e).elim
theorem ym4 (ha : PE X a ta) (he : ∀ whole, isTrue a X.env whole = (do let v ← whole; standAt a.pos; holding [v] (truthy v))) :
  PT X a (fun σ H Q => ta σ H fun x H' => ∃ k, TruV X.K x H' k /\ Q k H') := by
 intro pins s σ H Q I h
 exact isTrue_plain (thn (ha pins s σ H _ I h) fun v s1 ⟨x, H1, I1, r1, q1⟩ => xq7 pins s1 σ H1 x v Q I1 r1 q1) (he _)
theorem R3 {x : V} {us : List Value} (r : Vals [x] us) : ∃ u, us = [u] /\ RelV x u := by
 cases r with
 | cons r1 r2 => cases r2; exact ⟨_, rfl, r1⟩
theorem xq3 {x y : V} {us : List Value} (r : Vals [x, y] us) : ∃ u w', us = [u, w'] /\ RelV x u /\ RelV y w' := by
 cases r with
 | cons r1 r2 =>
  cases r2 with
  | cons r3 r4 => cases r4; exact ⟨_, _, rfl, r1, r3⟩
theorem yp2 (hc : X.calm = true) : zp7 X (.builtin "min") (fun xs H Q => ∃ i j, xs = [.int i, .int j] /\ Q (.int (if j < i then j else i)) H) := by
 intro pins s σ H xs us Q I r h
 obtain ⟨i, j, rfl, q⟩ := h
 obtain ⟨u, w', rfl, ⟨t, rfl⟩, ⟨t', rfl⟩⟩ := xq3 r
 refine min_two_ints (I.ok.hd hc) fun h' tk k => ⟨_, H, I.kept k, ?_, q⟩
 by_cases hj : j < i
 ·rw [if_pos hj, if_pos hj]; exact ⟨_, rfl⟩
 ·rw [if_neg hj, if_neg hj]; exact ⟨_, rfl⟩
end
end
section
structure ObjM (h : Heap) (x dx C : Addr) (mA : Str -> Option Value) : Prop where
 obj : h.get? x = some (W.instObj C dx)
 ns : h.Ns1 dx mA
 ne : dx ≠ x
theorem ys6 {h : Heap} {dx : Addr} {mA : Str -> Option Value} (n : h.Ns1 dx mA) : ∃ od, h.get? dx = some od /\ ∀ name, W.lookIn name od = some (mA name) := by
 obtain ⟨o, es, ep, ho, hd, hk, _, hm⟩ := n
 refine ⟨o, ho, fun name => ?_⟩
 have e := hm name
 unfold nsFind findBy at e
 rw [<- Array.find?_toList] at e
 unfold W.lookIn
 rw [hd]
 dsimp only
 split
 ·rename_i y q
  rw [q] at e
  exact congrArg some e
 ·rename_i q
  rw [q] at e
  have a : es.toList.any (·.refKey) = false := by
   rw [any_eq_false]
   intro y hy
   obtain ⟨z, t, hkey⟩ := hk y (Array.mem_toList_iff.mp hy)
   simp [DictEntry.refKey, hkey]
  have a' : ¬ es.toList.any (·.refKey) = true := by rw [a]; exact Bool.false_ne_true
  rw [if_neg a']
  exact congrArg some e
theorem ObjM.look {h : Heap} {x dx C : Addr} {mA : Str -> Option Value} (I : ObjM h x dx C mA) : ∃ od, W.InstAt h x (W.instObj C dx) C (some od) /\ ∀ name, W.lookIn name od = some (mA name) :=
 let ⟨od, ho, hl⟩ := ys6 I.ns
 ⟨od, ⟨I.obj, rfl, rfl, ho⟩, hl⟩
section
variable {prog : Program} {w : World} {A : Around} {E : Value -> Shared -> Prop} {s : Shared} {K : W.Frag} {x dx C f : Addr} {mA : Str -> Option Value} {name : Str} {v : Value}
theorem xu2 {expr : Bool} {Q : Value -> Shared -> Prop} (X : K.In s.heap) (I : ObjM s.heap x dx C mA) (hg : W.plainGet K C name = true) (hh : W.hasDictIn K C = true)
  (ha : W.findIn K (.ref C) name = some none) (hv : mA name = some v) (hv' : W.handedIn v = true) (h : Q v { s with toks := s.toks + 1 }) :
  wpAny (model prog w) A (getAttr (.ref x) name expr) Q E s := by
 obtain ⟨od, J, hl⟩ := I.look
 exact W.get_value X J (W.plainGet_of hg).1 (W.findObj_own hh ha rfl (by rw [hl, hv])) hv' h
theorem yh8 {pl : Sem Bool} {Q : Value × List Value -> Shared -> Prop} (X : K.In s.heap) (I : ObjM s.heap x dx C mA) (hg : W.plainGet K C name = true)
  (hf : W.findIn K (.ref C) name = some (some (.ref f))) (ht : W.isFn K (.ref f) = true) (hv : mA name = none) (h : Q (.ref f, [.ref x]) s) :
  wpAny (model prog w) A (getMethod (.ref x) name pl) Q E s := by
 obtain ⟨od, J, hl⟩ := I.look
 exact W.method_fn X J (W.plainGet_of hg).1 (W.plainGet_of hg).2 hf (beq_iff_eq.mp ht) (by show (W.lookIn name od).map (·.isSome) = some false; rw [hl, hv]; rfl) h
theorem yc8 {ns : List Str} {Q : Unit -> Shared -> Prop} (X : K.In s.heap) (I : ObjM s.heap x dx C mA)
  (hs : W.findIn K (.ref C) "__setattr__" = some (some (.builtin "object.__setattr__"))) (hp : W.plainOver K C = true) (ht : W.takerIn K C name = some none) (hh : W.hasDictIn K C = true)
  (hw : PySem.Within mA ns) (hsz : ns.length <= sizeLine)
  (h : ∀ h', ObjM h' x dx C (fun y => if y = name then some v else mA y) -> Heap.SameBut dx s.heap h' -> Q () { s with heap := h', toks := s.toks + 2 }) :
  wpAny (model prog w) A (setAttr (.ref x) name v) Q E s := by
 obtain ⟨od, J, hl⟩ := I.look
 refine W.set_plain X J hs (W.osa_open (s := { s with toks := s.toks + 1 }) (r := none) X J hp ht fun b => ?_)
 obtain ⟨cd, hc, hd'⟩ := W.any_some hh
 have hx : s.heap.get? x = some ⟨.ref C, some dx, .plain, #[]⟩ := I.obj
 refine wpAny_bind (wpAny_pure (wpAny_bind (wpAny_bind (wpAny_loadPart hx (wpAny_bind (W.Looks.here (s := { s with toks := s.toks + 1 }) (W.looks_clsIn X hc) ?_))))))
 rw [hd']
 refine wpAny_pure (a := some dx) (wpAny_bind (wpAny_pure (wpAny_bind ?_)))
 refine wpAny_nsSet1 (s := { s with toks := s.toks + 1 }) I.ns fun h' hn2 hs2 => ?_
 obtain ⟨oD, esD, epD, hoD, hdD, hcD⟩ := hn2.count (PySem.Within.cons name v hw)
 refine wpAny_bind (wpAny_lookBehind hoD (by rw [hdD]; exact pastItsLine_dict (Nat.le_trans hcD (by rw [length_cons]; omega))) ?_)
 exact wpAny_pure (h _ ⟨(hs2.2 _ (Ne.symm I.ne)).trans I.obj, hn2, I.ne⟩ hs2)
theorem yi5 {R : Result -> Shared -> Prop} {vs : List Value} {kw : List (Str × Value)} (X : K.In s.heap) (hm : W.makesIn K C = true)
  (hi : W.findIn K (.ref C) "__init__" = some (some (.ref f))) (hf : W.typeIn K (.ref f) = some (.type "function"))
  (h : codeAny (model prog w) (A.under (.builtin "type.__call__" ⟨.ref C :: vs, kw⟩)) (.call (.ref f) ⟨.ref (s.heap.objs.size + 1) :: vs, kw⟩) (W.InitBack (s.heap.objs.size + 1) R)
   { s with heap := (s.heap.push W.emptyDict).push (W.instObj C s.heap.objs.size) }) :
  codeAny (model prog w) A (.call (.ref C) ⟨vs, kw⟩) R s := by
 obtain ⟨hh, g, d, t, os⟩ := s
 exact W.make_core (W.makes_of X hm) (W.looks_findIn X hi) (fun self => W.bind_fn X self hf) (.inl rfl) h
end
def putF (f : Str) (v : V) : List (Str × V) -> List (Str × V)
 | [] => [(f, v)]
 | (g, x) :: r => if g = f then (g, v) :: r else (g, x) :: putF f v r
theorem G3 (f g : Str) (v : V) : ∀ fs : List (Str × V), (putF f v fs).lookup g = if g = f then some v else fs.lookup g
 | [] => by
  show List.lookup g [(f, v)] = _
  by_cases h : g = f
  ·have hb : (g == f) = true := beq_iff_eq.mpr h
   simp only [List.lookup, hb, if_pos h]
  ·have hb : (g == f) = false := beq_eq_false_iff_ne.mpr h
   simp only [List.lookup, hb, if_neg h]
 | (k, x) :: r => by
  have ih := G3 f g v r
  rw [show putF f v ((k, x) :: r) = (if k = f then (k, v) :: r else (k, x) :: putF f v r) from rfl]
  by_cases hk : k = f
  ·rw [if_pos hk]
   by_cases h : g = k
   ·have hb : (g == k) = true := beq_iff_eq.mpr h
    simp only [List.lookup, hb, if_pos (h.trans hk)]
   ·have hb : (g == k) = false := beq_eq_false_iff_ne.mpr h
    simp only [List.lookup, hb, if_neg (fun e : g = f => h (e.trans hk.symm))]
  ·rw [if_neg hk]
   by_cases h : g = k
   ·have hb : (g == k) = true := beq_iff_eq.mpr h
    simp only [List.lookup, hb, if_neg (fun e : g = f => hk (h.symm.trans e))]
   ·have hb : (g == k) = false := beq_eq_false_iff_ne.mpr h
    simp only [List.lookup, hb]
    exact ih
theorem G5 (f : Str) (v : V) : ∀ fs : List (Str × V), f ∈ (putF f v fs).map (·.1) /\ ∀ g, g ∈ fs.map (·.1) -> g ∈ (putF f v fs).map (·.1)
 | [] => ⟨by simp [putF], fun g h => by simp at h⟩
 | (k, x) :: r => by
  obtain ⟨i1, i2⟩ := G5 f v r
  rw [show putF f v ((k, x) :: r) = (if k = f then (k, v) :: r else (k, x) :: putF f v r) from rfl]
  by_cases hk : k = f
  ·rw [if_pos hk]
   subst hk
   exact ⟨by simp, fun g h => by simpa using h⟩
  ·rw [if_neg hk]
   refine ⟨?_, fun g h => ?_⟩
   ·rw [map_cons]
    exact mem_cons_of_mem _ i1
   ·rw [map_cons] at h ⊢
    rcases List.mem_cons.mp h with e | e
    ·exact List.mem_cons.mpr (.inl e)
    ·exact mem_cons_of_mem _ (i2 g e)
theorem G4 (f : Str) (v : V) : ∀ fs : List (Str × V), (putF f v fs).length <= fs.length + 1
 | [] => by simp [putF]
 | (k, x) :: r => by
  have ih := G4 f v r
  rw [show putF f v ((k, x) :: r) = (if k = f then (k, v) :: r else (k, x) :: putF f v r) from rfl]
  by_cases hk : k = f
  ·rw [if_pos hk, length_cons, length_cons]; omega
  ·rw [if_neg hk, length_cons, length_cons]; omega
theorem RelO.some_of {v : V} {o : Option Value} (r : RelO (some v) o) : ∃ u, o = some u /\ RelV v u := by
 cases o with
 | none => exact (show False from r).elim
 | some u => exact ⟨u, rfl, r⟩
theorem RelO.none_of {o : Option Value} (r : RelO none o) : o = none := by
 cases o with
 | none => rfl
 | some u => exact (show False from r).elim
theorem yr7 {v : V} {u : Value} (r : RelV v u) : W.handedIn u = true := by
 cases v with
 | non => cases (show u = Value.none from r); rfl
 | bl b => cases (show u = Value.bool b from r); rfl
 | int i => obtain ⟨t, e⟩ := (show ∃ t, u = Value.int i t from r); cases e; rfl
 | str x => obtain ⟨t, e⟩ := (show ∃ t, u = Value.str x t from r); cases e; rfl
 | byt b => obtain ⟨t, e⟩ := (show ∃ t, u = Value.bytes b t from r); cases e; rfl
 | flt b => obtain ⟨t, e⟩ := (show ∃ t, u = Value.float b t from r); cases e; rfl
 | ref a => cases (show u = Value.ref a from r); rfl
 | ty n => cases (show u = Value.type n from r); rfl
section
variable {P : Program} {w : World} {H H' : Hp} {h h' : Heap} {a C dx : Addr} {fs fs' : List (Str × V)}
theorem zk0 (hok : HOk P w H h) (e : H a = some (.ins C dx fs)) : ∃ mA, ObjM h a dx C mA /\ (∀ f, RelO (fs.lookup f) (mA f)) /\ PySem.Within mA (fs.map (·.1)) /\ fs.length <= 1000 /\ H dx = some (.own a) := by
 obtain ⟨d, z, ne, ob, mA, n, r, q⟩ := (show ObjOk P w H h a (.ins C dx fs) from hok a _ e)
 exact ⟨mA, ⟨ob, n, ne⟩, r, q, z, d⟩
end
structure Cls (K : W.Frag) (C : Addr) : Prop where
 pg : W.plainGet K C Str.empty = true
 hd : W.hasDictIn K C = true
 po : W.plainOver K C = true
 sa : W.findIn K (.ref C) "__setattr__" = some (some (.builtin "object.__setattr__"))
theorem Cls.get {K : W.Frag} {C : Addr} (c : Cls K C) (f : Str) : W.plainGet K C f = true := c.pg
def NoAttr (K : W.Frag) (C : Addr) (f : Str) : Prop := W.findIn K (.ref C) f = some none
theorem NoAttr.taker {K : W.Frag} {C : Addr} {f : Str} (n : NoAttr K C f) : W.takerIn K C f = some none := by
 unfold W.takerIn
 rw [show W.findIn K (.ref C) f = some none from n]
 rfl
structure Con (K : W.Frag) (C : Addr) (f : Str) (v : V) (u : Value) : Prop where
 at_ : W.findIn K (.ref C) f = some (some u)
 rel : RelV v u
 get : W.specialIn K u "__get__" = some none
 cp : W.copiedNames.contains f = false
structure Meth (K : W.Frag) (C : Addr) (m : Str) (f : Addr) : Prop where
 at_ : W.findIn K (.ref C) m = some (some (.ref f))
 fn : W.isFn K (.ref f) = true
 kp : W.keepIn K (.ref f) = true
section
variable {X : Cx} {pins : List (Addr × Obj)} {σ : St} {H : Hp} {s : Shared} {a C dx : Addr} {fs : List (Str × V)} {f : Str} {v : V} {A : Around} {E : Value -> Shared -> Prop}
theorem zb3 {b : Bool} {Q : Value -> Shared -> Prop} (I : Inv X pins σ H s) (e : H a = some (.ins C dx fs)) (c : Cls X.K C) (n : NoAttr X.K C f) (l : fs.lookup f = some v)
  (h : ∀ u s', Inv X pins σ H s' -> RelV v u -> Q u s') : wpAny (model X.prog X.w) A (getAttr (.ref a) f b) Q E s := by
 obtain ⟨mA, O, r, _, _, _⟩ := zk0 I.hok e
 obtain ⟨u, hu, ru⟩ := RelO.some_of (v := v) (o := mA f) (by rw [<- l]; exact r f)
 exact xu2 I.kIn O (c.get f) c.hd n hu (yr7 ru) (h u _ (I.tok _) ru)
theorem C9 {m : Str} {g : Addr} {pl : Sem Bool} {Q : Value × List Value -> Shared -> Prop} (I : Inv X pins σ H s) (e : H a = some (.ins C dx fs)) (c : Cls X.K C) (k : Meth X.K C m g) (l : fs.lookup m = none)
  (h : Q (.ref g, [.ref a]) s) : wpAny (model X.prog X.w) A (getMethod (.ref a) m pl) Q E s := by
 obtain ⟨mA, O, r, _, _, _⟩ := zk0 I.hok e
 have hn : mA m = none := RelO.none_of (by rw [<- l]; exact r m)
 exact yh8 I.kIn O (c.get m) k.at_ k.fn hn h
theorem zd5 {y : V} {u : Value} {Q : Unit -> Shared -> Prop} (I : Inv X pins σ H s) (e : H a = some (.ins C dx fs)) (c : Cls X.K C) (n : NoAttr X.K C f) (hl : fs.length < 1000) (ry : RelV y u)
  (h : ∀ s', Inv X pins σ (upd H a (.ins C dx (putF f y fs))) s' -> Q () s') : wpAny (model X.prog X.w) A (setAttr (.ref a) f u) Q E s := by
 obtain ⟨mA, O, r, wi, _, ho⟩ := zk0 I.hok e
 have hz : (fs.map (·.1)).length <= sizeLine := by rw [length_map, sizeLine_eq]; omega
 refine yc8 I.kIn O c.sa c.po n.taker c.hd wi hz fun h' O' sb => h _ ?_
 have hd : ∃ o, h'.get? dx = some o := let ⟨o, _, _, e', _⟩ := O'.ns; ⟨o, e'⟩
 refine I.write (x := a) (e := dx) (by rw [e]; exact True.intro) (.inr ho) (fun b q hb z => (sb.2 b hb).trans z) hd ?_
 refine ⟨by rw [y9 O.ne]; exact ho, ?_, O.ne, O'.obj, _, O'.ns, fun g => ?_, fun g hg => ?_⟩
 ·have := G4 f y fs; omega
 ·show RelO ((putF f y fs).lookup g) (if g = f then some u else mA g)
  rw [G3]
  by_cases q : g = f
  ·rw [if_pos q, if_pos q]; exact ry
  ·rw [if_neg q, if_neg q]; exact r g
 ·by_cases q : g = f
  ·rw [q]; exact (G5 f y fs).1
  ·refine (G5 f y fs).2 g (wi g fun z => hg ?_)
   show (if g = f then some u else mA g) = none
   rw [if_neg q]; exact z
theorem Inv.made (I : Inv X pins σ H s) : Inv X pins σ (upd (upd H s.heap.objs.size (.own (s.heap.objs.size + 1))) (s.heap.objs.size + 1) (.ins C s.heap.objs.size []))
  { s with heap := (s.heap.push W.emptyDict).push (W.instObj C s.heap.objs.size) } := by
 have e1 : (s.heap.push W.emptyDict).get? s.heap.objs.size = some W.emptyDict := Heap.get?_push_size s.heap rfl
 have e2 : ((s.heap.push W.emptyDict).push (W.instObj C s.heap.objs.size)).get? (s.heap.objs.size + 1) = some (W.instObj C s.heap.objs.size) := by
  have := Heap.get?_push_size (s.heap.push W.emptyDict) (o := W.instObj C s.heap.objs.size) rfl
  rwa [Heap.size_push] at this
 have e3 : (s.heap.push W.emptyDict).Ns s.heap.objs.size (fun _ => none) := ⟨W.emptyDict, #[], _, e1, rfl, (fun e he => absurd he (by simp)), fun _ => rfl⟩
 have I1 := I.laid (a := s.heap.objs.size) (o := .own (s.heap.objs.size + 1)) (h' := s.heap.push W.emptyDict) (t' := s.toks) (fun b u q => Heap.get?_push_of_some _ q) (Nat.le_refl _) ⟨_, e1⟩
 refine I1.laid (a := s.heap.objs.size + 1) (o := .ins C s.heap.objs.size []) (t' := s.toks) (fun b u q => Heap.get?_push_of_some _ q) (Nat.le_of_eq (Heap.size_push _ _)) ?_
 have ne : s.heap.objs.size ≠ s.heap.objs.size + 1 := Nat.ne_of_lt (Nat.lt_succ_self _)
 refine ⟨by rw [y9 ne, y6], Nat.zero_le _, ne, e2, fun _ => none, (Heap.Ns1.of_empty e3).at fun o q => Heap.get?_push_of_some _ q, fun _ => True.intro, fun y hy => absurd rfl hy⟩
theorem xr0 {prog : Program} {w : World} {env : Env} {e : Expr} {f : Str} {pos : Pos} {s : Shared} {Q : Value -> Shared -> Prop} (hb : attributeBase e f env (eval e env) = eval e env)
  (h : wpAny (model prog w) A (eval e env) (fun o s₁ => wpAny (model prog w) A (getAttr o f true) Q E s₁) E s) : wpAny (model prog w) A (eval (.Attribute e f pos) env) Q E s :=
 Attribute_any_ h (by rw [arm_eval_Attribute, hb])
end
def tFld (K : W.Frag) (ta : TE) (f : Str) : TE := fun σ H Q => ta σ H fun x H1 => ∃ a C dx fs v, x = .ref a /\ H1 a = some (.ins C dx fs) /\ Cls K C /\ NoAttr K C f /\ fs.lookup f = some v /\ Q v H1
def sFld (K : W.Frag) (ta tv : TE) (f : Str) : TS := fun D σ H => tv σ H fun y H1 => ta σ H1 fun x H2 => ∃ a C dx fs, x = .ref a /\ H2 a = some (.ins C dx fs) /\ Cls K C /\ NoAttr K C f /\ fs.length < 1000 /\
 D.nx σ (upd H2 a (.ins C dx (putF f y fs)))
section
variable {X : Cx} {o e value : Expr} {f : Str} {pos pos' tpos : Pos} {ta tv : TE}
theorem ye0 (he : PE X e ta) (hb : attributeBase e f X.env (eval e X.env) = eval e X.env) : PE X (.Attribute e f pos) (tFld X.K ta f) := by
 intro pins s σ H Q I h
 refine xr0 hb (thn (he pins s σ H _ I h) fun u s1 hpat => ?_)
 obtain ⟨x, H1, I1, rx, a, C, dx, fs, v, ex, ea, c, n, l, q⟩ := hpat
 subst ex
 obtain rfl : u = Value.ref a := rx
 exact zb3 I1 ea c n l fun u' s2 I2 ru => ⟨v, H1, I2, ru, q⟩
theorem yf9 (ha : PE X o ta) (hv : PE X value tv) (hs : swapsWith value (some (.Attribute o f pos')) pos.line X.env = pure false) : PS X (.Assign [.Attribute o f pos'] value pos) (sFld X.K ta tv f) := by
 intro pins s σ H D I h
 refine plainObj_wpAny_Assign_Attribute (thn (hv pins s σ H _ I h) fun u s1 ⟨y, H1, I1, ry, q⟩ => thn (ha pins s1 σ H1 _ I1 q) fun ov s2 hpat => ?_) hs
 obtain ⟨x, H2, I2, rx, a, C, dx, fs, ex, ea, c, n, l, q2⟩ := hpat
 subst ex
 obtain rfl : ov = Value.ref a := rx
 exact zd5 I2 ea c n l ry fun s3 I3 => ⟨σ, _, I3, q2⟩
end
section
variable {X : Cx} {pins : List (Addr × Obj)} {σ : St} {H : Hp} {s : Shared} {A : Around} {E : Value -> Shared -> Prop} {Q : Value -> Shared -> Prop} {c : Value} {b : Bool}
inductive TyOf (K : W.Frag) (H : Hp) : V -> Value -> Prop where
 | non : TyOf K H .non (.type "NoneType")
 | bl (x : Bool) : TyOf K H (.bl x) (.type "bool")
 | int (i : Int) : TyOf K H (.int i) (.type "int")
 | str (x : Str) : TyOf K H (.str x) (.type "str")
 | flt (x : UInt64) : TyOf K H (.flt x) (.type "float")
 | lst {a : Addr} {xs : List V} (e : H a = some (.lst xs)) : TyOf K H (.ref a) (.type "list")
 | frz {a : Addr} {o : Obj} {xs : List V} (e : H a = some (.frz o (.lst xs))) : TyOf K H (.ref a) (.type "list")
 | tup {a : Addr} {xs : List V} (e : H a = some (.tup xs)) : TyOf K H (.ref a) (.type "tuple")
 | dK {a : Addr} {kvs : List (Key × V)} (e : H a = some (.dK kvs)) : TyOf K H (.ref a) (.type "dict")
 | dT {a : Addr} {kvs : List (List Key × V)} (e : H a = some (.dT kvs)) : TyOf K H (.ref a) (.type "dict")
 | ins {a C dx : Addr} {fs : List (Str × V)} (e : H a = some (.ins C dx fs)) (cl : Cls K C) (ha : W.findIn K (.ref C) "__class__" = some (some (.builtin "object.__class__")))
   (hn : W.specialIn K (.builtin "object.__class__") "__get__" = some (some (.builtin "getset_descriptor.__get__"))) (htk : W.takesIn K (.builtin "object.__class__") = some true)
   (hm : W.mroIn K C (.type "object") = some true) : TyOf K H (.ref a) (.ref C)
end
end
section
structure Room (k : Nat) (A : Around) : Prop where
 hd : A.handled = none
 dp : A.depth + 3 * k + 5 < recursionLimit
 un : A.units + 16 * k + 200 < cLine
theorem Room.mono {j k : Nat} {A : Around} (r : Room k A) (h : j <= k) : Room j A := ⟨r.hd, by have := r.dp; omega, by have := r.un; omega⟩
theorem Room.deeper {k : Nat} {A : Around} (r : Room (k + 1) A) (env : Env) : Room k (A.deeper env) :=
 ⟨r.hd, by have := r.dp; show A.depth + 1 + 3 * k + 5 < _; omega, by have := r.un; show A.units + 3 + 16 * k + 200 < _; omega⟩
theorem Room.in1 {k : Nat} {A : Around} (r : Room (k + 1) A) : Room k A.in1 :=
 ⟨r.hd, by have := r.dp; show A.depth + 3 * k + 5 < _; omega, by have := r.un; show A.units + 1 + 16 * k + 200 < _; omega⟩
theorem zc9 {A : Around} {C : Addr} {us : List Value} {kw : List (Str × Value)} : (A.under (.builtin "type.__call__" ⟨.ref C :: us, kw⟩)).depth = A.depth + 1 := by
 first | rfl | simp [Around.under, Code.weight, Code.isCreation, Code.isGuard, Code.isCaller, Code.frames, Code.isFrame, guardIds]
theorem zc8 {A : Around} {C : Addr} {us : List Value} {kw : List (Str × Value)} : (A.under (.builtin "type.__call__" ⟨.ref C :: us, kw⟩)).units = A.units + 1 := by
 first | rfl | simp [Around.under, Code.cUnits, Code.frames, Code.isFrame]
theorem Room.make {k : Nat} {A : Around} (r : Room (k + 1) A) (C : Addr) (us : List Value) (kw : List (Str × Value)) : Room k (A.under (.builtin "type.__call__" ⟨.ref C :: us, kw⟩)) :=
 ⟨r.hd, by have := r.dp; rw [zc9]; omega, by have := r.un; rw [zc8]; omega⟩
theorem Room.depth {k : Nat} {A : Around} (r : Room k A) : A.depth < recursionLimit := by have := r.dp; omega
theorem Room.units {k : Nat} {A : Around} (r : Room k A) : A.units + 64 < cLine := by have := r.un; omega
def tNil : TA := fun _ H Q => Q [] H
def xo0 (ta : TE) (tr : TA) : TA := fun σ H Q => ta σ H fun x H1 => tr σ H1 fun xs H2 => Q (x :: xs) H2
section
variable {X : Cx} {e : Expr} {es : List Expr} {te : TE} {t : TA} {pos : Pos}
theorem pa_nil : PA X [] tNil := fun _ _ _ _ H Q I h => Calls.spliced_nil ⟨[], H, I, .nil, h⟩
theorem k6 (ha : PE X e te) (hr : PA X es t) (hs : starEach (e :: es) X.env = (false, eval e X.env) :: starEach es X.env := by rfl) : PA X (e :: es) (xo0 te t) := by
 intro pos pins s σ H Q I h
 rw [hs]
 show wpAny _ _ (spliced ((false, eval e X.env) :: backTo pos (starEach es X.env))) _ _ s
 refine Calls.spliced_cons (thn (ha pins s σ H _ I h) fun u s1 hpat => ?_)
 obtain ⟨x, H1, I1, r1, q1⟩ := hpat
 exact thn (hr pos pins s1 σ H1 _ I1 q1) fun us s2 ⟨xs, H2, I2, r2, q2⟩ => ⟨x :: xs, H2, I2, .cons r1 r2, q2⟩
def tTup (t : TA) : TE := fun σ H Q => t σ H fun xs H1 => xs.length <= sizeLine /\ ∀ p, H1 p = none -> Q (.ref p) (upd H1 p (.tup xs))
def tLst (t : TA) : TE := fun σ H Q => t σ H fun xs H1 => xs.length <= sizeLine /\ ∀ p, H1 p = none -> Q (.ref p) (upd H1 p (.lst xs))
theorem xn9 {x1} (h : PA X es t) : PE X (.Tuple es x1 pos) (tTup t) := by
 intro pins s σ H Q I hq
 refine wpAny_Tuple_spliced (thn (h pos pins s σ H _ I hq) fun us s1 ⟨xs, H1, I1, r, z, q⟩ => ⟨by rw [<- r.length]; exact z, ?_⟩)
 have hf : H1 s1.heap.objs.size = none := I1.hok.fresh (Nat.le_refl _)
 refine ⟨.ref s1.heap.objs.size, upd H1 s1.heap.objs.size (.tup xs), I1.laid (t' := s1.toks) (fun b u e => Heap.get?_push_of_some _ e) (Nat.le_refl _) ?_, rfl, q _ hf⟩
 exact ⟨z, us, r, ⟨_, Heap.get?_push_size _ rfl, rfl, _, rfl⟩⟩
theorem yw8 (h : PA X es t) : PE X (.List es pos) (tLst t) := by
 intro pins s σ H Q I hq
 refine wpAny_List_spliced (thn (h pos pins s σ H _ I hq) fun us s1 ⟨xs, H1, I1, r, z, q⟩ => ⟨by rw [<- r.length]; exact z, ?_⟩)
 have hf : H1 s1.heap.objs.size = none := I1.hok.fresh (Nat.le_refl _)
 refine ⟨.ref s1.heap.objs.size, upd H1 s1.heap.objs.size (.lst xs), I1.laid (t' := s1.toks) (fun b u e => Heap.get?_push_of_some _ e) (Nat.le_refl _) ?_, rfl, q _ hf⟩
 exact ⟨z, us, 0, r, Heap.get?_push_size _ rfl⟩
end
abbrev Sp := List V -> Hp -> VK -> XK -> Prop
abbrev CXT := List Env -> Hp -> Shared -> XK -> Value -> Shared -> Prop
structure Env0 (P : Program) (w : World) (K : W.Frag) (mg : Str -> Option Value) (base : Heap) (A : Around) (outer : List Env) (s : Shared) (H : Hp) : Prop where
 frames : A.frames = some outer
 mod : Mod K mg base
 bs : ∀ b o, base.get? b = some o -> s.heap.get? b = some o /\ H b = none
 bsz : base.objs.size <= s.heap.objs.size
 funs : s.heap.FunFrames base outer
 frf : ∀ b ∈ frs outer, H b = none
 hok : HOk P w H s.heap
 bare : AllBare s.gens
def CE (outer : List Env) (P : Program) (w : World) (H : Hp) (s : Shared) (Q : VK) (u : Value) (s' : Shared) : Prop :=
 ∃ v H', s'.os = s.os /\ AllBare s'.gens /\ Un (frs outer) [] H H' s.heap s'.heap /\ HOk P w H' s'.heap /\ RelV v u /\ Q v H'
def CR (CX : CXT) (outer : List Env) (P : Program) (w : World) (H : Hp) (s : Shared) (Q : VK) (E : XK) (r : Result) (s' : Shared) : Prop :=
 match r with
 | .ok (.ret u) => CE outer P w H s Q u s'
 | .ok _ => False
 | .error e => CX outer H s E e s'
structure FnOk (P : Program) (w : World) (K : W.Frag) (mg : Str -> Option Value) (base : Heap) (CX : CXT) (k : Nat) (f : Addr) (fd : FuncData) (ps : List Str) (sp : Sp) : Prop where
 len : ∀ vs H Q E, sp vs H Q E -> vs.length = ps.length
 run : ∀ (A : Around) (outer : List Env) (s : Shared) (H : Hp) (args : Args) (us : List Value) (vs : List V) (Q : VK) (E : XK), Room k A -> Env0 P w K mg base A outer s H -> BindsTo s fd args (ps.zip us) -> Vals vs us -> sp vs H Q E ->
  codeAny (model P w) A (.call (.ref f) args) (CR CX outer P w H s Q E) s
theorem FnOk.mono {P : Program} {w : World} {K : W.Frag} {mg : Str -> Option Value} {base : Heap} {CX : CXT} {j k : Nat} {f : Addr} {fd : FuncData} {ps : List Str} {sp : Sp} (F : FnOk P w K mg base CX j f fd ps sp) (h : j <= k) :
  FnOk P w K mg base CX k f fd ps sp := ⟨F.len, fun A outer s H args us vs Q E hr => F.run A outer s H args us vs Q E (hr.mono h)⟩
theorem Env0.make {P : Program} {w : World} {K : W.Frag} {mg : Str -> Option Value} {base : Heap} {A : Around} {outer : List Env} {s : Shared} {H : Hp} (e : Env0 P w K mg base A outer s H) (C : Addr) (us : List Value) (kw : List (Str × Value)) :
  Env0 P w K mg base (A.under (.builtin "type.__call__" ⟨.ref C :: us, kw⟩)) outer s H := ⟨by first | exact e.frames | (simpa [Around.under, Code.envs, Code.isFrame, pushEnvs] using e.frames), e.mod, e.bs, e.bsz, e.funs, e.frf, e.hok, e.bare⟩
section
variable {X : Cx} {pins : List (Addr × Obj)} {σ : St} {H : Hp} {s s' : Shared}
theorem Inv.env0 (I : Inv X pins σ H s) : Env0 X.prog X.w X.K X.mg X.base X.A X.stack s H :=
 ⟨I.ok.frames, I.ok.mod, I.bs, Nat.le_trans I.ok.bsz I.sz, I.stack, I.stkFree, I.hok, I.bare⟩
theorem Inv.after {Q : VK} {u : Value} (I : Inv X pins σ H s) (h : CE X.stack X.prog X.w H s Q u s') : EP X pins σ Q u s' := by
 obtain ⟨v, H', os, bare, un, hok, r, q⟩ := h
 obtain ⟨hh, g, d, t, os'⟩ := s'
 obtain rfl : os' = s.os := os
 exact ⟨v, H', I.call (h' := hh) (g' := g) (d' := d) (t' := t) (ch := []) un hok bare (fun b z => absurd z (by simp)), r, q⟩
end
def yz7 (sp : Sp) (dvs : List V) (E : XK) (t : TA) : TE := fun σ H Q => t σ H fun vs H1 => sp (vs ++ dvs) H1 Q E
def D0 (C : Addr) (m : Str) (sp : Sp) (dvs : List V) (E : XK) (ta : TE) (t : TA) : TE := fun σ H Q => ta σ H fun x H1 => ∃ a dx fs, x = .ref a /\ H1 a = some (.ins C dx fs) /\ fs.lookup m = none /\
 t σ H1 fun vs H2 => sp (x :: (vs ++ dvs)) H2 Q E
def yc5 (C : Addr) (sp : Sp) (dvs : List V) (E : XK) (t : TA) : TE := fun σ H Q => t σ H fun vs H1 => ∀ x dx, H1 x = none -> H1 dx = none -> dx ≠ x ->
 sp (.ref x :: (vs ++ dvs)) (upd (upd H1 dx (.own x)) x (.ins C dx [])) (fun v H2 => v = .non /\ Q (.ref x) H2) E
def Binds (K : W.Frag) (fd : FuncData) (ps : List Str) (ds : List Value) : Prop :=
 ∀ (s : Shared) (us : List Value), K.In s.heap -> (us ++ ds).length = ps.length -> BindsTo s fd ⟨us, []⟩ (ps.zip (us ++ ds))
theorem Binds.all {K : W.Frag} {fd : FuncData} {ps : List Str} (h : ∀ us : List Value, us.length = ps.length -> bindArgs fd ⟨us, []⟩ = pure (ps.zip us)) : Binds K fd ps [] := fun s us _ hl => by
 rw [append_nil] at hl ⊢
 exact .of_eq (h us hl)
def E6 (CX : CXT) (X : Cx) (E : XK) : Prop := ∀ (pins : List (Addr × Obj)) (σ : St) (H : Hp) (s : Shared) (e : Value) (s' : Shared), Inv X pins σ H s -> CX X.stack H s E e s' -> X.xe e s'
section
variable {X : Cx} {CX : CXT} {k : Nat} {f C : Addr} {fd : FuncData} {ps : List Str} {sp : Sp} {dvs : List V} {ds : List Value} {E : XK} {x m : Str} {p pos apos : Pos} {e o : Expr} {es : List Expr} {ta : TE} {t : TA}
theorem yy3 {pins : List (Addr × Obj)} {σ : St} {H : Hp} {s : Shared} {Q : VK} {us : List Value} {vs : List V} (F : FnOk X.prog X.w X.K X.mg X.base CX k f fd ps sp) (hr : Room k X.A) (hb : Binds X.K fd ps ds) (hd : Vals dvs ds) (hx : E6 CX X E)
  (I : Inv X pins σ H s) (r : Vals vs us) (h : sp (vs ++ dvs) H Q E) : wpAny (model X.prog X.w) X.A (call (.ref f) us) (EP X pins σ Q) X.xe s := by
 have r2 : Vals (vs ++ dvs) (us ++ ds) := r.append hd
 have hl : (us ++ ds).length = ps.length := by rw [<- r2.length]; exact F.len _ _ _ _ h
 refine wpAny_call (codeAny_mono (F.run X.A X.stack s H ⟨us, []⟩ (us ++ ds) (vs ++ dvs) Q E hr I.env0 (hb s us I.kIn hl) r2 h) fun r s' hq => ?_)
 cases r with
 | error e => exact hx pins σ H s e s' I hq
 | ok fl =>
  cases fl with
  | ret u => exact I.after hq
  | next => exact False.elim hq
  | brk => exact False.elim hq
  | cont => exact False.elim hq
theorem xy8 (F : FnOk X.prog X.w X.K X.mg X.base CX k f fd ps sp) (hr : Room k X.A) (hg : Gl X x) (hm : X.mg x = some (.ref f)) (hk : W.keepIn X.K (.ref f) = true) (hb : Binds X.K fd ps ds) (hd : Vals dvs ds) (hx : E6 CX X E)
  (ha : PA X (e :: es) t) (hdb : (x == ("__debug__" : Str)) = false := by decide) (he : starEach (e :: es) X.env = (false, eval e X.env) :: starEach es X.env := by rfl) (hpl : (backTo pos (starEach es X.env)).any (·.1) = false := by rfl) :
  PE X (.Call (.Name x p) (e :: es) [] pos) (yz7 sp dvs E t) := by
 intro pins s σ H Q I h
 refine wpAny_Call_Name_kw (zm8 I hg hm ?_ hdb)
 refine W.callWith_K (h₀ := X.base) I.ok.mod.kin hk (thn (ha pos pins s σ H _ I h) fun us s1 ⟨vs, H1, I1, r, q⟩ => ⟨I1.kIn, ?_⟩) he hpl
 exact yy3 F hr hb hd hx I1 r q
theorem xy4 {pl : Sem Bool} (he : PE X o ta) (c : Cls X.K C) (hm : Meth X.K C m f) (F : FnOk X.prog X.w X.K X.mg X.base CX k f fd ps sp) (hr : Room k X.A) (hb : Binds X.K fd ps ds) (hd : Vals dvs ds) (hx : E6 CX X E) (ha : PA X (e :: es) t)
  (hst : starEach (e :: es) X.env = (false, eval e X.env) :: starEach es X.env := by rfl) (hpl : (backTo pos (starEach es X.env)).any (·.1) = false := by rfl)
  (ht : eval (.Call (.Attribute o m apos) (e :: es) [] pos) X.env = (do
   let ov ← eval o X.env
   standAt apos.atName
   let (f, first) ← holding [ov] (getMethod ov m pl)
   callWith pos f first (backTo pos (starEach (e :: es) X.env)) (backToKw pos (keywordEach [] X.env))) := by rfl) :
  PE X (.Call (.Attribute o m apos) (e :: es) [] pos) (D0 C m sp dvs E ta t) := by
 intro pins s σ H Q I h
 refine W.methodCall_KW (pl := pl) (thn (he pins s σ H _ I h) fun u s1 hpat => ?_) ht
 obtain ⟨x, H1, I1, rx, a, dx, fs, ex, ea, l, q⟩ := hpat
 subst ex
 obtain rfl : u = Value.ref a := rx
 refine C9 I1 ea c hm l ?_
 refine W.callWith_K (first := [.ref a]) (h₀ := X.base) I.ok.mod.kin hm.kp (thn (ha pos pins s1 σ H1 _ I1 q) fun us s2 ⟨vs, H2, I2, r, q2⟩ => ⟨I2.kIn, ?_⟩) hst hpl
 exact yy3 (us := .ref a :: us) (vs := .ref a :: vs) F hr hb hd hx I2 (.cons rfl r) q2
theorem yk4 {pl : Sem Bool} (he : PE X o ta) (c : Cls X.K C) (hm : Meth X.K C m f) (F : FnOk X.prog X.w X.K X.mg X.base CX k f fd ps sp) (hr : Room k X.A) (hb : Binds X.K fd ps ds) (hd : Vals dvs ds) (hx : E6 CX X E)
  (ht : eval (.Call (.Attribute o m apos) [] [] pos) X.env = (do
   let ov ← eval o X.env
   standAt apos.atName
   let (f, first) ← holding [ov] (getMethod ov m pl)
   callWith pos f first (backTo pos (starEach [] X.env)) (backToKw pos (keywordEach [] X.env))) := by rfl) :
  PE X (.Call (.Attribute o m apos) [] [] pos) (D0 C m sp dvs E ta tNil) := by
 intro pins s σ H Q I h
 refine W.methodCall_KW (pl := pl) (thn (he pins s σ H _ I h) fun u s1 hpat => ?_) ht
 obtain ⟨x, H1, I1, rx, a, dx, fs, ex, ea, l, q⟩ := hpat
 subst ex
 obtain rfl : u = Value.ref a := rx
 refine C9 I1 ea c hm l ?_
 exact W.callWith_K0 (first := [.ref a]) I1.kIn hm.kp (yy3 (us := [.ref a]) (vs := [.ref a]) F hr hb hd hx I1 (.cons rfl .nil) q)
structure Mk (K : W.Frag) (C f : Addr) : Prop where
 makes : W.makesIn K C = true
 init : W.findIn K (.ref C) "__init__" = some (some (.ref f))
 fn : W.isFn K (.ref f) = true
 kp : W.keepIn K (.ref C) = true
theorem yn8 {pins : List (Addr × Obj)} {σ : St} {H : Hp} {s : Shared} {Q : VK} {us : List Value} {vs : List V} (M : Mk X.K C f) (F : FnOk X.prog X.w X.K X.mg X.base CX k f fd ps sp) (hr : Room (k + 1) X.A) (hb : Binds X.K fd ps ds) (hd : Vals dvs ds)
  (hx : E6 CX X E) (I : Inv X pins σ H s) (r : Vals vs us)
  (h : ∀ x dx, H x = none -> H dx = none -> dx ≠ x -> sp (.ref x :: (vs ++ dvs)) (upd (upd H dx (.own x)) x (.ins C dx [])) (fun v H2 => v = .non /\ Q (.ref x) H2) E) :
  wpAny (model X.prog X.w) X.A (call (.ref C) us) (EP X pins σ Q) X.xe s := by
 have hq := h (s.heap.objs.size + 1) s.heap.objs.size (I.hok.fresh (Nat.le_succ _)) (I.hok.fresh (Nat.le_refl _)) (Nat.ne_of_lt (Nat.lt_succ_self _))
 have I2 := Inv.made (C := C) I
 have r2 : Vals (V.ref (s.heap.objs.size + 1) :: (vs ++ dvs)) (Value.ref (s.heap.objs.size + 1) :: (us ++ ds)) := .cons rfl (r.append hd)
 have hl : (Value.ref (s.heap.objs.size + 1) :: us ++ ds).length = ps.length := by
  have e := r2.length
  rw [F.len _ _ _ _ hq] at e
  exact e.symm
 refine wpAny_call (yi5 (f := f) I.kIn M.makes M.init (beq_iff_eq.mp M.fn) (codeAny_mono (F.run _ X.stack _ _ ⟨Value.ref (s.heap.objs.size + 1) :: us, []⟩ (Value.ref (s.heap.objs.size + 1) :: (us ++ ds)) _ _ E (hr.make C us [])
  (I2.env0.make C us []) (hb _ (Value.ref (s.heap.objs.size + 1) :: us) I2.kIn hl) r2 hq) fun r s' hq' => ?_))
 cases r with
 | error e => exact hx pins σ _ _ e s' I2 hq'
 | ok fl =>
  cases fl with
  | ret u =>
   obtain ⟨v, H', I3, rv, ev, q3⟩ := I2.after hq'
   subst ev
   exact ⟨rv, ⟨V.ref (s.heap.objs.size + 1), H', I3, rfl, q3⟩⟩
  | next => exact False.elim hq'
  | brk => exact False.elim hq'
  | cont => exact False.elim hq'
theorem xy5 (M : Mk X.K C f) (F : FnOk X.prog X.w X.K X.mg X.base CX k f fd ps sp) (hr : Room (k + 1) X.A) (hg : Gl X x) (hm : X.mg x = some (.ref C)) (hb : Binds X.K fd ps ds) (hd : Vals dvs ds) (hx : E6 CX X E)
  (ha : PA X (e :: es) t) (hdb : (x == ("__debug__" : Str)) = false := by decide) (he : starEach (e :: es) X.env = (false, eval e X.env) :: starEach es X.env := by rfl) (hpl : (backTo pos (starEach es X.env)).any (·.1) = false := by rfl) :
  PE X (.Call (.Name x p) (e :: es) [] pos) (yc5 C sp dvs E t) := by
 intro pins s σ H Q I h
 refine wpAny_Call_Name_kw (zm8 I hg hm ?_ hdb)
 refine W.callWith_K (h₀ := X.base) I.ok.mod.kin M.kp (thn (ha pos pins s σ H _ I h) fun us s1 ⟨vs, H1, I1, r, q⟩ => ⟨I1.kIn, ?_⟩) he hpl
 exact yn8 M F hr hb hd hx I1 r q
end
def PK (X : Cx) (kws : List Keyword) (t : TA) : Prop :=
 ∀ (pos : Pos) (pins : List (Addr × Obj)) (s : Shared) (σ : St) (H : Hp) (Q : List V -> Hp -> Prop), Inv X pins σ H s -> t σ H Q -> wpAny (model X.prog X.w) X.A (evalAll ((backToKw pos (keywordEach kws X.env)).map (·.2))) (AP X pins σ Q) X.xe s
section
variable {X : Cx} {CX : CXT} {k : Nat} {f C : Addr} {fd : FuncData} {ps ks : List Str} {sp : Sp} {E : XK} {x m : Str} {p pos apos kpos : Pos} {e o : Expr} {es : List Expr} {kws : List Keyword} {te ta : TE} {t tk : TA} {nm : Option Str}
theorem zu4 : PK X [] tNil := fun _ _ _ _ H Q I h => wpAny_evalAll_nil ⟨[], H, I, .nil, h⟩
theorem P7 (ha : PE X e te) (hr : PK X kws t) : PK X (⟨nm, e, kpos⟩ :: kws) (xo0 te t) := by
 intro pos pins s σ H Q I h
 show wpAny _ _ (evalAll ((do let v ← eval e X.env; standAt pos; pure v) :: (backToKw pos (keywordEach kws X.env)).map (·.2))) _ _ s
 refine wpAny_evalAll_cons (wpAny_bind (thn (ha pins s σ H _ I h) fun u s1 ⟨x, H1, I1, r1, q1⟩ => wpAny_bind (wpAny_standAt (wpAny_pure ?_))))
 exact thn (hr pos pins s1 σ H1 _ I1 q1) fun us s2 ⟨xs, H2, I2, r2, q2⟩ => ⟨x :: xs, H2, I2, .cons r1 r2, q2⟩
structure KBinds (K : W.Frag) (fd : FuncData) (ps ks : List Str) (g : List Value -> List Value -> List Value) (gV : List V -> List V -> List V) : Prop where
 to : ∀ (s : Shared) (us ws : List Value), K.In s.heap -> (g us ws).length = ps.length -> BindsTo s fd ⟨us, ks.zip ws⟩ (ps.zip (g us ws))
 rel : ∀ {vs : List V} {us : List Value} {zs : List V} {ws : List Value}, Vals vs us -> Vals zs ws -> Vals (gV vs zs) (g us ws)
variable {g : List Value -> List Value -> List Value} {gV : List V -> List V -> List V}
end
structure FnScope (N P : List Str) (sc : Scope) : Prop where
 kind : sc.kind = .function
 co : sc.isCoroutine = false
 gen : sc.isGenerator = false
 nd : N.Nodup
 pre : N.take P.length = P
 par : ∀ x ∈ P, sc.names.lookup x = some .local \/ sc.names.lookup x = some .cell
 nofree : ∀ y ∈ sc.names, y.2 ≠ .free
theorem zp0 {kindOf : Str -> Option NameKind} {x : Str} : ∀ {binds : List (Str × Value)} {m : Str -> Option Value}, (∀ v, (x, v) ∉ binds) -> bindL kindOf binds m x = m x
 | [], _, _ => rfl
 | (n, v) :: r, m, h => by
  unfold bindL
  rw [zp0 fun w hw => h w (mem_cons_of_mem _ hw)]
  split
  ·have : x ≠ n := by rintro rfl; exact h v mem_cons_self
   simp [this]
  ·rfl
theorem zp2 {kindOf : Str -> Option NameKind} {x : Str} : ∀ {binds : List (Str × Value)} {m : Str -> Option Value}, (∀ v, (x, v) ∉ binds) -> bindC kindOf binds m x = m x
 | [], _, _ => rfl
 | (n, v) :: r, m, h => by
  unfold bindC
  rw [zp2 fun w hw => h w (mem_cons_of_mem _ hw)]
  split
  ·rfl
  ·have : x ≠ n := by rintro rfl; exact h v mem_cons_self
   simp [this]
theorem zp1 {kindOf : Str -> Option NameKind} {x : Str} {v : Value} : ∀ {P : List Str} {vs : List Value} {i : Nat} {m : Str -> Option Value}, P.Nodup -> P[i]? = some x -> vs[i]? = some v -> kindOf x = some .local ->
  bindL kindOf (P.zip vs) m x = some v
 | [], _, _, _, _, h, _, _ => by simp at h
 | _ :: _, [], _, _, _, _, h, _ => by simp at h
 | p :: P, w :: vs, 0, m, nd, h1, h2, hk => by
  simp at h1 h2; subst h1; subst h2
  show bindL kindOf ((p, w) :: P.zip vs) m p = _
  unfold bindL
  rw [zp0 fun v hv => (List.nodup_cons.mp nd).1 (of_mem_zip hv).1, if_pos hk]
  simp
 | p :: P, w :: vs, i + 1, m, nd, h1, h2, hk => by
  show bindL kindOf ((p, w) :: P.zip vs) m x = _
  unfold bindL
  exact zp1 (i := i) (List.nodup_cons.mp nd).2 (by simpa using h1) (by simpa using h2) hk
theorem zp3 {kindOf : Str -> Option NameKind} {x : Str} {v : Value} : ∀ {P : List Str} {vs : List Value} {i : Nat} {m : Str -> Option Value}, P.Nodup -> P[i]? = some x -> vs[i]? = some v -> kindOf x ≠ some .local ->
  bindC kindOf (P.zip vs) m x = some v
 | [], _, _, _, _, h, _, _ => by simp at h
 | _ :: _, [], _, _, _, _, h, _ => by simp at h
 | p :: P, w :: vs, 0, m, nd, h1, h2, hk => by
  simp at h1 h2; subst h1; subst h2
  show bindC kindOf ((p, w) :: P.zip vs) m p = _
  unfold bindC
  rw [zp2 fun v hv => (List.nodup_cons.mp nd).1 (of_mem_zip hv).1, if_neg hk]
  simp
 | p :: P, w :: vs, i + 1, m, nd, h1, h2, hk => by
  show bindC kindOf ((p, w) :: P.zip vs) m x = _
  unfold bindC
  exact zp3 (i := i) (List.nodup_cons.mp nd).2 (by simpa using h1) (by simpa using h2) hk
def start (N : List Str) (vs : List V) : St := vs.map some ++ List.replicate (N.length - vs.length) none
def cxOf (CX : CXT) (P : Program) (w : World) (K : W.Frag) (mg : Str -> Option Value) (base : Heap) (N : List Str) (qual : Str) (scope : Scope) (f : Addr) (cd : Value) (A : Around) (outer : List Env) (s : Shared) (H : Hp) (E : XK) : Cx where
 prog := P
 w := w
 K := K
 mg := mg
 base := base
 A := A.deeper (envOfC qual scope s.heap.objs.size f cd)
 N := N
 s₀ := s
 H₀ := H
 env := envOfC qual scope s.heap.objs.size f cd
 outer := outer
 stack := envOfC qual scope s.heap.objs.size f cd :: outer
 ex := []
 calm := true
 fn := fun _ => true
 pn := []
 xe := fun e s' => wpAny (model P w) (A.deeper (envOfC qual scope s.heap.objs.size f cd)) (leaving (envOfC qual scope s.heap.objs.size f cd) e) (fun _ s'' => CX outer H s E e s'') (fun e' s'' => CX outer H s E e' s'') s'
theorem zf5 {sc : Scope} {n : Nat} {x : Str} (h : sc.names.lookup x = some .cell) : ∃ c, (cellsFrom n sc.names []).lookup x = some c := by
 have q := W.cellsFrom_some sc.names n [] (.inl h)
 exact Option.isSome_iff_exists.mp q
theorem yr3 {CX : CXT} {P : Program} {w : World} {K : W.Frag} {mg : Str -> Option Value} {base : Heap} {N ps : List Str} {qual : Str} {scope : Scope} {f : Addr} {cd : Value} {A : Around} {outer : List Env} {s s1 : Shared} {H : Hp} {E : XK} {us : List Value} {vs : List V}
  (S : FnScope N ps scope) (hd : A.handled = none) (e0 : Env0 P w K mg base A outer s H) (hl : vs.length = ps.length) (r : Vals vs us)
  (x : InCallC s s.heap.objs.size (bindL (envOfC qual scope s.heap.objs.size f cd).kindOf (ps.zip us) fun _ => none) (cellsFrom (s.heap.objs.size + 1) scope.names []) (bindC (envOfC qual scope s.heap.objs.size f cd).kindOf (ps.zip us) fun _ => none) s1) :
  Inv (cxOf CX P w K mg base N qual scope f cd A outer s H E) [] (start N vs) H s1 := by
 have hpl : ps.length <= N.length := by have := congrArg List.length S.pre; rw [length_take] at this; omega
 obtain ⟨h1, tk, rfl, hk⟩ := x.done
 have noA : ∀ b : Addr, b ∉ (cxOf CX P w K mg base N qual scope f cd A outer s H E).ex := fun b z => absurd (show b ∈ ([] : List Addr) from z) (by simp)
 refine ⟨⟨e0.mod, S.kind, rfl, rfl, Nat.le_refl _, fun y z c h1 h2 => ?_, fun y hy => ?_, fun y c _ h => ?_, fun _ => hd, Around.frames_deeper e0.frames, .inr ⟨rfl, rfl⟩, fun b z => absurd z (noA b), e0.bs, e0.bsz, fun b _ _ => noA b, fun b z => absurd z (noA b), e0.funs, e0.frf⟩,
  rfl, e0.bare, Un.kept hk, ⟨_, x.toInCall.ns, fun i y v h1 h2 h3 => ?_⟩, fun y c h => ⟨_, x.cell y c h⟩, e0.hok.fresh (Nat.le_refl _), fun y c h => ?_, fun p hp => absurd (show p ∈ ([] : List (Addr × Obj)) from hp) (by simp), e0.hok.kept hk, ?_⟩
 ·exact name_of_addr x.apart (PySem.mem_of_lookup h1) (PySem.mem_of_lookup h2)
 ·have hy : scope.names.lookup y = some .cell \/ scope.names.lookup y = some .free := hy
  rcases hy with hy | hy
  ·exact zf5 hy
  ·exact absurd rfl (S.nofree _ (PySem.mem_of_lookup hy))
 ·exact Nat.le_of_lt (x.above y c (PySem.mem_of_lookup h))
 ·have hi : i < vs.length := by
   unfold start at h2
   by_cases hi : i < vs.length
   ·exact hi
   ·rw [getElem?_append_right (by simpa using hi)] at h2
    rw [getElem?_replicate] at h2
    split at h2 <;> cases h2
  have ha : vs[i]? = some v := by
   unfold start at h2
   rw [getElem?_append_left (by simpa using hi), getElem?_map] at h2
   cases e : vs[i]? with
   | none => rw [e] at h2; cases h2
   | some a => rw [e] at h2; cases h2; rfl
  obtain ⟨u, hu, rv⟩ := r.get ha
  have hp : ps[i]? = some y := by
   rw [<- S.pre, getElem?_take_of_lt (by omega)]; exact h1
  have ndP : ps.Nodup := by rw [<- S.pre]; exact S.nd.sublist (take_sublist _ _)
  refine ⟨u, rv, ?_⟩
  rcases S.par y (mem_of_getElem? hp) with k | k
  ·exact .inl ⟨k, zp1 ndP hp hu k⟩
  ·obtain ⟨c, e⟩ := zf5 (n := s.heap.objs.size + 1) k
   refine .inr ⟨.inl k, c, e, ?_⟩
   have q := x.cell y c e
   rw [zp3 ndP hp hu (by show scope.names.lookup y ≠ _; rw [k]; decide)] at q
   exact q
 ·exact e0.hok.fresh (Nat.le_of_lt (x.above y c (PySem.mem_of_lookup h)))
 ·unfold start
  show _ = N.length
  rw [length_append, length_map, length_replicate]
  omega
theorem xa1 {CX : CXT} {P : Program} {w : World} {K : W.Frag} {mg : Str -> Option Value} {base : Heap} {k : Nat} {f : Addr} {name qual : Str} {params : Arguments} {body : List Stmt} {scope : Scope} {dV kV doc pm cdv ct oc : Value} {an od : Option Addr}
  {osl : Array (Option Value)} {N ps : List Str} {sp : Sp} (lk : K.lookup f = some ⟨oc, od, .func (W.fnOf name qual params body scope dV kV doc pm an cdv ct), osl⟩) (hcd : W.codeIn K cdv qual = true) (S : FnScope N ps scope)
  (len : ∀ vs H Q E, sp vs H Q E -> vs.length = ps.length)
  (hbody : ∀ (A : Around) (outer : List Env) (s : Shared) (H : Hp) (vs : List V) (Q : VK) (E : XK), Room k (A.deeper (envOfC qual scope s.heap.objs.size f cdv)) -> sp vs H Q E ->
   ∃ t, PSs (cxOf CX P w K mg base N qual scope f cdv A outer s H E) body t /\ t { nx := fun _ H' => Q .non H', rt := Q } (start N vs) H) :
  FnOk P w K mg base CX (k + 1) f (W.fnOf name qual params body scope dV kV doc pm an cdv ct) ps sp := by
 refine ⟨len, fun A outer s H args us vs Q E hr e0 hb r hsp => ?_⟩
 have hl := len _ _ _ _ hsp
 have KX : K.In s.heap := e0.mod.kin.keeps fun b o e => (e0.bs b o e).1
 have lim : s.heap.NoLimit := e0.mod.nolimit.keeps fun b o e => (e0.bs b o e).1
 have hkind : ∀ y ∈ ps.zip us, scope.names.lookup y.1 = some .local \/ (scope.names.lookup y.1 = some .cell /\ ((cellsFrom (s.heap.objs.size + 1) scope.names []).lookup y.1).isSome = true) := fun ⟨n, v⟩ hy => by
  rcases S.par n (of_mem_zip hy).1 with q | q
  ·exact .inl q
  ·exact .inr ⟨q, W.cellsFrom_some _ _ _ (.inl q)⟩
 refine codeAny_call_function hr.depth (KX _ _ lk) rfl S.co S.gen rfl (W.codeRec_of KX hcd) (hb _ _ _ _ ?_)
 refine wpAny_newFunctionEnv_cells S.kind hkind fun env he s1 x => ?_
 subst he
 refine ⟨lim.keeps x.toInCall.keep, codeAny_func ?_⟩
 obtain ⟨t, ht, hq⟩ := hbody A outer s H vs Q E (hr.deeper _) hsp
 have I : Inv (cxOf CX P w K mg base N qual scope f cdv A outer s H E) [] (start N vs) H s1 := yr3 S hr.hd e0 hl r x
 refine wpAny_mono (ht [] s1 (start N vs) H _ I hq) (fun fl s' hs => ?_) fun e s' hs => hs
 have fin : ∀ {σ' : St} {H' : Hp} {v : V} {u : Value}, Inv (cxOf CX P w K mg base N qual scope f cdv A outer s H E) [] σ' H' s' -> RelV v u -> Q v H' -> CE outer P w H s Q u s' :=
  fun {σ' H' v u} J rv q => ⟨v, H', J.os, J.bare, J.base, J.hok, rv, q⟩
 cases fl with
 | ret u =>
  obtain ⟨v, σ', H', J, rv, q⟩ := hs
  exact fin J rv q
 | next =>
  obtain ⟨σ', H', J, q⟩ := hs
  exact fin (v := V.non) (u := Value.none) J rfl q
 | brk =>
  obtain ⟨_, _, _, q⟩ := hs
  exact False.elim q
 | cont =>
  obtain ⟨_, _, _, q⟩ := hs
  exact False.elim q
end
section
section
variable {X : Cx} {x : Str} {p pos : Pos} {e : Expr} {es : List Expr} {t : TA} {id T : String} {r : List V -> Hp -> VK -> Prop}
def tCB (r : List V -> Hp -> VK -> Prop) (t : TA) : TE := fun σ H Q => t σ H fun vs H1 => r vs H1 Q
theorem zz7 (hc : zp7 X (.builtin id) r) (hg : Gl X x) (hm : X.mg x = none) (hv : bootBuiltins x = some (.builtin id)) (ha : PA X (e :: es) t) (hn : x ≠ "__name__" := by decide) (hdb : (x == ("__debug__" : Str)) = false := by decide)
  (he : starEach (e :: es) X.env = (false, eval e X.env) :: starEach es X.env := by rfl) (hpl : (backTo pos (starEach es X.env)).any (·.1) = false := by rfl) : PE X (.Call (.Name x p) (e :: es) [] pos) (tCB r t) := by
 intro pins s σ H Q I h
 refine wpAny_Call_Name_kw (Y8 I hg hm hv ?_ hn hdb)
 exact PyProof.Rows.callWith_builtin1 (thn (ha pos pins s σ H _ I h) fun us s1 ⟨vs, H1, I1, r1, q1⟩ => hc pins s1 σ H1 vs us Q I1 r1 q1) he hpl
theorem Q0 (hc : zp7 X (.type T) r) (hg : Gl X x) (hm : X.mg x = none) (hv : bootBuiltins x = some (.type T)) (ha : PA X (e :: es) t) (hn : x ≠ "__name__" := by decide) (hdb : (x == ("__debug__" : Str)) = false := by decide)
  (he : starEach (e :: es) X.env = (false, eval e X.env) :: starEach es X.env := by rfl) (hpl : (backTo pos (starEach es X.env)).any (·.1) = false := by rfl) : PE X (.Call (.Name x p) (e :: es) [] pos) (tCB r t) := by
 intro pins s σ H Q I h
 refine wpAny_Call_Name_kw (Y8 I hg hm hv ?_ hn hdb)
 exact PyProof.Rows.callWith_type1 (thn (ha pos pins s σ H _ I h) fun us s1 ⟨vs, H1, I1, r1, q1⟩ => hc pins s1 σ H1 vs us Q I1 r1 q1) he hpl
end
end
end L2
namespace HT
open PySem PyProof.Rows
theorem rcLt_int (A : Around) (s : Shared) (a : Int) (t : Tok) (c : Int) (u : Tok) (prog : Program) (w : World) (E : Value -> Shared -> Prop) (Q : Value -> Shared -> Prop) (h : Q (.bool (decide (a < c))) s) :
  wpAny (model prog w) A (richCompare .Lt (.int a t) (.int c u)) Q E s :=
 (PyProof.Rows.lt_int h : wpAny (model prog w) A (compareOp .Lt (.int a t) (.int c u)) Q E s)
section
open PySem.SeqAt
open PySem.AutoSeq1 (wpAny_loadPart')
open PySem.MeetsSeq PySem.MeetsSeq2 PySem.MeetsSeq3
end
section
variable {prog : Program} {w : World} {A : Around} {E : Value -> Shared -> Prop} {s : Shared}
def sIx (n d : Nat) : Option Int -> Nat
 | none => d
 | some v => if v < 0 then (v + (n : Int)).toNat else min v.toNat n
theorem sIx_none (n d : Nat) : sIx n d none = d := rfl
theorem sIx_nat (n d k : Nat) : sIx n d (some (k : Int)) = min k n := by
 show (if (k : Int) < 0 then ((k : Int) + (n : Int)).toNat else min (k : Int).toNat n) = min k n
 rw [if_neg (by omega), Int.toNat_natCast]
end
end HT
namespace L2
open List
open PySem PySem.Spec PyProof.Rows
section
abbrev TO := St -> Hp -> (Option Int -> Hp -> Prop) -> Prop
def PO (X : Cx) (e : Option Expr) (t : TO) : Prop :=
 ∀ (pins : List (Addr × Obj)) (s : Shared) (σ : St) (H : Hp) (Q : Option Int -> Hp -> Prop), Inv X pins σ H s -> t σ H Q ->
  wpAny (model X.prog X.w) X.A (evalPart e X.env) (fun u s' => ∃ o H', Inv X pins σ H' s' /\ IsPart u o /\ Q o H') X.xe s
def yc4 : TO := fun _ H Q => Q none H
def xe7 (t : TE) : TO := fun σ H Q => t σ H fun x H1 => ∃ i, x = .int i /\ Q (some i) H1
section
variable {X : Cx} {e : Expr} {te : TE} {lo hi : Option Expr} {tl th : TO} {pos p2 : Pos}
theorem xz9 : PO X none yc4 := by
 intro pins s σ H Q I h
 rw [evalPart_none]
 exact wpAny_pure ⟨none, H, I, .none, h⟩
theorem xz8 (h : PE X e te) : PO X (some e) (xe7 te) := by
 intro pins s σ H Q I hw
 rw [evalPart_some]
 refine thn (h pins s σ H _ I hw) fun u s1 hpat => ?_
 obtain ⟨x, H1, I1, r1, q1⟩ := hpat
 obtain ⟨i, rfl, q⟩ := q1
 obtain ⟨t, rfl⟩ := r1
 exact ⟨some i, H1, I1, .int i t, q⟩
def SlR (X : Cx) (r : V -> Option Int -> Option Int -> Hp -> VK -> Prop) : Prop :=
 ∀ (pins : List (Addr × Obj)) (s : Shared) (σ : St) (H : Hp) (x : V) (v vl vu : Value) (lo hi : Option Int) (sl : Addr) (Q : VK), Inv X pins σ H s -> RelV x v -> s.heap.IsSliceOf sl vl vu .none -> IsPart vl lo -> IsPart vu hi -> r x lo hi H Q ->
  ∃ T id, typeLookup (.type T) "__getitem__" = pure (some (.builtin id)) /\ s.TypeIs v T /\ wpAny (model X.prog X.w) X.A (getItem v (.ref sl)) (EP X pins σ Q) X.xe s
def tSl (r : V -> Option Int -> Option Int -> Hp -> VK -> Prop) (te : TE) (tl th : TO) : TE := fun σ H Q => te σ H fun x H1 => tl σ H1 fun l H2 => th σ H2 fun u H3 => r x l u H3 Q
theorem yk2 {r : V -> Option Int -> Option Int -> Hp -> VK -> Prop} (hr : SlR X r) (he : PE X e te) (hl : PO X lo tl) (hu : PO X hi th) : PE X (.Subscript e (.Slice lo hi none p2) pos) (tSl r te tl th) := by
 intro pins s σ H Q I h
 refine Subscript_ (thn (he pins s σ H _ I h) fun v s1 hpat => ?_)
 obtain ⟨x, H1, I1, r1, q1⟩ := hpat
 refine wpAny_Slice (thn (hl pins s1 σ H1 _ I1 q1) fun vl s2 ⟨l, H2, I2, pl, q2⟩ => thn (hu pins s2 σ H2 _ I2 q2) fun vu s3 hpat => ?_)
 obtain ⟨u, H3, I3, pu, q3⟩ := hpat
 rw [evalPart_none]
 refine wpAny_pure ?_
 have I4 : Inv X pins σ H3 { s3 with heap := s3.heap.push { cls := .type "slice", data := .fields #[vl, vu, .none] } } := I3.kept (t' := s3.toks) fun b ob q => Heap.get?_push_of_some _ q
 obtain ⟨T, id, hT, ht, hg⟩ := hr pins { s3 with heap := s3.heap.push { cls := .type "slice", data := .fields #[vl, vu, .none] } } σ H3 x v vl vu l u s3.heap.objs.size Q I4 r1 (Heap.IsSliceOf.new ..) pl pu q3
 show wpAny (model X.prog X.w) X.A (subscriptTail e (.Slice lo hi none p2) v (.ref s3.heap.objs.size)) (EP X pins σ Q) X.xe { s3 with heap := s3.heap.push { cls := .type "slice", data := .fields #[vl, vu, .none] } }
 exact tail_any (ops := [.ref s3.heap.objs.size, v]) ht hT hg (by with_unfolding_all rfl)
def cutV (xs : List V) (lo hi : Option Int) : List V := (xs.drop (HT.sIx xs.length 0 lo)).take (HT.sIx xs.length xs.length hi - HT.sIx xs.length 0 lo)
theorem zj0 (xs : List V) (lo hi : Option Int) : (cutV xs lo hi).length <= xs.length := by
 unfold cutV
 rw [length_take, length_drop]
 omega
end
end
section
def ixN (n : Nat) (i : Int) : Option Nat := if 0 <= i then (if i < n then some i.toNat else none) else if -(n : Int) <= i then some (i + n).toNat else none
def atI {α : Type} (xs : List α) (i : Int) : Option α := (ixN xs.length i).bind fun j => xs[j]?
theorem yr2 {n : Nat} {i : Int} {j : Nat} (h : ixN n i = some j) : seqIndex? i n = some j /\ j < n /\ -(n : Int) <= i /\ i < n := by
 unfold ixN at h
 by_cases h0 : 0 <= i
 ·rw [if_pos h0] at h
  by_cases h1 : i < n
  ·rw [if_pos h1] at h
   have e : i.toNat = j := Option.some.inj h
   exact ⟨by rw [seqIndex_of h0 h1, e], by omega, by omega, h1⟩
  ·rw [if_neg h1] at h; cases h
 ·rw [if_neg h0] at h
  by_cases h1 : -(n : Int) <= i
  ·rw [if_pos h1] at h
   have e : (i + n).toNat = j := Option.some.inj h
   exact ⟨by rw [seqIndex_neg (by omega) h1, e], by omega, h1, by omega⟩
  ·rw [if_neg h1] at h; cases h
theorem xr1 {α : Type} {xs : List α} {i : Int} {v : α} (h : atI xs i = some v) : ∃ j, seqIndex? i xs.length = some j /\ xs[j]? = some v /\ j < xs.length /\ -(xs.length : Int) <= i /\ i < xs.length := by
 unfold atI at h
 cases e : ixN xs.length i with
 | none => rw [e] at h; cases h
 | some j =>
  rw [e] at h
  obtain ⟨h1, h2, h3, h4⟩ := yr2 e
  exact ⟨j, h1, h, h2, h3, h4⟩
theorem atI_last {α : Type} (xs : List α) (v : α) : atI (xs ++ [v]) (-1) = some v := by
 have hl : (xs ++ [v]).length = xs.length + 1 := by simp
 have e : ixN (xs ++ [v]).length (-1) = some xs.length := by
  unfold ixN
  rw [hl, if_neg (by decide), if_pos (by omega)]
  congr 1
  omega
 unfold atI
 rw [e]
 show (xs ++ [v])[xs.length]? = some v
 simp
def zw3 (b : Expr) : Prop := ∀ o i, subscripted b false o i = operate [o, i] (getItem o i)
def IxR (X : Cx) (r : R2) : Prop :=
 ∀ (value slice : Expr) (pins : List (Addr × Obj)) (s : Shared) (σ : St) (H : Hp) (x y : V) (v u : Value) (Q : VK), Inv X pins σ H s -> RelV x v -> RelV y u -> r x y H Q ->
  subscripted slice false v u = operate [v, u] (getItem v u) -> wpAny (model X.prog X.w) X.A (subscriptTail value slice v u) (EP X pins σ Q) X.xe s
def MtR (X : Cx) (id : String) (r : V -> List V -> Hp -> VK -> Prop) : Prop :=
 ∀ (pins : List (Addr × Obj)) (s : Shared) (σ : St) (H : Hp) (x : V) (xs : List V) (v : Value) (us : List Value) (Q : VK), Inv X pins σ H s -> RelV x v -> Vals xs us -> r x xs H Q ->
  wpAny (model X.prog X.w) X.A (call (.builtin id) (v :: us)) (EP X pins σ Q) X.xe s
section
variable {X : Cx} {a b : Expr} {ta tb : TE} {pos : Pos}
theorem xy6 {r : R2} (hr : IxR X r) (ha : PE X a ta) (hb : PE X b tb) (hs : zw3 b) : PE X (.Subscript a b pos) (tOp r ta tb) := by
 intro pins s σ H Q I h
 exact Subscript_ (binT ha hb I h fun v u s2 x y H2 I2 rx ry q => hr a b pins s2 σ H2 x y v u Q I2 rx ry q (hs _ _))
def rIxL (K : W.Frag) : R2 := fun x y H Q => ∃ p xs i v, x = .ref p /\ y = .int i /\ SqL K H p xs /\ atI xs i = some v /\ Q v H
theorem yr1 : IxR X (rIxL X.K) := by
 intro value slice pins s σ H x y v u Q I rx ry h hs
 obtain ⟨p, xs, i, z, rfl, rfl, hq, he, q⟩ := h
 cases rx
 obtain ⟨t, rfl⟩ := ry
 obtain ⟨its, r, pl, hz⟩ := I.list hq
 obtain ⟨j, h1, h2, h3, h4, h5⟩ := xr1 he
 obtain ⟨w, ew, rw'⟩ := r.get h2
 have hl := r.length
 have hn := zs8
 have fin : EP X pins σ Q w s := ⟨z, H, I, rw', q⟩
 by_cases h0 : 0 <= i
 ·have hj : i.toNat = j := by
   rw [seqIndex_of h0 h5] at h1
   exact Option.some.inj h1
  exact item_listR pl.isList h0 (by omega) (by rw [hj]; simpa using ew) fin hs
 ·have hj : (i + (its.toArray.size : Int)).toNat = j := by
   rw [seqIndex_neg (by omega) h4] at h1
   rw [size_toArray, <- hl]
   exact Option.some.inj h1
  exact subscriptTail_builtinR (x := w) pl.isList.typeIs slot_list_getitem.lookup
   (wpAny_getItem_list_neg (Q := fun r s' => r = w /\ EP X pins σ Q r s') pl.isList (by omega) (by rw [size_toArray] <;> omega) (by omega) (by rw [hj]; simpa using ew) ⟨rfl, fin⟩) hs
theorem zc7 (its : List Value) (n j : Nat) (u : Value) : Obj.mapSeq (·.setIfInBounds j u) { cls := .type "list", data := .seq its.toArray n } = { cls := .type "list", data := .seq (its.set j u).toArray n } := by
 simp [Obj.mapSeq]
theorem Inv.lst {pins : List (Addr × Obj)} {σ : St} {H : Hp} {s : Shared} {p : Addr} {xs : List V} (I : Inv X pins σ H s) (h : H p = some (.lst xs)) :
  ∃ (its : List Value) (n : Nat), Vals xs its /\ s.heap.get? p = some { cls := .type "list", data := .seq its.toArray n } /\ xs.length <= sizeLine := by
 obtain ⟨z, its, n, r, e⟩ := I.hok p _ h
 exact ⟨its, n, r, e, z⟩
theorem Inv.lstUpd {pins : List (Addr × Obj)} {σ : St} {H : Hp} {s : Shared} {p : Addr} {xs ys : List V} {its its' : List Value} {n n' : Nat} {f : Obj -> Obj} (I : Inv X pins σ H s) (h : H p = some (.lst xs))
  (ho : s.heap.get? p = some { cls := .type "list", data := .seq its.toArray n }) (hf : f { cls := .type "list", data := .seq its.toArray n } = { cls := .type "list", data := .seq its'.toArray n' }) (r : Vals ys its') (hz : ys.length <= sizeLine) (t : Nat) :
  Inv X pins σ (upd H p (.lst ys)) { s with heap := s.heap.update p f, toks := t } := by
 have e : (s.heap.update p f).get? p = some { cls := .type "list", data := .seq its'.toArray n' } := by
  rw [Heap.get?_update_self f ho (by rw [hf] <;> rfl), hf]
 refine I.write (x := p) (e := p) (by rw [h]; trivial) (.inl rfl) (fun b u hb q => (Heap.get?_update_other _ _ (Ne.symm hb)).trans q) ⟨_, e⟩ ?_
 exact ⟨hz, its', n', r, e⟩
def xo9 : V -> V -> V -> Hp -> (Hp -> Prop) -> Prop := fun o i v H Q => ∃ p xs k j, o = .ref p /\ i = .int k /\ H p = some (.lst xs) /\ ixN xs.length k = some j /\ Q (upd H p (.lst (xs.set j v)))
theorem c7 : PSet X xo9 := by
 intro pins s σ H o i v ov iv u Q I ro ri rv h
 obtain ⟨p, xs, k, j, rfl, rfl, hp, hj, q⟩ := h
 cases ro
 obtain ⟨t, rfl⟩ := ri
 obtain ⟨its, n, r, ho, hz⟩ := I.lst hp
 obtain ⟨h1, h2, h3, h4⟩ := yr2 hj
 have hl := r.length
 have hn := zs8
 have I' : Inv X pins σ (upd H p (.lst (xs.set j v))) { s with heap := s.heap.update p (Obj.mapSeq (·.setIfInBounds j u)) } :=
  I.lstUpd hp ho (zc7 its n j u) (r.set rv j) (by rw [length_set]; exact hz) s.toks
 by_cases h0 : 0 <= k
 ·have hk : k.toNat = j := by
   rw [seqIndex_of h0 h4] at h1
   exact Option.some.inj h1
  exact W.ki_setAt ho h0 (by omega) (by rw [size_toArray, <- hl]; exact h4) (by rw [hk]; exact ⟨_, I', q⟩)
 ·have hk : (k + (its.toArray.size : Int)).toNat = j := by
   rw [seqIndex_neg (by omega) h3] at h1
   rw [size_toArray, <- hl]
   exact Option.some.inj h1
  exact W.ki_setBack ho (by omega) (by rw [size_toArray, <- hl]; exact h3) (by omega) (by rw [hk]; exact ⟨_, I', q⟩)
theorem zv1 (lo hi : Option Int) (n : Nat) : (sliceBounds lo hi none n).1 = ((HT.sIx n 0 lo : Nat) : Int) /\ (sliceBounds lo hi none n).2.1 = ((HT.sIx n n hi : Nat) : Int) /\ (sliceBounds lo hi none n).2.2 = 1 := by
 refine ⟨?_, ?_, rfl⟩
 ·cases lo with
  | none => simp [sliceBounds, HT.sIx]
  | some i =>
   simp only [sliceBounds, HT.sIx, Option.getD_none, show (1 : Int) > 0 by decide, if_true]
   by_cases h : i < 0
   ·simp only [h, if_true] <;> omega
   ·simp only [h, if_false] <;> omega
 ·cases hi with
  | none => simp [sliceBounds, HT.sIx]
  | some i =>
   simp only [sliceBounds, HT.sIx, Option.getD_none, show (1 : Int) > 0 by decide, if_true]
   by_cases h : i < 0
   ·simp only [h, if_true] <;> omega
   ·simp only [h, if_false] <;> omega
theorem A5 (its : List Value) (lo hi : Option Int) : slicePick its.toArray lo hi none = ((its.drop (HT.sIx its.length 0 lo)).take (HT.sIx its.length its.length hi - HT.sIx its.length 0 lo)).toArray := by
 obtain ⟨h1, h2, h3⟩ := zv1 lo hi its.toArray.size
 unfold slicePick
 rw [h1, h2, h3]
 simp only [sliceRange_one, pick_run, size_toArray] <;> rfl
def rSlL (K : W.Frag) : V -> Option Int -> Option Int -> Hp -> VK -> Prop := fun x lo hi H Q => ∃ a xs, x = .ref a /\ SqL K H a xs /\ ∀ p, H p = none -> Q (.ref p) (upd H p (.lst (cutV xs lo hi)))
theorem yc7 : SlR X (rSlL X.K) := by
 intro pins s σ H x v vl vu lo hi sl Q I rx hs pl pu h
 obtain ⟨a, xs, rfl, hx, q⟩ := h
 cases rx
 obtain ⟨its, r, ht, hz⟩ := I.list hx
 have hlen := r.length
 refine ⟨"list", _, slot_list_getitem.lookup, ht.isList.typeIs, ?_⟩
 refine wpAny_getItem_list_slice ht.isList hs pl pu .none (by simp) ?_ (by rw [size_toArray] <;> omega)
 rw [A5, <- hlen]
 refine ⟨.ref s.heap.objs.size, _, I.laid (t' := s.toks) (o := .lst (cutV xs lo hi)) (fun b ob q => Heap.get?_push_of_some _ q) (Nat.le_refl _) ?_, rfl, q _ (I.hok.fresh (Nat.le_refl _))⟩
 exact ⟨Nat.le_trans (zj0 xs lo hi) hz, _, 0, (r.drop (HT.sIx xs.length 0 lo)).take (HT.sIx xs.length xs.length hi - HT.sIx xs.length 0 lo), Heap.get?_push_size _ rfl⟩
theorem zq7 : zp7 X (.builtin "len") (fun xs H Q => ∃ p ys, xs = [.ref p] /\ (SqL X.K H p ys \/ SqT X.K H p ys) /\ Q (.int ys.length) H) := by
 intro pins s σ H xs us Q I r h
 obtain ⟨p, ys, rfl, hq, q⟩ := h
 obtain ⟨u, rfl, rx⟩ := R3 r
 cases rx
 have hn := zs8
 rcases hq with hq | hq
 ·obtain ⟨its, r', pl, hz⟩ := I.list hq
  have hlen := r'.length
  exact Calls.call_len_list pl.isList (by simp only [size_toArray] <;> omega) ⟨.int ys.length, H, I.tok _, ⟨s.toks + 1, by rw [size_toArray, hlen]⟩, q⟩
 ·obtain ⟨its, r', pl, hz⟩ := I.tuple hq
  have hlen := r'.length
  exact len_tuple pl (by simp only [size_toArray] <;> omega) ⟨.int ys.length, H, I.tok _, ⟨s.toks + 1, by rw [size_toArray, hlen]⟩, q⟩
theorem zq6 : zp7 X (.type "list") (fun xs H Q => ∃ p ys, xs = [.ref p] /\ (SqL X.K H p ys \/ SqT X.K H p ys) /\ ∀ l, H l = none -> Q (.ref l) (upd H l (.lst ys))) := by
 intro pins s σ H xs us Q I r h
 obtain ⟨p, ys, rfl, hq, q⟩ := h
 obtain ⟨u, rfl, rx⟩ := R3 r
 cases rx
 have fin : ∀ (its : List Value), Vals ys its -> ys.length <= sizeLine -> ∀ (h' : Heap) (c' : Nat), (∀ b o', s.heap.get? b = some o' -> h'.get? b = some o') ->
   h'.get? s.heap.objs.size = some { cls := .type "list", dict := none, data := .seq its.toArray c', slots := #[] } -> EP X pins σ Q (.ref s.heap.objs.size) { s with heap := h' } := fun its r' hz h' c' kp e =>
  ⟨.ref s.heap.objs.size, _, I.laid (t' := s.toks) kp (Nat.le_refl _) (show ObjOk X.prog X.w _ h' _ (.lst ys) from ⟨hz, its, c', r', e⟩), rfl, q _ (I.hok.fresh (Nat.le_refl _))⟩
 rcases hq with hq | hq
 ·obtain ⟨its, r', pl, hz⟩ := I.list hq
  have hlen := r'.length
  obtain ⟨o, ho, hc, n, hd⟩ := pl.isList
  exact call_list_seq p (.inl rfl) ho hc hd (fun h' c' kp e => fin its r' hz h' c' kp e) (by simp only [size_toArray] <;> omega)
 ·obtain ⟨its, r', pl, hz⟩ := I.tuple hq
  have hlen := r'.length
  obtain ⟨o, ho, hc, n, hd⟩ := pl
  exact call_list_seq p (.inr rfl) ho hc hd (fun h' c' kp e => fin its r' hz h' c' kp e) (by simp only [size_toArray] <;> omega)
def tyV (K : W.Frag) (T : String) (x : V) (H : Hp) : Prop := match x with
 | .str _ => T = "str"
 | .int _ => T = "int"
 | .ref p => (T = "list" /\ ∃ xs, SqL K H p xs) \/ (T = "tuple" /\ ∃ o, K.lookup p = some o /\ o.cls = .type "tuple" /\ o.dict = none) \/
   (T = "dict" /\ ((∃ kvs, H p = some (.dK kvs)) \/ ∃ kvs, H p = some (.dT kvs))) \/ (T = "set" /\ ∃ S n, H p = some (.set S n))
 | _ => False
theorem xq5 {pins : List (Addr × Obj)} {σ : St} {H : Hp} {s : Shared} {T : String} {x : V} {v : Value} (I : Inv X pins σ H s) (r : RelV x v) (ty : tyV X.K T x H) :
  s.TypeIs v T /\ ∀ a, v = .ref a -> ∃ ob, s.heap.get? a = some ob /\ ob.dict = none := by
 cases x with
 | str z =>
  obtain ⟨t, rfl⟩ := r
  cases (show T = "str" from ty)
  exact ⟨typeIs_str s z t, fun _ e => nomatch e⟩
 | int i =>
  obtain ⟨t, rfl⟩ := r
  cases (show T = "int" from ty)
  exact ⟨typeIs_int s i t, fun _ e => nomatch e⟩
 | ref p =>
  cases r
  rcases ty with ⟨rfl, xs, hq⟩ | ⟨rfl, o, hk, hc, hd⟩ | ⟨rfl, hk⟩ | ⟨rfl, S, n, hk⟩
  ·obtain ⟨its, _, pl, _⟩ := I.list hq
   refine ⟨pl.isList.typeIs, fun a e => ?_⟩
   cases e
   obtain ⟨o, n, e, c, hd, _⟩ := pl
   exact ⟨o, e, hd⟩
  ·refine ⟨⟨o, I.kIn p o hk, hc⟩, fun a e => ?_⟩
   cases e
   exact ⟨o, I.kIn _ o hk, hd⟩
  ·have z : ∃ o, s.heap.get? p = some o /\ o.ExactDict := by
    rcases hk with ⟨kvs, hk⟩ | ⟨kvs, hk⟩
    ·obtain ⟨_, _, _, _, o, _, _, e, ex, _⟩ := I.hok p _ hk
     exact ⟨o, e, ex⟩
    ·obtain ⟨_, _, _, _, o, _, _, e, ex, _⟩ := I.hok p _ hk
     exact ⟨o, e, ex⟩
   obtain ⟨o, e, ex⟩ := z
   refine ⟨⟨o, e, ex.1⟩, fun a e2 => ?_⟩
   cases e2
   exact ⟨o, e, ex.2.1⟩
  ·obtain ⟨o, _, _, _, e, ex, _⟩ := I.hok p _ hk
   refine ⟨⟨o, e, ex.1⟩, fun a e2 => ?_⟩
   cases e2
   exact ⟨o, e, ex.2.1⟩
 | _ => exact False.elim ty
def tBM (K : W.Frag) (T : String) (r : V -> List V -> Hp -> VK -> Prop) (to : TE) (t : TA) : TE := fun σ H Q => to σ H fun x H1 => tyV K T x H1 /\ t σ H1 fun xs H2 => r x xs H2 Q
variable {o e : Expr} {es : List Expr} {to : TE} {t : TA} {name : Str} {apos cpos : Pos} {T id : String} {r : V -> List V -> Hp -> VK -> Prop}
theorem xd9 (pa : PlainAttrs T) (slot : Slot T name id) (hty : typeOf (.builtin id) = pure (.type "method_descriptor")) (hm : MtR X id r) (ho : PE X o to) (ha : PA X (e :: es) t)
  (hbase : attributeBase o name X.env (eval o X.env) = eval o X.env := by rfl)
  (hfew : ((backTo cpos (starEach (e :: es) X.env)).all (fun x => !x.1) && (backToKw cpos (keywordEach [] X.env)).all (fun x => x.1.isSome)
   && decide ((e :: es).length + ([] : List Keyword).length + (if ([] : List Keyword).isEmpty then 0 else 1) < 30)) = true := by rfl)
  (hline : (apos.endLine == cpos.line) = true := by rfl) (hs : starEach (e :: es) X.env = (false, eval e X.env) :: starEach es X.env := by rfl) (hplain : (backTo cpos (starEach es X.env)).any (·.1) = false := by rfl) :
  PE X (.Call (.Attribute o name apos) (e :: es) [] cpos) (tBM X.K T r to t) := by
 intro pins s σ H Q I h
 refine wpAny_Call_method_late hbase hfew hline rfl (thn (ho pins s σ H _ I h) fun v s1 hpat => ?_)
 obtain ⟨x, H1, I1, r1, ty, q1⟩ := hpat
 obtain ⟨h1, h2⟩ := xq5 I1 r1 ty
 refine ⟨T, id, pa, slot, hty, h1, h2, ?_⟩
 have hA := ha cpos pins s1 σ H1 _ I1 q1
 rw [hs] at hA ⊢
 refine Calls.callWith_builtin (by show (false || (backTo cpos (starEach es X.env)).any (·.1)) = false; rw [hplain] <;> rfl) (Calls.evalArgs_plain ?_)
 exact thn hA fun us s2 ⟨vs, H2, I2, r2, q2⟩ => hm pins s2 σ H2 x vs v us Q I2 r1 r2 q2
end
end
section
def MtM (X : Cx) (id : String) (r : V -> List V -> Hp -> VK -> Prop) : Prop :=
 ∀ (pins : List (Addr × Obj)) (s : Shared) (σ : St) (H : Hp) (x : V) (xs : List V) (v : Value) (us : List Value) (Q : VK), Inv X pins σ H s -> RelV x v -> Vals xs us -> r x xs H Q ->
  wpAny (model X.prog X.w) X.A (call (.builtin id) (v :: us)) (EP X pins σ Q) X.xe s
theorem Vals.one : ∀ {x : V} {us : List Value}, Vals [x] us -> ∃ u, us = [u] /\ RelV x u
 | _, _, .cons r .nil => ⟨_, rfl, r⟩
theorem Vals.rep {xs : List V} {us : List Value} (h : Vals xs us) : ∀ k : Nat, Vals (List.replicate k xs).flatten (List.replicate k us).flatten
 | 0 => .nil
 | k + 1 => by
  rw [replicate_succ, replicate_succ, flatten_cons, flatten_cons]
  exact Vals.append h (Vals.rep h k)
theorem zr4 (its : List Value) : ∀ (k : Nat) (acc : List Value),
  List.foldl (fun x1 x2 => x1 ++ x2) acc.toArray (List.replicate k its.toArray) = (acc ++ (List.replicate k its).flatten).toArray
 | 0, acc => by simp
 | k + 1, acc => by
  have e : acc.toArray ++ its.toArray = (acc ++ its).toArray := by simp
  have e2 : (acc ++ its) ++ (List.replicate k its).flatten = acc ++ (List.replicate (k + 1) its).flatten := by
   rw [replicate_succ, flatten_cons, append_assoc]
  rw [<- e2, <- zr4 its k (acc ++ its), <- e, replicate_succ, foldl_cons]
section
variable {X : Cx} {pins : List (Addr × Obj)} {σ : St} {H : Hp} {s : Shared} {l b : Addr} {xs ys zs : List V}
theorem Inv.lset {its its' : List Value} {n : Nat} {f : Array Value -> Array Value} {t' : Nat} (I : Inv X pins σ H s) (hH : H l = some (.lst xs))
  (e : s.heap.get? l = some { cls := .type "list", data := .seq its.toArray n }) (hf : f its.toArray = its'.toArray) (hv : Vals ys its') (hz : ys.length <= sizeLine) :
  Inv X pins σ (upd H l (.lst ys)) { s with heap := s.heap.update l (Obj.mapSeq f), toks := t' } := by
 have q := PySem.IsL.update e f
 rw [hf] at q
 refine I.write (x := l) (e := l) (by rw [hH]; exact trivial) (.inl rfl) (fun b' u hb hu => (Heap.get?_update_other s.heap (Obj.mapSeq f) (Ne.symm hb)).trans hu) ⟨_, q⟩ ?_
 exact ⟨hz, its', _, hv, q⟩
theorem Inv.lnew {its : List Value} {t' : Nat} (I : Inv X pins σ H s) (hv : Vals ys its) (hz : ys.length <= sizeLine) :
  Inv X pins σ (upd H s.heap.objs.size (.lst ys)) { s with heap := s.heap.push { cls := .type "list", data := .seq its.toArray }, toks := t' } :=
 I.laid (fun _ _ q => Heap.get?_push_of_some _ q) (Nat.le_refl _) ⟨hz, its, 0, hv, Heap.get?_push_size _ rfl⟩
theorem Inv.fresh (I : Inv X pins σ H s) : H s.heap.objs.size = none := I.hok.fresh (Nat.le_refl _)
theorem Inv.lstM (I : Inv X pins σ H s) (hH : H l = some (.lst xs)) : xs.length <= sizeLine /\ ∃ (its : List Value) (n : Nat), Vals xs its /\ xs.length = its.length /\ s.heap.get? l = some { cls := .type "list", data := .seq its.toArray n } := by
 obtain ⟨z, its, n, r, e⟩ := I.hok l _ hH
 exact ⟨z, its, n, r, r.length, e⟩
theorem yj3 {n : Nat} (h : n <= sizeLine) : Builtin.List.listTooLong n = false := by
 unfold Builtin.List.listTooLong
 exact decide_eq_false (by omega)
end
section
variable {X : Cx}
def K4 : V -> List V -> Hp -> VK -> Prop := fun x vs H Q => ∃ l xs y, x = .ref l /\ vs = [y] /\ H l = some (.lst xs) /\ xs.length < sizeLine /\ Q .non (upd H l (.lst (xs ++ [y])))
theorem zt7 : MtM X "list.append" K4 := by
 intro pins s σ H x vs v us Q I rx rv h
 obtain ⟨l, xs, y, rfl, rfl, hH, hz, q⟩ := h
 cases rx
 obtain ⟨u, rfl, ru⟩ := rv.one
 obtain ⟨z, its, n, r, hl, e⟩ := I.lstM hH
 refine call_meets F.slot_list_append ⟨_, e, rfl⟩ F.entry_list_append (F.args_list_append_2 _ _) (PySem.list_append l its.toArray n u (by rw [size_toArray]; omega)) ⟨e, ?_⟩
 refine ⟨.non, _, I.lset (its' := its ++ [u]) hH e (by simp) (r.append (.cons ru .nil)) ?_, rfl, q⟩
 rw [length_append, length_singleton]
 omega
def rRep : R2 := fun x y H Q => ∃ l k xs, x = .ref l /\ y = .int k /\ H l = some (.lst xs) /\ -(2 ^ 63) <= k /\ k < 2 ^ 63 /\ xs.length * k.toNat <= sizeLine /\
 ∀ p, H p = none -> Q (.ref p) (upd H p (.lst (List.replicate k.toNat xs).flatten))
theorem xv7 {α : Type} (xs : List α) (k : Nat) : (List.replicate k xs).flatten.length = k * xs.length := by
 induction k with
 | zero => simp
 | succ k ih => rw [replicate_succ, flatten_cons, length_append, ih, Nat.succ_mul, Nat.add_comm]
theorem xm4 : OpR X (binaryOp .Mult) rRep := by
 intro pins s σ H x y v u Q I rx ry h
 obtain ⟨l, k, xs, rfl, rfl, hH, h1, h2, hz, q⟩ := h
 cases rx
 obtain ⟨t, rfl⟩ := ry
 obtain ⟨z, its, n, r, hl, e⟩ := I.lstM hH
 have hlen : its.toArray.size * k.toNat <= sizeLine := by rw [size_toArray, <- hl]; exact hz
 have hcap : ¬ its.toArray.size * k.toNat > (2 ^ 63 - 1) / 8 := by
  have : (sizeLine : Nat) <= (2 ^ 63 - 1) / 8 := by decide
  omega
 have hfit : ¬ (!Builtin.List.listFitsIndex k) = true := by
  rw [fitsIndex_both h1 h2]
  exact Bool.false_ne_true
 have hlong : ¬ Builtin.List.listTooLong (its.toArray.size * k.toNat) = true := by
  rw [yj3 hlen]
  exact Bool.false_ne_true
 have hnew : List.foldl (fun x1 x2 => x1 ++ x2) #[] (List.replicate (if its.toArray.isEmpty = true then 0 else k.toNat) its.toArray) = (List.replicate k.toNat its).flatten.toArray := by
  have f0 : ∀ m : Nat, List.foldl (fun x1 x2 => x1 ++ x2) #[] (List.replicate m its.toArray) = (List.replicate m its).flatten.toArray := fun m => by
   have := zr4 its m []
   rw [nil_append] at this
   exact this
  rw [f0]
  cases its with
  | nil => simp
  | cons a r' => rw [if_neg (by simp)]
 refine wpAny_binaryOp_repeat_ref (T := "list") (U := "int") (by decide) ⟨_, e, rfl⟩ (fun s' => typeIs_int s' k t) noFill_list_mul F.fills_int_mul F.slot_int_rmul repeat_list F.slot_int_index.lookup
  (call_meets F.slot_int_rmul (typeIs_int s k t) F.entry_int_rmul (F.args_int_rmul_2 _ _) (int___rmul___int_list k t l its.toArray n)
   ⟨e, rfl, ⟨_, e, rfl⟩, call_meets F.slot_list_mul ⟨_, e, rfl⟩ F.entry_list_mul (F.args_list_mul_2 _ _) (AutoListH.list___mul___list_int_3 l its.toArray n k t hfit hcap hlong) ⟨e, ?_⟩⟩)
 rw [hnew]
 exact ⟨.ref _, _, I.lnew (t' := s.toks) (r.rep k.toNat) (by rw [xv7, Nat.mul_comm]; exact hz), rfl, q _ I.fresh⟩
end
section
variable {prog : Program} {w : World} {A : Around} {E : Value -> Shared -> Prop} {s : Shared}
end
section
variable {X : Cx}
end
end
end L2
namespace Att
open PySem PySem.W PySem.Calls PyProof.Rows
theorem G7 {P : Params} {h : Heap} : ∀ (ns : List Int) (vs : List Value), WellAll P h vs (ns.map WData.int) -> IntsAre vs ns := by
 intro ns
 induction ns with
 | nil =>
  intro vs w
  rw [List.map_nil] at w
  cases w
  exact .nil
 | cons n ns ih =>
  intro vs w
  rw [List.map_cons] at w
  cases w with
  | cons a b =>
   cases a
   exact .cons _ _ (ih _ b)
theorem yy1 {l : OpenLaw} {n : Nat} (hn : l.most = some n) {P : Params} {h : Heap} {args : List WData} {vals : List Value}
  (hpre : l.row.toRowW.claim.pre args = true) (hwl : WellAll P h vals args) :
  ∃ a vs ns, vals = [Value.ref a] /\ args = [WData.list (ns.map WData.int)] /\ h.get? a = some { cls := .type "list", data := .seq vs.toArray } /\ IntsAre vs ns /\ ns.length <= n := by
 have hsh : WShape.hasAll [] args [.list .int] = true := (pre_splitW hpre).1
 have hc : l.pre.holds [] { args := args } = true := (pre_splitW hpre).2
 obtain ⟨d, r, rfl, h1, h2⟩ := hasAllW_cons hsh
 obtain rfl := hasAllW_nil h2
 obtain ⟨xs, rfl, h3⟩ := hasW_list h1
 obtain ⟨ns, rfl⟩ := items_int h3
 have hlen : ns.length <= n := by
  unfold OpenLaw.pre at hc
  have h4 : (WTm.not (.lt (.lit (.int (n : Int))) (.len (.arg 0)))).holds [] { args := [.list (ns.map .int)] } = true := by
   have h4 := (holds_andW hc).1
   rw [hn] at h4
   exact h4
  have h5 := condW_of h4 (w_not (w_lt w_lit (w_len_list (w_arg rfl))))
  rw [List.length_map] at h5
  refine Nat.le_of_not_lt fun q => ?_
  have q' : (n : Int) < ((ns.length : Nat) : Int) := by omega
  first
   | (rw [decide_eq_true q'] at h5; exact absurd h5 (by decide))
   | (simp at h5; omega)
 cases hwl with
 | cons w1 w2 =>
  cases w2
  cases w1 with
  | list ho hall => exact ⟨_, _, ns, rfl, rfl, ho, G7 ns _ hall, hlen⟩
theorem yw1 (l : OpenLaw) (args : List WData) : l.row.toRowW.claim.post args (.bool true) args = true :=
 postW_of (r := l.row.toRowW) (X := (true == true))
  (show WShape.has [] (.bool true) .bool = true by first | rfl | decide | simp [WShape.has, WShape.arms, WShape.armsAll])
  (show (WTm.eq .res (.lit (.bool true))).value [] { args := args, res := some (.bool true), after := args } = some (.bool (true == true)) from w_eq_bool (w_res rfl) w_lit) rfl
theorem attach_call {l : OpenLaw} {n : Nat} {q : Program} {loose : List Str} {XP : (Str -> Option Value) -> Heap -> Prop} {YP : World -> Heap -> Prop} {d : DefRec}
  (hn : l.most = some n) (hdf : d.params.defaults = [])
  (call : ∀ (w : World) (s₀ s₁ : Shared) (mg mb : Str -> Option Value) (fa : Addr) (o : Obj) (pm cd doc : Value) (a : Addr) (vs : List Value) (ns : List Int),
   Ground q loose [] XP w s₀ mg mb s₁.heap -> YP w s₁.heap ->
   s₁.heap.get? fa = some o -> o.data = .func (docDef d.name d.params d.body d.scope pm cd doc) -> s₁.heap.CodeRec cd d.name -> mg d.name = some (.ref fa) ->
   s₁.heap.get? a = some { cls := .type "list", data := .seq vs.toArray } -> IntsAre vs ns -> ns.length <= n -> s₁.gens = #[] ->
   codeAny (model l.prog w) callerA (.call (.ref fa) ⟨[.ref a], []⟩) (fun r s' => r = .ok (.ret (.bool true)) /\ OldK s₁.heap s'.heap /\ s'.os = s₁.os /\ AllBare s'.gens) s₁) :
  WalkO q loose XP YP l.row.toRowW d [] (fun f vs => PySem.call f vs) := by
 intro w s₀ s₁ mg mb G Y fa o pm cd doc dV kV ho hd hcd hD hmg hg args vals as hpre hlay hrd hwl hlo
 obtain rfl : dV = .none := Dflts.none hD hdf
 obtain rfl : kV = .none := Dflts.noKw hD
 obtain ⟨a, vs, ns, rfl, rfl, hobj, hints, hlen⟩ := yy1 hn hpre hwl
 refine enter_call (codeAny_mono (call w s₀ s₁ mg mb fa o pm cd doc a vs ns G Y ho (fd_plain hd) hcd hmg hobj hints hlen hg) fun r s' hq => ?_)
 obtain ⟨rfl, h2, h3, h4⟩ := hq
 exact ⟨.inl ⟨.bool true, .bool true, [], rfl, fun _ => rfl, .bool true, yw1 l _, fun _ => ⟨List.Pairwise.nil, fun _ hm => (nomatch hm)⟩⟩, h2, h3, h4⟩
section
variable {prog : Program} {w : World} {A : Around} {E : Value -> Shared -> Prop} {s : Shared} {K : Frag}
end
end Att
namespace L2
open List
open PySem PySem.Spec PyProof.Rows
section
theorem zw7 : ∀ {vs : List Value} {ns : List Int}, IntsAre vs ns -> Vals (ns.map V.int) vs
 | _, _, .nil => .nil
 | _, _, .cons n t h => .cons ⟨t, rfl⟩ (zw7 h)
def Only (H : Hp) : Prop := ∀ b, H b = none \/ ∃ o xs, H b = some (.frz o (.lst xs))
theorem yh1 {P : Program} {w : World} {K : W.Frag} {mg mb : Str -> Option Value} {CX : CXT} {k : Nat} {fa a : Addr} {fd : FuncData} {x : Str} {sp : Sp} {s₁ : Shared} {vs : List Value} {ns : List Int}
  (KX : K.In s₁.heap) (hns : s₁.heap.Ns mainGlobals mg) (hb : s₁.heap.Ns builtinsNs mb) (hbb : ∀ x : Str, x ≠ "__name__" -> mb x = bootBuiltins x) (hlim : s₁.heap.NoLimit) (hg : s₁.gens = #[])
  (ha : s₁.heap.get? a = some { cls := .type "list", data := .seq vs.toArray }) (hi : IntsAre vs ns) (hl : ns.length <= sizeLine) (hr : Room k callerA)
  (F : ∀ base : Heap, K.In base -> base.Ns mainGlobals mg -> FnOk P w K mg base CX k fa fd [x] sp) (hbind : ∀ (s : Shared) (u : Value), BindsTo s fd ⟨[u], []⟩ [(x, u)])
  (hsp : ∀ H : Hp, Only H -> SqL K H a (ns.map V.int) -> sp [.ref a] H (fun v _ => v = .bl true) fun _ _ _ => False)
  (hCX : ∀ H e s', CX [] H s₁ (fun _ _ _ => False) e s' -> False) :
  codeAny (model P w) callerA (.call (.ref fa) ⟨[.ref a], []⟩) (fun r s' => r = .ok (.ret (.bool true)) /\ OldK s₁.heap s'.heap /\ s'.os = s₁.os /\ AllBare s'.gens) s₁ := by
 have rv := zw7 hi
 have lenV := hi.length
 have core : ∀ H : Hp, Only H -> SqL K H a (ns.map V.int) -> HOk P w H s₁.heap -> (∀ b, H b ≠ none -> b = a) -> (H a ≠ none -> K.lookup a = none) ->
   codeAny (model P w) callerA (.call (.ref fa) ⟨[.ref a], []⟩) (fun r s' => r = .ok (.ret (.bool true)) /\ OldK s₁.heap s'.heap /\ s'.os = s₁.os /\ AllBare s'.gens) s₁ := by
  intro H hO hS hok hA hK
  have base_of : ∀ {b : Addr} {o : Obj}, s₁.heap.get? b = some o -> H b = none -> (hidT s₁.heap H).get? b = some o := fun e n => yh7 e n
  have noA : ∀ {b : Addr} {o : Obj} {es : Array DictEntry} {ep : Nat}, s₁.heap.get? b = some o -> o.data = .dict es ep -> H b = none := fun {b o es ep} e d => by
   cases q : H b with
   | none => rfl
   | some u =>
    have e' : b = a := hA b (by rw [q]; simp)
    subst e'
    rw [ha] at e; cases e
    have d' : Data.seq vs.toArray _ = Data.dict es ep := d
    cases d'
  have nsK : ∀ {b : Addr} {m : Str -> Option Value}, s₁.heap.Ns b m -> (hidT s₁.heap H).Ns b m := fun {b m} ⟨o, es, ep, e, d, r⟩ => ⟨o, es, ep, base_of e (noA e d), d, r⟩
  have hKb : K.In (hidT s₁.heap H) := fun b o e => base_of (KX b o e) (by
   cases q : H b with
   | none => rfl
   | some u =>
    have e' : b = a := hA b (by rw [q]; simp)
    subst e'
    rw [hK (by rw [q]; simp)] at e; cases e)
  have hM : Mod K mg (hidT s₁.heap H) := ⟨hKb, nsK hns, ⟨mb, nsK hb, hbb⟩, let ⟨mc, h1, h2⟩ := hlim; ⟨mc, nsK h1, h2⟩⟩
  have e0 : Env0 P w K mg (hidT s₁.heap H) callerA [] s₁ H := ⟨rfl, hM, fun b o e => xw1 e, Nat.le_of_eq (yr5 _ _), trivial, fun b hb => absurd (show b ∈ ([] : List Addr) from hb) (by simp), hok, .of_eq hg⟩
  refine codeAny_mono ((F _ hKb (nsK hns)).run callerA [] s₁ H ⟨[.ref a], []⟩ [.ref a] [.ref a] _ _ hr e0 (hbind s₁ (.ref a)) (.cons rfl .nil) (hsp H hO hS)) fun r s' h => ?_
  cases r with
  | error e => exact (hCX H e s' h).elim
  | ok fl =>
   cases fl with
   | next => exact False.elim h
   | brk => exact False.elim h
   | cont => exact False.elim h
   | ret u =>
    obtain ⟨v, H', os, bare, un, hok', r', q⟩ := h
    have q' : v = .bl true := q
    subst q'
    obtain rfl : u = Value.bool true := r'
    refine ⟨rfl, OldK.of_keep fun b o e => ?_, os, bare⟩
    cases q : H b with
    | none => exact un.keep b o e q (by intro z; exact absurd (show b ∈ ([] : List Addr) from z) (by simp)) (by simp)
    | some u =>
     rcases hO b with z | ⟨ob, xs, z⟩
     ·rw [q] at z; cases z
     ·have z2 := un.frzs b ob _ z
      obtain ⟨e1, _⟩ := hok b _ z
      obtain ⟨e2, _⟩ := hok' b _ z2
      rw [e] at e1; cases e1
      exact e2
 cases hk : K.lookup a with
 | some o =>
  have e := KX a o hk
  rw [ha] at e
  cases e
  refine core (fun _ => none) (fun _ => .inl rfl) (.inr ⟨_, vs.toArray, _, hk, rfl, rfl, rfl, by rw [size_toArray, lenV]; exact hl, by simpa using rv⟩) (fun b u z => by have z' : (none : Option HO) = some u := z; cases z') (fun b z => absurd rfl z) fun z => absurd rfl z
 | none =>
  refine core (fun b => if b = a then some (.frz { cls := .type "list", data := .seq vs.toArray } (.lst (ns.map V.int))) else none) (fun b => ?_) (.inl (.inr ⟨{ cls := .type "list", data := .seq vs.toArray }, if_pos rfl⟩)) (fun b u z => ?_) (fun b z => ?_) fun _ => hk
  ·by_cases hb : b = a
   ·exact .inr ⟨_, _, if_pos hb⟩
   ·exact .inl (if_neg hb)
  ·by_cases hb : b = a
   ·have z' := (if_pos hb).symm.trans z
    cases z'
    subst hb
    exact ⟨ha, by rw [length_map]; exact hl, vs, _, rv, ha⟩
   ·have z' := (if_neg hb).symm.trans z
    cases z'
  ·by_cases hb : b = a
   ·exact hb
   ·exact absurd (if_neg hb) z
end
section
theorem walk_of {l : W.OpenLaw} {n k : Nat} {q : Program} {loose : List Str} {XP : (Str -> Option Value) -> Heap -> Prop} {YP : World -> Heap -> Prop} {d : DefRec} {K : Params -> W.Frag} {CX : World -> CXT} {sp : World -> Sp} {x : Str}
  (hn : l.most = some n) (hn2 : n <= sizeLine) (hdf : d.params.defaults = []) (hr : Room k callerA)
  (hY : ∀ (w : World) (h : Heap), YP w h -> (K w.params).In h)
  (F : ∀ (w : World) (mg : Str -> Option Value) (fa : Addr) (h : Heap), (K w.params).In h -> h.Ns mainGlobals mg -> mg d.name = some (.ref fa) ->
   ∃ fd : FuncData, (∀ (s : Shared) (u : Value), BindsTo s fd ⟨[u], []⟩ [(x, u)]) /\
    ∀ base : Heap, (K w.params).In base -> base.Ns mainGlobals mg -> FnOk l.prog w (K w.params) mg base (CX w) k fa fd [x] (sp w))
  (hsp : ∀ (w : World) (H : Hp) (a : Addr) (ns : List Int), ns.length <= n -> Only H -> SqL (K w.params) H a (ns.map V.int) -> sp w [.ref a] H (fun v _ => v = .bl true) fun _ _ _ => False)
  (hCX : ∀ (w : World) (H : Hp) (s : Shared) (e : Value) (s' : Shared), CX w [] H s (fun _ _ _ => False) e s' -> False) :
  W.WalkO q loose XP YP l.row.toRowW d [] (fun f vs => PySem.call f vs) := by
 refine Att.attach_call hn hdf fun w s₀ s₁ mg mb fa o pm cd doc a vs ns G Y ho hd hcd hmg hobj hints hlen hg => ?_
 have KX := hY w _ Y
 obtain ⟨fd, hb, hF⟩ := F w mg fa _ KX G.T.g hmg
 exact yh1 KX G.T.g G.T.b G.T.builtins G.T.nolimit hg hobj hints (Nat.le_trans hlen hn2) hr hF hb (fun H hO hS => hsp w H a ns hlen hO hS) fun H e s' => hCX w H s₁ e s'
end
section
def X6 (s : Stmt) : Arguments := match s with
 | .FunctionDef _ a _ _ _ _ _ _ _ _ => a
 | _ => { posonlyargs := [], args := [], vararg := none, kwonlyargs := [], kw_defaults := [], kwarg := none, defaults := [] }
def i7 (s : Stmt) : List Stmt := match s with
 | .FunctionDef _ _ b _ _ _ _ _ _ _ => b
 | _ => []
def y0 (s : Stmt) : Scope := match s with
 | .FunctionDef _ _ _ _ _ _ sc _ _ _ => sc
 | _ => { kind := .function, names := [], isGenerator := false, isCoroutine := false }
abbrev CX0 : CXT := fun _ _ _ _ _ _ => False
abbrev E0 : XK := fun _ _ _ => False
theorem yj0 {X : Cx} : E6 CX0 X E0 := fun _ _ _ _ _ _ _ h => h.elim
structure Fun (K : W.Frag) (x qual : Str) (st : Stmt) (f : Addr) (fd : FuncData) : Prop where
 ex : ∃ (oc : Value) (od : Option Addr) (kV doc pm : Value) (an : Option Addr) (cdv ct : Value) (osl : Array (Option Value)),
  fd = W.fnOf x qual (X6 st) (i7 st) (y0 st) .none kV doc pm an cdv ct /\ K.lookup f = some ⟨oc, od, .func fd, osl⟩ /\ W.codeIn K cdv qual = true
 kp : W.keepIn K (.ref f) = true
section
variable {P : Program} {w : World} {K : W.Frag} {mg : Str -> Option Value} {base : Heap}
theorem Fun.ok {x qual : Str} {st : Stmt} {f : Addr} {fd : FuncData} {N ps : List Str} {k : Nat} {sp : Sp} (F : Fun K x qual st f fd) (S : FnScope N ps (y0 st)) (len : ∀ vs H Q E, sp vs H Q E -> vs.length = ps.length)
  (hbody : ∀ (cdv : Value) (A : Around) (outer : List Env) (s : Shared) (H : Hp) (vs : List V) (Q : VK) (E : XK), Room k (A.deeper (envOfC qual (y0 st) s.heap.objs.size f cdv)) -> sp vs H Q E ->
   ∃ t, PSs (cxOf CX0 P w K mg base N qual (y0 st) f cdv A outer s H E).nox (i7 st) t /\ t { nx := fun _ H' => Q .non H', rt := Q } (start N vs) H) : FnOk P w K mg base CX0 (k + 1) f fd ps sp := by
 obtain ⟨oc, od, kV, doc, pm, an, cdv, ct, osl, rfl, lk, hcd⟩ := F.ex
 refine xa1 lk hcd S len fun A outer s H vs Q E hr hsp => ?_
 obtain ⟨t, h, q⟩ := hbody cdv A outer s H vs Q E hr hsp
 exact ⟨t, h.nox, q⟩
theorem Fun.binds {x qual : Str} {st : Stmt} {f : Addr} {fd : FuncData} {ps : List Str} (F : Fun K x qual st f fd)
  (h : ∀ (kV doc pm : Value) (an : Option Addr) (cdv ct : Value) (us : List Value), us.length = ps.length -> bindArgs (W.fnOf x qual (X6 st) (i7 st) (y0 st) .none kV doc pm an cdv ct) ⟨us, []⟩ = pure (ps.zip us)) : Binds K fd ps [] := by
 obtain ⟨oc, od, kV, doc, pm, an, cdv, ct, osl, rfl, lk, hcd⟩ := F.ex
 exact .all (h kV doc pm an cdv ct)
theorem yr9 {x qual : Str} {st : Stmt} {f : Addr} {oc : Value} {od an : Option Addr} {osl : Array (Option Value)} {kV doc pm cdv ct : Value} (l : K.lookup f = some ⟨oc, od, .func (W.fnOf x qual (X6 st) (i7 st) (y0 st) .none kV doc pm an cdv ct), osl⟩)
  (c : W.codeIn K cdv qual = true) (k : W.keepIn K (.ref f) = true) : Fun K x qual st f (W.fnOf x qual (X6 st) (i7 st) (y0 st) .none kV doc pm an cdv ct) := ⟨⟨oc, od, kV, doc, pm, an, cdv, ct, osl, rfl, l, c⟩, k⟩
end
section
variable {X : Cx}
theorem pv (i : Nat) {x : Str} {pos : Pos} (hN : X.N[i]? = some x := by rfl) (hv : Vis X.env.scope x := by first | exact Or.inl rfl | exact Or.inr (Or.inl rfl) | exact Or.inr (Or.inr rfl)) (hd : (x == ("__debug__" : Str)) = false := by decide)
  (hcd : (x == ("__classdict__" : Str)) = false := by decide) : PE X (.Name x pos) (tVar i) := xn8 hN hv hd hcd
end
theorem iteF {A B : Prop} (h : B) : if false = true then A else B := by
 rw [if_neg Bool.false_ne_true]
 exact h
theorem iteT {A B : Prop} (h : A) : if true = true then A else B := by
 rw [if_pos rfl]
 exact h
def Same (H H' : Hp) : Prop := ∀ b o, H b = some o -> H' b = some o
theorem Same.refl (H : Hp) : Same H H := fun _ _ h => h
theorem Same.trans {H H1 H2 : Hp} (a : Same H H1) (b : Same H1 H2) : Same H H2 := fun c o h => b c o (a c o h)
theorem Same.free {H H' : Hp} (e : Same H H') {l : Addr} (h : H' l = Option.none) : H l = Option.none := by
 cases q : H l with
 | none => rfl
 | some o =>
  rw [e l o q] at h
  cases h
theorem Same.seq {K : W.Frag} {H H' : Hp} {a : Addr} {xs : List V} (e : Same H H') (h : SqL K H a xs) : SqL K H' a xs := by
 rcases h with (h | ⟨o, h⟩) | h
 ·exact .inl (.inl (e _ _ h))
 ·exact .inl (.inr ⟨o, e _ _ h⟩)
 ·exact .inr h
end
section
def clOf (cells : List (Str × Addr)) : List (Str × NameKind) -> List (Str × Addr) -> List (Str × Addr)
 | [], cs => cs
 | (n, k) :: r, cs => if k = .free then (match cells.lookup n with | some c => clOf cells r ((n, c) :: cs) | none => clOf cells r cs) else clOf cells r cs
theorem S6 {env : Env} : ∀ (names : List (Str × NameKind)) (cs : List (Str × Addr)), (∀ x ∈ names, x.2 = .free -> ∃ c, env.cells.lookup x.1 = some c) ->
  (forIn names cs fun x r => if (x.2 == NameKind.free) = true then do let c ← cellOf env x.1; pure (ForInStep.yield ((x.1, c) :: r)) else pure (ForInStep.yield r) : Sem (List (Str × Addr))) = pure (clOf env.cells names cs)
 | [], cs, _ => rfl
 | (n, k) :: r, cs, h => by
  have hr : ∀ x ∈ r, x.2 = .free -> ∃ c, env.cells.lookup x.1 = some c := fun x hx => h x (mem_cons_of_mem _ hx)
  rw [forIn_cons]
  by_cases hk : k = .free
  ·subst hk
   obtain ⟨c, hc⟩ := h (n, .free) mem_cons_self rfl
   have hc' : env.cells.lookup n = some c := hc
   have e : cellOf env n = pure c := by unfold cellOf; rw [hc']
   simp only [beq_self_eq_true, if_true, e, pure_bind]
   rw [S6 r _ hr]
   simp only [clOf, if_true, hc']
  ·have hb : (k == NameKind.free) = false := by simpa using hk
   simp only [hb, Bool.false_eq_true, if_false, pure_bind]
   rw [S6 r cs hr]
   simp only [clOf, hk, if_false]
theorem F9 {env : Env} {scope : Scope} (h : ∀ x ∈ scope.names, x.2 = .free -> ∃ c, env.cells.lookup x.1 = some c) : closureFor scope env = pure (clOf env.cells scope.names []) := by
 have q := S6 (env := env) scope.names [] h
 simp only [closureFor]
 refine Eq.trans ?_ q
 have e : ∀ (m : Sem (List (Str × Addr))), (m >>= fun cs => pure cs) = m := fun m => by simp
 first | (rw [e]; rfl) | rfl | simp
theorem L8 {cells : List (Str × Addr)} {x : Str} {c : Addr} : ∀ (names : List (Str × NameKind)) (cs : List (Str × Addr)), (∀ y d, cs.lookup y = some d -> cells.lookup y = some d) -> (clOf cells names cs).lookup x = some c -> cells.lookup x = some c
 | [], cs, h, e => h x c e
 | (n, k) :: r, cs, h, e => by
  unfold clOf at e
  split at e
  ·split at e
   ·rename_i d hd
    refine L8 r _ (fun y d' q => ?_) e
    rw [lookup_cons] at q
    split at q
    ·rename_i hy
     have : y = n := by simpa using hy
     subst this
     cases q; exact hd
    ·exact h y d' q
   ·exact L8 r cs h e
  ·exact L8 r cs h e
theorem Q9 {cells : List (Str × Addr)} {x : Str} : ∀ (names : List (Str × NameKind)) (cs : List (Str × Addr)), (cs.lookup x).isSome = true -> ((clOf cells names cs).lookup x).isSome = true
 | [], cs, h => h
 | (n, k) :: r, cs, h => by
  unfold clOf
  split
  ·split
   ·refine Q9 r _ ?_
    rw [lookup_cons]; split
    ·rfl
    ·exact h
   ·exact Q9 r cs h
  ·exact Q9 r cs h
theorem P0 {cells : List (Str × Addr)} {x : Str} {c : Addr} (hc : cells.lookup x = some c) : ∀ (names : List (Str × NameKind)) (cs : List (Str × Addr)), (x, NameKind.free) ∈ names -> ((clOf cells names cs).lookup x).isSome = true
 | [], cs, h => absurd h (by simp)
 | (n, k) :: r, cs, h => by
  unfold clOf
  rcases List.mem_cons.mp h with e | h
  ·cases e
   rw [if_pos rfl, hc]
   refine Q9 r _ ?_
   simp [lookup_cons]
  ·split
   ·split
    ·exact P0 hc r _ h
    ·exact P0 hc r cs h
   ·exact P0 hc r cs h
theorem Z3 {env : Env} : ∀ {names : List (Str × NameKind)} {x : Str}, names.lookup x = some .free ->
  (names.map fun (n, k) => if (k == NameKind.free && env.scope.kind == .function && env.kindOf n == some .cell) then (n, NameKind.cell) else (n, k)).lookup x = some .cell \/
  (names.map fun (n, k) => if (k == NameKind.free && env.scope.kind == .function && env.kindOf n == some .cell) then (n, NameKind.cell) else (n, k)).lookup x = some .free
 | [], _, h => by simp at h
 | (n, k) :: r, x, h => by
  have ih := @Z3 env r x
  show List.lookup x ((if (k == NameKind.free && env.scope.kind == .function && env.kindOf n == some .cell) = true then (n, NameKind.cell) else (n, k)) :: _) = _ \/ List.lookup x ((if (k == NameKind.free && env.scope.kind == .function && env.kindOf n == some .cell) = true then (n, NameKind.cell) else (n, k)) :: _) = _
  by_cases hc : (k == NameKind.free && env.scope.kind == .function && env.kindOf n == some .cell) = true
  ·rw [if_pos hc]
   cases hx : x == n with
   | true => left; simp only [lookup_cons, hx]
   | false => simp only [lookup_cons, hx] at h ⊢; exact ih h
  ·rw [if_neg hc]
   cases hx : x == n with
   | true => right; simp only [lookup_cons, hx] at h ⊢; exact h
   | false => simp only [lookup_cons, hx] at h ⊢; exact ih h
theorem W0 {env : Env} : ∀ {names : List (Str × NameKind)} {x : Str} {k : NameKind}, (∀ y ∈ names, y.2 ≠ .cell) ->
  (names.map fun (n, k) => if (k == NameKind.free && env.scope.kind == .function && env.kindOf n == some .cell) then (n, NameKind.cell) else (n, k)).lookup x = some k -> (k = .cell \/ k = .free) -> (x, NameKind.free) ∈ names
 | [], _, _, _, h, _ => by simp at h
 | (n, k') :: r, x, k, hc0, h, hk => by
  have ih := @W0 env r x k (fun y hy => hc0 y (mem_cons_of_mem _ hy))
  have h : List.lookup x ((if (k' == NameKind.free && env.scope.kind == .function && env.kindOf n == some .cell) = true then (n, NameKind.cell) else (n, k')) :: _) = _ := h
  by_cases hc : (k' == NameKind.free && env.scope.kind == .function && env.kindOf n == some .cell) = true
  ·rw [if_pos hc] at h
   have hf : k' = .free := by
    have := hc; simp only [Bool.and_eq_true] at this; simpa using this.1.1
   cases hx : x == n with
   | true =>
    have hxn : x = n := by simpa using hx
    subst hxn; subst hf; exact mem_cons_self
   | false => simp only [lookup_cons, hx] at h; exact mem_cons_of_mem _ (ih h hk)
  ·rw [if_neg hc] at h
   cases hx : x == n with
   | true =>
    have hxn : x = n := by simpa using hx
    subst hxn
    simp only [lookup_cons, hx] at h
    have e : k' = k := Option.some.inj h
    subst e
    rcases hk with hk | hk
    ·exact absurd hk (hc0 _ mem_cons_self)
    ·subst hk; exact mem_cons_self
   | false => simp only [lookup_cons, hx] at h; exact mem_cons_of_mem _ (ih h hk)
end
section
structure Blk (X : Cx) (sc : Scope) (N : List Str) (src : List (Option Nat)) : Prop where
 kind : sc.kind = .function
 nocell : ∀ y ∈ sc.names, y.2 ≠ .cell
 names : ∀ y ∈ sc.names, y.2 = .local -> sc.names.lookup y.1 = some .local
 free : ∀ y ∈ sc.names, y.2 = .free -> X.env.kindOf y.1 = some .cell \/ X.env.kindOf y.1 = some .free
 fv : ∀ (j i : Nat), src[j]? = some (some i) -> ∃ x, N[j]? = some x /\ X.N[i]? = some x /\ sc.names.lookup x = some .free
 len : src.length = N.length
def blk0 (src : List (Option Nat)) (σ : St) : St := src.map fun o => o.bind fun i => (σ[i]?).join
def b0 (X : Cx) (sc : Scope) (C : Addr) (N : List Str) (fp : List Addr) (s : Shared) (H : Hp) : Cx where
 prog := X.prog
 w := X.w
 K := X.K
 mg := X.mg
 base := X.base
 A := X.A
 N := N
 s₀ := s
 H₀ := H
 env := compEnvC sc (clOf X.env.cells sc.names []) C X.env
 outer := X.stack
 stack := X.stack
 ex := fp
 fn := fun _ => false
 calm := true
 pn := []
 xe := fun _ _ => False
section
variable {X : Cx} {pins : List (Addr × Obj)} {σ : St} {H : Hp} {s : Shared}
theorem Blk.cl {sc : Scope} {N : List Str} {src : List (Option Nat)} (B : Blk X sc N src) (ok : X.Ok) : closureFor sc X.env = pure (clOf X.env.cells sc.names []) :=
 F9 fun x hx hk => ok.has x.1 (B.free x hx hk)
theorem N5 {sc : Scope} {x : Str} {c : Addr} (h : (clOf X.env.cells sc.names []).lookup x = some c) : X.env.cells.lookup x = some c :=
 L8 sc.names [] (fun y d e => by simp at e) h
theorem yp5 {sc : Scope} {N : List Str} {src : List (Option Nat)} {fp : List Addr} {D C : Addr} {h4 : Heap} {t : Nat} {m : Str -> Option Value}
  (B : Blk X sc N src) (I : Inv X pins σ H s) (hc : X.calm = true) (hf : ∀ b ∈ fp, FpOk X pins H b) (hfo : ∀ b ∈ fp, ∃ o, s.heap.get? b = some o)
  (hk : ∀ b o, s.heap.get? b = some o -> h4.get? b = some o) (hD : s.heap.objs.size <= D) (hDl : h4.get? D = some { cls := .type "list", data := .seq #[] 0 })
  (hn : h4.Ns C m) (hC : s.heap.objs.size <= C) (hDC : D ≠ C) :
  Inv (b0 X sc C N fp s H) [] (blk0 src σ) (upd H D (.lst [])) { s with heap := h4, toks := t } := by
 have hHD : H D = none := I.hok.fresh hD
 have hHC : H C = none := I.hok.fresh hC
 have new : ObjOk X.prog X.w (upd H D (.lst [])) h4 D (.lst []) := ⟨Nat.zero_le _, [], 0, .nil, hDl⟩
 have cC : ∀ x c, X.env.cells.lookup x = some c -> c ≠ C := fun x c e z => by
  obtain ⟨v, q⟩ := I.cell x c e
  exact absurd (Nat.lt_of_lt_of_le q.lt (by rw [z]; exact hC)) (Nat.lt_irrefl _)
 have cD : ∀ x c, X.env.cells.lookup x = some c -> c ≠ D := fun x c e z => by
  obtain ⟨v, q⟩ := I.cell x c e
  exact absurd (Nat.lt_of_lt_of_le q.lt (by rw [z]; exact hD)) (Nat.lt_irrefl _)
 refine ⟨⟨I.ok.mod, ?_, I.ok.glob, I.ok.blt, hC, fun x y c h1 h2 => ?_, fun x hx => ?_, fun x c h _ => (by cases h), fun _ => I.ok.hd hc, I.ok.frames, .inl rfl, fun b hb => ⟨?_, fun x c e => ?_⟩, I.bs, Nat.le_trans I.ok.bsz I.sz, fun b o e hb => ?_, fun b hb z => ?_, I.stack, I.stkFree⟩,
  rfl, I.bare, Un.laid hk hD hHD, ⟨m, hn, fun i x v e1 e2 e3 => ?_⟩, fun x c e => ?_, ?_, fun x c e => ?_, fun p hp => ?_, I.hok.laid hk hD new, ?_⟩
 ·show (relabel sc X.env).kind = _
  exact B.kind
 ·exact I.ok.inj x y c (N5 h1) (N5 h2)
 ·have hx' : (∃ k, (relabel sc X.env).names.lookup x = some k /\ (k = .cell \/ k = .free)) := by
   rcases hx with hx | hx
   ·exact ⟨_, hx, .inl rfl⟩
   ·exact ⟨_, hx, .inr rfl⟩
  obtain ⟨k, e, hk'⟩ := hx'
  have hm := W0 B.nocell e hk'
  obtain ⟨c, hc'⟩ := I.ok.has x (B.free _ hm rfl)
  exact Option.isSome_iff_exists.mp (P0 hc' sc.names [] hm)
 ·obtain ⟨o, e⟩ := hfo b hb
  exact Nat.ne_of_lt (Nat.lt_of_lt_of_le (Heap.lt_size e) hC)
 ·exact (hf b hb).2.2.2.2.1 x c (N5 e)
 ·rcases (hf b hb).2.2.2.1 with z | z
  ·exact I.ok.noex b o e z
  ·exact absurd (Nat.lt_of_lt_of_le (Heap.lt_size e) (Nat.le_trans I.ok.bsz z)) (Nat.lt_irrefl _)
 ·rcases List.mem_cons.mp (I.stkSub b z) with z | z
  ·exact (hf b hb).2.1 z
  ·exact (hf b hb).2.2.1 z
 ·have e2' : ∃ k, src[i]? = some (some k) /\ σ[k]? = some (some v) := by
   unfold blk0 at e2
   rw [getElem?_map] at e2
   cases q : src[i]? with
   | none => rw [q] at e2; cases e2
   | some o =>
    rw [q] at e2
    cases o with
    | none => cases e2
    | some k =>
     refine ⟨k, rfl, ?_⟩
     have e2 : (σ[k]?).join = some v := Option.some.inj e2
     cases qq : σ[k]? with
     | none => rw [qq] at e2; cases e2
     | some z => rw [qq] at e2; exact congrArg some e2
  obtain ⟨k, ek, ev⟩ := e2'
  obtain ⟨x', n1, n2, n3⟩ := B.fv i k ek
  have : x' = x := by
   have e1 : N[i]? = some x := e1
   rw [n1] at e1; exact Option.some.inj e1
  subst this
  obtain ⟨m0, hn0, hl0⟩ := I.loc
  have hfk := B.free (x', .free) (PySem.mem_of_lookup n3) rfl
  obtain ⟨u, r, l⟩ := hl0 k x' v n2 ev (by rcases hfk with z | z; exact .inr (.inl z); exact .inr (.inr z))
  refine ⟨u, r, .inr ⟨?_, ?_⟩⟩
  ·exact Z3 n3
  ·rcases l with ⟨l, _⟩ | ⟨_, c, ec, z⟩
   ·rcases hfk with q | q <;> (rw [q] at l; cases l)
   ·obtain ⟨c', ec'⟩ := Option.isSome_iff_exists.mp (P0 ec sc.names [] (PySem.mem_of_lookup n3))
    have := N5 ec'
    rw [ec] at this; cases this
    obtain ⟨o, ho, hd⟩ := z
    exact ⟨c, ec', o, hk c o ho, hd⟩
 ·obtain ⟨v, o, ho, hd⟩ := I.cell x c (N5 e)
  exact ⟨v, o, hk c o ho, hd⟩
 ·show upd H D _ C = none
  rw [y9 (Ne.symm hDC)]; exact hHC
 ·rw [y9 (cD x c (N5 e))]; exact I.freeC x c (N5 e)
 ·exact absurd (show p ∈ ([] : List (Addr × Obj)) ++ [] from hp) (by simp)
 ·show (blk0 src σ).length = N.length
  unfold blk0; rw [length_map]; exact B.len
end
end
section
abbrev noE : Value -> Shared -> Prop := fun _ _ => False
theorem toE {α : Type} {t : Sem α} {Q Q' : α -> Shared -> Prop} {M : Model} {A : Around} {E : Value -> Shared -> Prop} {s : Shared} (h : wpAny M A t Q noE s) (hQ : ∀ a s, Q a s -> Q' a s) : wpAny M A t Q' E s :=
 wpAny_mono h hQ fun _ _ x => x.elim
abbrev zq2 (ifs : List Expr) (env : Env) : Sem Bool := forIn ifs true fun c r => if r = true then do let ok ← isTrue c env (eval c env); pure (ForInStep.yield ok) else pure (ForInStep.yield r)
theorem zq3 {prog : Program} {w : World} {A : Around} {R : Result -> Shared -> Prop} {s : Shared} {elt target iter : Expr} {ifs : List Expr} {scope : Scope} {pos : Pos} {it acc : Value} {env : Env} (I : Nat -> Shared -> Prop)
  (turn : ∀ n s, I n s -> wpAny (model prog w) A (pyNext it) (fun r s₁ => match r with
   | none => R (.ok .next) s₁
   | some v => wpAny (model prog w) A (letOwnedTupleGo target it v) (fun _ s₁' => wpAny (model prog w) A (assign target env v) (fun _ s₂ =>
     wpAny (model prog w) A (zq2 ifs env) (fun ok s₃ =>
      if ok = true then wpAny (model prog w) A (eval elt env) (fun x s₄ =>
       wpAny (model prog w) A (call (.builtin "list.append") [acc, x]) (fun _ s₅ => ∃ m, m < n /\ I m s₅) noE s₄) noE s₃
      else ∃ m, m < n /\ I m s₃) noE s₂) noE s₁') noE s₁) noE s)
  (n : Nat) (h : I n s) :
  codeAny (model prog w) A (.compLoop (.ListComp elt [⟨target, iter, ifs, 0⟩] scope pos) 0 it acc env) R s := by
 refine codeAny_loop rfl I (fun n s hI => ?_) n h
 show wpAny _ A ((compTurn (.ListComp elt [⟨target, iter, ifs, 0⟩] scope pos) 0 it acc env).onRaise (fun x => do noteFrame x env; theTreesLotGoes x)) _ _ s
 refine wpAny_noted ?_
 rw [compTurn_list]
 refine wpAny_bind (wpAny_standAt (wpAny_bind (toE (turn n s hI) (fun r s₁ h₁ => ?_))))
 cases r with
 | none => exact wpAny_pure h₁
 | some v =>
  refine wpAny_bind (toE h₁ fun _ s₁' h₁' => ?_)
  refine wpAny_bind (toE h₁' (fun _ s₂ h₂ => wpAny_bind (toE h₂ (fun ok s₃ h₃ => ?_))))
  cases ok with
  | false => exact wpAny_pure ⟨rfl, h₃⟩
  | true =>
   exact wpAny_bind (wpAny_bind (toE h₃ (fun x s₄ h₄ => wpAny_bind (toE h₄ (fun _ s₅ h₅ => wpAny_pure (wpAny_pure ⟨rfl, h₅⟩))))))
def PTs (X : Cx) (ifs : List Expr) (t : TT) : Prop :=
 ∀ (pins : List (Addr × Obj)) (s : Shared) (σ : St) (H : Hp) (Q : Bool -> Hp -> Prop), Inv X pins σ H s -> t σ H Q -> wpAny (model X.prog X.w) X.A (zq2 ifs X.env) (TP X pins σ Q) X.xe s
def tYes : TT := fun _ H Q => Q true H
theorem ya8 {X : Cx} : PTs X [] tYes := fun pins s σ H Q I h => wpAny_pure ⟨H, I, h⟩
theorem ya7 {X : Cx} {c : Expr} {t : TT} (h : PT X c t) : PTs X [c] t := fun pins s σ H Q I q => wpAny_tests_one (h pins s σ H Q I q)
def zd4 (src : List (Option Nat)) (wi : TI) (g : TG) (tc : TT) (te : TE) : TE := fun σ H Q => wi σ H fun J H1 => ∀ D, H1 D = none -> ∃ W : Nat -> Nat -> St -> Hp -> Prop, (∃ m, W 0 m (blk0 src σ) (upd H1 D (.lst []))) /\ ∀ i m σ' H', W i m σ' H' ->
 (J.stop i H' /\ Q (.ref D) H') \/ (J.go i H' /\ ∃ N : St -> Hp -> Prop, (∀ σ2 H2, N σ2 H2 -> ∃ m', m' < m /\ W (i + 1) m' σ2 H2) /\ ∀ x H2, J.yld i H' x H2 -> g x σ' H2 fun σ3 H3 => tc σ3 H3 fun b H4 =>
  if b = true then te σ3 H4 fun y H5 => ∃ xs, H5 D = some (.lst xs) /\ xs.length < sizeLine /\ N σ3 (upd H5 D (.lst (xs ++ [y]))) else N σ3 H4)
section
variable {X : Cx}
theorem B5 {sc : Scope} {N : List Str} {src : List (Option Nat)} {tg elt iter : Expr} {ifs : List Expr} {pos : Pos} {g : TG} {tc : TT} {te : TE} (B : Blk X sc N src) (hc : X.calm = true)
  (hg : ∀ C fp s H, PG (b0 X sc C N fp s H) tg g) (ht : ∀ C fp s H, PTs (b0 X sc C N fp s H) ifs tc) (he : ∀ C fp s H, PE (b0 X sc C N fp s H) elt te)
  {pins : List (Addr × Obj)} {σ : St} {H : Hp} {s : Shared} {it : Addr} {fp : List Addr} {tn : Nat -> Heap -> Prop} {J : It} {Q : VK} {E : Value -> Shared -> Prop}
  (I : Inv X pins σ H s) (T : Turn X.prog X.w X.K tg J fp it tn) (st : tn 0 s.heap) (hf : ∀ b ∈ fp, FpOk X pins H b)
  (hW : ∀ D, H D = none -> ∃ W : Nat -> Nat -> St -> Hp -> Prop, (∃ m, W 0 m (blk0 src σ) (upd H D (.lst []))) /\ ∀ i m σ' H', W i m σ' H' ->
   (J.stop i H' /\ Q (.ref D) H') \/ (J.go i H' /\ ∃ N : St -> Hp -> Prop, (∀ σ2 H2, N σ2 H2 -> ∃ m', m' < m /\ W (i + 1) m' σ2 H2) /\ ∀ x H2, J.yld i H' x H2 -> g x σ' H2 fun σ3 H3 => tc σ3 H3 fun b H4 =>
    if b = true then te σ3 H4 fun y H5 => ∃ xs, H5 D = some (.lst xs) /\ xs.length < sizeLine /\ N σ3 (upd H5 D (.lst (xs ++ [y]))) else N σ3 H4))
  {RR : Value -> Addr -> Result -> Shared -> Prop}
  (hRR : ∀ D C H' s' m', Inv X pins σ H' s' -> s'.heap.Ns C m' -> H' C = none -> s.heap.objs.size <= C -> Q (.ref D) H' -> RR (.ref D) C (.ok .next) s') :
  wpAny (model X.prog X.w) X.A (newList []) (fun acc s₃ => wpAny (model X.prog X.w) X.A (newFunctionEnv sc X.env.globals (clOf X.env.cells sc.names []) [] X.env.qual none .none (some X.env)) (fun cenv s₄ =>
   codeAny (model X.prog X.w) X.A (.compStart (.ListComp elt [⟨tg, iter, ifs, 0⟩] sc pos) 0 (.ref it) acc { cenv with scope := relabel sc X.env }) (RR acc cenv.locals) s₄) E s₃) E s := by
 refine wpAny_newObj_type (wpAny_newFunctionEnv B.nocell (by intro y hy; simp at hy) (fun h₁ hns₁ hsb₁ => ?_) B.kind)
 dsimp only at hns₁ hsb₁ ⊢
 generalize hH2 : s.heap.push { cls := .type "list", dict := none, data := .seq ([] : List Value).toArray } = H2 at hns₁ hsb₁ ⊢
 have hC : H2.objs.size = s.heap.objs.size + 1 := by rw [<- hH2, Heap.size_push]
 have hDC : s.heap.objs.size ≠ H2.objs.size := by rw [hC]; exact Nat.ne_of_lt (Nat.lt_succ_self _)
 have hCle : s.heap.objs.size <= H2.objs.size := by rw [hC]; exact Nat.le_succ _
 have below : ∀ b, b < s.heap.objs.size -> b ≠ H2.objs.size := fun b hb => by rw [hC]; exact Nat.ne_of_lt (Nat.lt_succ_of_lt hb)
 have old : ∀ b o, s.heap.get? b = some o -> h₁.get? b = some o := fun b o e => hsb₁.extBut b o (below b (Heap.lt_size e)) (Heap.get?_push_of_some _ (hH2 ▸ Heap.get?_push_of_some _ e))
 have hacc : h₁.get? s.heap.objs.size = some { cls := .type "list", data := .seq #[] 0 } := hsb₁.extBut _ _ hDC (Heap.get?_push_of_some _ (hH2 ▸ Heap.get?_push_size _ rfl))
 have hfo : ∀ b ∈ fp, ∃ o, s.heap.get? b = some o := fun b hb => by obtain ⟨o, e, _⟩ := T.obj _ _ st b hb; exact ⟨o, e⟩
 have st1 : tn 0 h₁ := T.keep _ _ _ st fun b _ o e => old b o e
 obtain ⟨W, ⟨m0, w0⟩, turn⟩ := hW s.heap.objs.size I.fresh
 have I1 := yp5 (t := s.toks + ([] : List (Str × Value)).length) B I hc hf hfo old (Nat.le_refl _) hacc hns₁ hCle hDC
 have stat : ∀ {H' : Hp}, (∀ b ∈ fp, H' b = none) -> ∀ b ∈ fp, FpOk (b0 X sc H2.objs.size N fp s H) [] H' b := fun {H'} hn b hb => by
  obtain ⟨f0, f1, f2, f3, f4, f5⟩ := hf b hb
  refine ⟨hn b hb, I1.ok.exf b hb |>.1, I1.ok.exfs b hb, .inl hb, fun x c e => f4 x c (N5 e), fun p hp => absurd (show p ∈ ([] : List (Addr × Obj)) ++ [] from hp) (by simp)⟩
 have hfD : ∀ b ∈ fp, b ≠ s.heap.objs.size := fun b hb z => by
  obtain ⟨o, e⟩ := hfo b hb
  exact absurd (Heap.lt_size e) (by rw [z]; exact Nat.lt_irrefl _)
 have loop : ∀ s₃ : Shared, s₃ = { s with heap := h₁, toks := s.toks + ([] : List (Str × Value)).length } ->
   codeAny (model X.prog X.w) X.A (.compLoop (.ListComp elt [⟨tg, iter, ifs, 0⟩] sc pos) 0 (.ref it) (.ref s.heap.objs.size) (compEnvC sc (clOf X.env.cells sc.names []) H2.objs.size X.env))
    (RR (.ref s.heap.objs.size) H2.objs.size) s₃ := by
  rintro s₃ rfl
  refine zq3 (fun n s' => ∃ i σ' H', Inv (b0 X sc H2.objs.size N fp s H) [] σ' H' s' /\ tn i s'.heap /\ (∀ b ∈ fp, H' b = none) /\ W i n σ' H') ?_ m0
   ⟨0, _, _, I1, st1, fun b hb => by rw [y9 (hfD b hb)]; exact (hf b hb).1, w0⟩
  rintro n s3 ⟨i, σ3, H3, I3, st3, fr3, w3⟩
  rcases turn i n σ3 H3 w3 with ⟨stop, qn⟩ | ⟨go, N', hN', step⟩
  ·refine thn (T.done (b0 X sc H2.objs.size N fp s H) rfl rfl rfl rfl i [] s3 σ3 H3 noE I3 (stat fr3) st3 stop) fun r s4 ⟨hr, I4⟩ => ?_
   subst hr
   obtain ⟨m4, hn4, _⟩ := id I4.loc
   refine hRR _ _ H3 s4 m4 ?_ hn4 I4.free hCle qn
   exact I.call' (ch := fp) I4.os I4.base I4.hok I4.bare fun b hb => ⟨(hf b hb).2.2.2.1, (hf b hb).2.1, (hf b hb).2.2.2.2.1, (hf b hb).2.2.2.2.2⟩
  ·refine thn (T.item (b0 X sc H2.objs.size N fp s H) rfl rfl rfl rfl i [] s3 σ3 H3 noE I3 (stat fr3) st3 go) fun r s4 ⟨u, hr, h4⟩ => ?_
   subst hr
   refine thn h4 fun _ s5 hpat => ?_
   obtain ⟨x, H5, I5, r5, y5, st5, fr5⟩ := hpat
   have I5' := I5.pinned (stat fr5) (T.obj _ _ st5)
   have again : ∀ {s7 : Shared} {σ7 : St} {H7 : Hp}, Inv (b0 X sc H2.objs.size N fp s H) ([] ++ zu5 fp s5.heap) σ7 H7 s7 -> N' σ7 H7 -> ∃ m, m < n /\ ∃ i σ' H', Inv (b0 X sc H2.objs.size N fp s H) [] σ' H' s7 /\ tn i s7.heap /\ (∀ b ∈ fp, H' b = none) /\ W i m σ' H' := fun {s7 σ7 H7} I7 n7 => by
    obtain ⟨m', hm, w7⟩ := hN' σ7 H7 n7
    refine ⟨m', hm, i + 1, σ7, H7, I7.unpinned, T.keep _ _ _ st5 fun b hb o e => (I7.pin (b, o) (mem_append_right _ (mem_append_right _ (U4 hb e)))).1, fun b hb => ?_, w7⟩
    obtain ⟨o, e, d⟩ := T.obj _ _ st5 b hb
    exact (I7.pin (b, o) (mem_append_right _ (mem_append_right _ (U4 hb e)))).2.1
   refine thn (hg _ _ _ _ _ s5 σ3 H5 x u _ I5' r5 (step x H5 y5)) fun _ s6 hpat => ?_
   obtain ⟨σ6, H6, I6, q6⟩ := hpat
   refine thn (ht _ _ _ _ _ s6 σ6 H6 _ I6 q6) fun ok s7 hpat => ?_
   obtain ⟨H7, I7, q7⟩ := hpat
   cases ok with
   | false =>
    rw [if_neg Bool.false_ne_true] at q7 ⊢
    exact again I7 q7
   | true =>
    rw [if_pos rfl] at q7 ⊢
    refine thn (he _ _ _ _ _ s7 σ6 H7 _ I7 q7) fun y s8 hpat => ?_
    obtain ⟨v8, H8, I8, r8, q8⟩ := hpat
    obtain ⟨xs, hD8, hz8, n8⟩ := q8
    refine thn (zt7 _ s8 σ6 H8 (.ref s.heap.objs.size) [v8] (.ref s.heap.objs.size) [y] (fun _ H9 => H9 = upd H8 s.heap.objs.size (.lst (xs ++ [v8]))) I8 rfl (.cons r8 .nil) ⟨_, xs, v8, rfl, rfl, hD8, hz8, rfl⟩) fun _ s9 hpat => ?_
    obtain ⟨v9, H9, I9, r9, q9⟩ := hpat
    subst q9
    exact again I9 n8
 refine codeAny_compStart_list (loop _ rfl) (toE (T.self X.A 0 { s with heap := h₁, toks := s.toks + ([] : List (Str × Value)).length } (fun v s' => v = .ref it /\ s' = { s with heap := h₁, toks := s.toks + ([] : List (Str × Value)).length }) noE st1 ⟨rfl, rfl⟩) fun v s' hpat => ?_)
 obtain ⟨e1, e2⟩ := hpat
 subst e1; subst e2
 exact loop _ rfl
theorem Inv.letGo {pins : List (Addr × Obj)} {σ : St} {H : Hp} {s s0 : Shared} {C : Addr} {h' : Heap} (I : Inv X pins σ H s) (I0 : ∃ σ0 H0, Inv X pins σ0 H0 s0) (hC : s0.heap.objs.size <= C) (hn : H C = none) (hs : Heap.SameBut C s.heap h') : Inv X pins σ H { s with heap := h' } := by
 obtain ⟨σ0, H0, I0⟩ := I0
 refine I.turned (t' := s.toks) (it := C) (fun b o hb e => (hs.2 b hb).trans e) hn (Nat.ne_of_gt (Nat.lt_of_lt_of_le I0.lt hC)) (.inr (Nat.le_trans I0.sz hC)) (fun x c e z => ?_) fun p hp z => ?_
 ·obtain ⟨v, q⟩ := I0.cell x c e
  exact absurd (Nat.lt_of_lt_of_le q.lt (by rw [z]; exact hC)) (Nat.lt_irrefl _)
 ·exact absurd (Nat.lt_of_lt_of_le (Heap.lt_size (I0.pin p hp).1) (by rw [z]; exact hC)) (Nat.lt_irrefl _)
theorem zo7 {sc : Scope} {N : List Str} {src : List (Option Nat)} {tg elt iter : Expr} {ifs : List Expr} {pos : Pos} {wi : TI} {g : TG} {tc : TT} {te : TE} (B : Blk X sc N src) (hc : X.calm = true)
  (hi : PI X tg iter wi) (hg : ∀ C fp s H, PG (b0 X sc C N fp s H) tg g) (ht : ∀ C fp s H, PTs (b0 X sc C N fp s H) ifs tc) (he : ∀ C fp s H, PE (b0 X sc C N fp s H) elt te)
  (hs : ∀ x, foldedSetIterable iter X.env x = pure x := by intro _; rfl) :
  PE X (.ListComp elt [⟨tg, iter, ifs, 0⟩] sc pos) (zd4 src wi g tc te) := by
 intro pins s σ H Q I h
 rw [eval_ListComp]
 refine wpAny_comprehension_free (use := none) rfl hs (B.cl I.ok) B.kind B.names (wpAny_mono (hi pins s σ H _ I h) (fun xv s₁ h₁ => wpAny_mono h₁ (fun itv s₂ h₂ => ?_) fun _ _ e => e) fun _ _ e => e)
 obtain ⟨it, fp, tn, J, H2, rfl, I2, T, st2, f2, hW⟩ := h₂
 refine B5 (RR := fun acc C => compPost (model X.prog X.w) X.A X.xe none (EP X pins σ Q) acc C) (Q := Q) B hc hg ht he I2 T st2 f2 hW ?_
 intro D C H' s' m' I' hn hC hCs q
 exact ⟨m', hn, fun h'' hs'' => ⟨.ref D, H', I'.letGo ⟨_, _, I2⟩ hCs hC hs'', rfl, q⟩⟩
theorem xz2 {i : Nat} {y : Str} {py : Pos} {sc : Scope} {N : List Str} {src : List (Option Nat)} {tg elt iter : Expr} {ifs : List Expr} {pos spos : Pos} {wi : TI} {g : TG} {tc : TT} {te : TE} (hN : X.N.Nodup) (hi' : X.N[i]? = some y) (hx : Loc X.env.scope y)
  (B : Blk X sc N src) (hc : X.calm = true)
  (hi : PI X tg iter wi) (hg : ∀ C fp s H, PG (b0 X sc C N fp s H) tg g) (ht : ∀ C fp s H, PTs (b0 X sc C N fp s H) ifs tc) (he : ∀ C fp s H, PE (b0 X sc C N fp s H) elt te)
  (hsw : swapsWith (.ListComp elt [⟨tg, iter, ifs, 0⟩] sc pos) (some (.Name y py)) spos.line X.env = pure true := by rfl)
  (hs : ∀ x, foldedSetIterable iter X.env x = pure x := by intro _; rfl) (hf : X.fn y = true \/ X.env.scope.names.lookup y = some .local := by first | exact .inl rfl | exact .inr rfl | assumption) :
  PS X (.Assign [.Name y py] (.ListComp elt [⟨tg, iter, ifs, 0⟩] sc pos) spos) (tAsg (zd4 src wi g tc te) (M1 i)) := by
 intro pins s σ H Dn I h
 rw [exec_Assign_Name_used _ _ _ _ hsw]
 refine wpAny_bind (wpAny_standAt (wpAny_bind ?_))
 show wpAny _ _ (do let _ ← comprehension (.ListComp elt [⟨tg, iter, ifs, 0⟩] sc pos) sc X.env _ (newList []) false (eval iter X.env) (some (assign (.Name y py) X.env))) _ _ s
 refine wpAny_bind (wpAny_mono (wpAny_comprehension_free (use := some (assign (.Name y py) X.env)) (Q := fun _ s' => SP X pins Dn .next s') rfl hs (B.cl I.ok) B.kind B.names
  (wpAny_mono (hi pins s σ H _ I h) (fun xv s₁ h₁ => wpAny_mono h₁ (fun itv s₂ h₂ => ?_) fun _ _ e => e) fun _ _ e => e)) (fun _ s' hq => wpAny_pure (wpAny_pure hq)) fun _ _ e => e)
 obtain ⟨it, fp, tn, J, H2, rfl, I2, T, st2, f2, hW⟩ := h₂
 refine B5 (RR := fun acc C => compPost (model X.prog X.w) X.A X.xe (some (assign (.Name y py) X.env)) (fun _ s' => SP X pins Dn .next s') acc C) (Q := fun x H1 => M1 i x σ H1 Dn.nx) B hc hg ht he I2 T st2 f2 hW ?_
 intro D C H' s' m' I' hn hC hCs q
 show wpAny _ _ (assign (.Name y py) X.env (.ref D)) _ _ _
 refine wpAny_assign_Name (zv0 I' hN hi' hx (v := .ref D) rfl (fun s'' I'' hpat => ?_) hf)
 obtain ⟨a, hsb, ha⟩ := hpat
 have hCa : C ≠ a := fun z => by
  rcases ha with ha | ha
  ·have := I2.lt; rw [<- ha, <- z] at this
   exact absurd (Nat.lt_of_lt_of_le this hCs) (Nat.lt_irrefl _)
  ·obtain ⟨v, qv⟩ := I2.cell y a ha
   exact absurd (Nat.lt_of_lt_of_le qv.lt (by rw [<- z]; exact hCs)) (Nat.lt_irrefl _)
 exact ⟨m', hn.sameBut hsb hCa, fun h'' hs'' => ⟨_, H', I''.letGo ⟨_, _, I2⟩ hCs hC hs'', q⟩⟩
end
end
section
section
variable {X : Cx} {pins : List (Addr × Obj)} {σ : St} {H : Hp} {s : Shared} {h' : Heap}
theorem Inv.turnedL {t' : Nat} {fp : List Addr} (I : Inv X pins σ H s) (k : ∀ b o, b ∉ fp -> s.heap.get? b = some o -> h'.get? b = some o) (hf : ∀ b ∈ fp, FpOk X pins H b) : Inv X pins σ H { s with heap := h', toks := t' } := by
 have nit : ∀ b u, H b = some u -> b ∉ fp := fun b u e z => by rw [(hf b z).1] at e; cases e
 refine I.step (g' := s.gens) (d' := s.drawn) (ch := fp) (fun b hb => ⟨(hf b hb).2.2.2.1, (hf b hb).2.1, (hf b hb).2.2.2.2.1, (hf b hb).2.2.2.2.2⟩) (fun b o _ _ hc e _ => k b o hc e) (fun b o _ _ hc e _ => ⟨o.slots, k b o hc e⟩) (fun _ _ _ _ n => n)
  (fun b o hc e => ⟨o, k b o hc e⟩) (fun _ _ e => e) (fun _ _ _ e => e) (fun b ps e => ⟨#[], by rw [e]; simp⟩) (fun m hm => ?_) (fun b u e => ?_) I.bare
 ·obtain ⟨o, es, ep, ho, r⟩ := hm
  exact ⟨o, es, ep, k _ o (fun z => (hf _ z).2.1 rfl) ho, r⟩
 ·refine (I.hok b u e).stay (fun c v hc q => k c v ?_ q) (fun _ q => q) fun _ _ q => q
  rcases hc with z | z
  ·rw [z]; exact nit b u e
  ·exact nit c _ z
theorem Inv.turnedN {t' : Nat} {fp : List Addr} {T : Addr} {o : HO} (I : Inv X pins σ H s) (k : ∀ b o, b ∉ fp -> s.heap.get? b = some o -> h'.get? b = some o) (hf : ∀ b ∈ fp, FpOk X pins H b) (hT : s.heap.objs.size <= T)
  (new : ObjOk X.prog X.w (upd H T o) h' T o) : Inv X pins σ (upd H T o) { s with heap := h', toks := t' } := by
 have hn : H T = none := I.hok.fresh hT
 have ne : ∀ b u, s.heap.get? b = some u -> b ≠ T := fun b u e z => absurd (Nat.lt_of_lt_of_le (Heap.lt_size e) (by rw [z]; exact hT)) (Nat.lt_irrefl _)
 have nit : ∀ b u, H b = some u -> b ∉ fp := fun b u e z => by rw [(hf b z).1] at e; cases e
 refine I.step (g' := s.gens) (d' := s.drawn) (ch := fp) (fun b hb => ⟨(hf b hb).2.2.2.1, (hf b hb).2.1, (hf b hb).2.2.2.2.1, (hf b hb).2.2.2.2.2⟩) (fun b o _ _ hc e _ => k b o hc e) (fun b o _ _ hc e _ => ⟨o.slots, k b o hc e⟩) (fun b o _ e n => by rw [y9 (ne b o e)]; exact n)
  (fun b o hc e => ⟨o, k b o hc e⟩) (fun b xs e => by rw [y9 (t8 e hn)]; exact e) (fun b _ _ e => by rw [y9 (t8 e hn)]; exact e) (fun b ps e => ⟨#[], by rw [y9 (t8 e hn), e]; simp⟩) (fun m hm => ?_) (fun b u e => ?_) I.bare
 ·obtain ⟨o, es, ep, ho, r⟩ := hm
  exact ⟨o, es, ep, k _ o (fun z => (hf _ z).2.1 rfl) ho, r⟩
 ·by_cases hb : b = T
  ·subst hb; rw [y6] at e; cases e; exact new
  ·rw [y9 hb] at e
   refine (I.hok b u e).stay (fun c v hc q => k c v ?_ q) (fun c q => by rw [y9 (t8 q hn)]; exact q) fun c xs q => by rw [y9 (t8 q hn)]; exact q
   rcases hc with z | z
   ·rw [z]; exact nit b u e
   ·exact nit c _ z
end
def Itz2 (K : W.Frag) (l1 l2 : Addr) : It :=
 ⟨fun i H => ∃ xs ys x y, SqL K H l1 xs /\ SqL K H l2 ys /\ xs[i]? = some x /\ ys[i]? = some y,
  fun i H v H' => ∃ t x y, v = .ref t /\ H t = none /\ H' = upd H t (.tup [x, y]) /\ (∀ xs, SqL K H l1 xs -> xs[i]? = some x) /\ (∀ ys, SqL K H l2 ys -> ys[i]? = some y),
  fun i H => ∃ xs ys, SqL K H l1 xs /\ SqL K H l2 ys /\ (xs.length <= i \/ ys.length <= i)⟩
structure Zip2 (z TI TO i1 i2 : Addr) : Prop where
 TIz : TI ≠ z
 TOz : TO ≠ z
 i1z : i1 ≠ z
 i2z : i2 ≠ z
 TITO : TI ≠ TO
 TIi1 : TI ≠ i1
 TIi2 : TI ≠ i2
 TOi1 : TO ≠ i1
 TOi2 : TO ≠ i2
 i12 : i1 ≠ i2
theorem O9 {h : Heap} {a b : Addr} {o u : Obj} (e : h.get? a = some o) (e' : h.get? b = some u) (d : o.cls ≠ u.cls) : a ≠ b := by
 intro z; subst z; rw [e] at e'; exact d (congrArg Obj.cls (Option.some.inj e'))
theorem U6 {n : String} (h : ("list" == n) = false) : Value.type "list" ≠ Value.type n := fun e => by cases e; revert h; decide
theorem yo7 (n : Nat) : Zip2 (n + 4) (n + 2) (n + 3) n (n + 1) := by
 constructor <;> (show ((_ : Nat) ≠ _); omega)
theorem D8 {h : Heap} {z TI TO i1 i2 l1 l2 : Addr} {its1 its2 : Array Value} {a b f0 : Value} {k1 k2 : Nat} (D : Zip2 z TI TO i1 i2) (hz : IsZip h z TI TO f0) (hTO : IsPair h TO a b) (h1 : h.IsListIter i1 l1 k1) (h2 : h.IsListIter i2 l2 k2)
  (p1 : h.IsList l1 its1) (p2 : h.IsList l2 its2) : ZipApart z TI TO i1 i2 l1 l2 := by
 obtain ⟨o1, e1, c1, _⟩ := h1
 obtain ⟨o2, e2, c2, _⟩ := h2
 obtain ⟨p1o, pe1, pc1, _⟩ := p1
 obtain ⟨p2o, pe2, pc2, _⟩ := p2
 exact ⟨D.TIz, D.TOz, D.i1z, D.i2z, D.TITO, D.TIi1, D.TIi2, D.TOi1, D.TOi2, D.i12,
  O9 pe1 hz (by rw [pc1]; exact U6 (by decide)), O9 pe1 hTO (by rw [pc1]; exact U6 (by decide)), O9 pe1 e1 (by rw [pc1, c1]; decide), O9 pe1 e2 (by rw [pc1, c2]; decide),
  O9 pe2 hz (by rw [pc2]; exact U6 (by decide)), O9 pe2 hTO (by rw [pc2]; exact U6 (by decide)), O9 pe2 e1 (by rw [pc2, c1]; decide), O9 pe2 e2 (by rw [pc2, c2]; decide)⟩
theorem za9 {P : Program} {w : World} {K : W.Frag} {es : List Expr} {tk : Nat} {tp : Pos} (z TI TO i1 i2 l1 l2 : Addr) (D : Zip2 z TI TO i1 i2) :
  Turn P w K (.Tuple es tk tp) (Itz2 K l1 l2) [z, TI, TO, i1, i2] z
   (fun i h => IsZip h z TI TO .none /\ IsPair h TI (.ref i1) (.ref i2) /\ (∃ a b, IsPair h TO a b) /\ h.IsListIter i1 l1 i /\ h.IsListIter i2 l2 i) where
 mem := by simp
 obj := fun i h st b hb => by
  obtain ⟨hz, hTI, ⟨a, c, hTO⟩, ⟨o1, e1, _, d1⟩, ⟨o2, e2, _, d2⟩⟩ := st
  simp only [mem_cons, not_mem_nil, or_false] at hb
  rcases hb with rfl | rfl | rfl | rfl | rfl
  ·exact ⟨_, hz, fun v q => by cases q⟩
  ·exact ⟨_, hTI, fun v q => by cases q⟩
  ·exact ⟨_, hTO, fun v q => by cases q⟩
  ·exact ⟨_, e1, fun v q => by rw [d1] at q; cases q⟩
  ·exact ⟨_, e2, fun v q => by rw [d2] at q; cases q⟩
 keep := fun i h h' st k => by
  obtain ⟨hz, hTI, ⟨a, c, hTO⟩, h1, h2⟩ := st
  exact ⟨k z (by simp) _ hz, k TI (by simp) _ hTI, ⟨a, c, k TO (by simp) _ hTO⟩, h1.at fun o e => k i1 (by simp) o e, h2.at fun o e => k i2 (by simp) o e⟩
 item := by
  intro X hP hw hK hc i pins s σ H E I hf st hg
  subst hP hw hK
  obtain ⟨xs, ys, x, y, hq1, hq2, hx, hy⟩ := hg
  obtain ⟨its1, rv1, p1, _⟩ := I.list hq1
  obtain ⟨its2, rv2, p2, _⟩ := I.list hq2
  obtain ⟨u, hu, ru⟩ := rv1.get hx
  obtain ⟨v, hv, rw'⟩ := rv2.get hy
  obtain ⟨hz, hTI, ⟨a, b, hTO⟩, h1, h2⟩ := st
  have Z := D8 D hz hTO h1 h2 p1.isList p2.isList
  refine wpAny_pyNext_zip_item Z hz hTI hTO h1 h2 p1.isList p2.isList (x := u) (y := v) (by simpa using hu) (by simpa using hv) fun h' a1 a2 a3 a4 a5 a6 hk => ?_
  refine ⟨_, rfl, ?_⟩
  refine wpAny_letOwnedTupleGo_zip a1 fun h'' hz'' hs'' => ?_
  have hzs : z < s.heap.objs.size := Heap.lt_size hz
  have kk : ∀ c o, c ∉ [z, TI, TO, i1, i2] -> s.heap.get? c = some o -> h''.get? c = some o := fun c o hc e => by
   simp only [mem_cons, not_mem_nil, or_false, not_or] at hc
   exact hs''.extBut _ _ hc.1 (hk c o hc.1 hc.2.2.1 hc.2.2.2.1 hc.2.2.2.2 e)
  have hT : h''.get? s.heap.objs.size = some { cls := .type "tuple", data := .seq #[u, v] } := hs''.extBut _ _ (Nat.ne_of_gt hzs) a5
  have I2 : Inv X pins σ (upd H s.heap.objs.size (.tup [x, y])) { s with heap := h'', toks := s.toks } :=
   I.turnedN (T := s.heap.objs.size) (o := .tup [x, y]) kk hf (Nat.le_refl _) ⟨by show 2 <= sizeLine; decide, [u, v], .cons ru (.cons rw' .nil), ⟨_, hT, rfl, _, rfl⟩⟩
  refine ⟨.ref s.heap.objs.size, _, I2, rfl, ⟨_, x, y, rfl, I.fresh, rfl, fun zs hzs' => by rw [I.list_inj hzs' hq1]; exact hx, fun zs hzs' => by rw [I.list_inj hzs' hq2]; exact hy⟩,
   ⟨hz'', hs''.extBut _ _ D.TIz (hk _ _ D.TIz D.TITO D.TIi1 D.TIi2 hTI), ⟨_, _, hs''.extBut _ _ D.TOz a2⟩, a3.extBut hs''.extBut D.i1z, a4.extBut hs''.extBut D.i2z⟩, fun c hc' => ?_⟩
  have hlt : c < s.heap.objs.size := by
   obtain ⟨o1, e1, _⟩ := h1
   obtain ⟨o2, e2, _⟩ := h2
   simp only [mem_cons, not_mem_nil, or_false] at hc'
   rcases hc' with rfl | rfl | rfl | rfl | rfl
   ·exact hzs
   ·exact Heap.lt_size hTI
   ·exact Heap.lt_size hTO
   ·exact Heap.lt_size e1
   ·exact Heap.lt_size e2
  rw [y9 (Nat.ne_of_lt hlt)]
  exact (hf c hc').1
 done := by
  intro X hP hw hK hc i pins s σ H E I hf st hg
  subst hP hw hK
  obtain ⟨xs, ys, hq1, hq2, hl⟩ := hg
  obtain ⟨its1, rv1, p1, _⟩ := I.list hq1
  obtain ⟨its2, rv2, p2, _⟩ := I.list hq2
  obtain ⟨hz, hTI, ⟨a, b, hTO⟩, h1, h2⟩ := st
  have Z := D8 D hz hTO h1 h2 p1.isList p2.isList
  have l1' := rv1.length
  have l2' := rv2.length
  refine wpAny_pyNext_zip_end (I.ok.hd hc) Z hz hTI hTO h1 h2 p1.isList p2.isList (hl.elim (fun q => .inl (by simp; omega)) fun q => .inr (by simp; omega)) fun h' hk => ⟨rfl, ?_⟩
  exact I.turnedL (t' := s.toks) (fun c o hc e => by
   simp only [mem_cons, not_mem_nil, or_false, not_or] at hc
   exact hk c o hc.1 hc.2.2.1 hc.2.2.2.1 hc.2.2.2.2 e) hf
 self := fun _ _ _ _ _ st h => wpAny_pyIter_zip st.1 h
section
variable {X : Cx}
def xb5 (K : W.Frag) (ta : TA) : TI := fun σ H R => ta σ H fun vs H1 => ∃ a b xs ys, vs = [.ref a, .ref b] /\ SqL K H1 a xs /\ SqL K H1 b ys /\ R (Itz2 K a b) H1
theorem xy0 {a b : Expr} {ta : TA} {p pos : Pos} {es : List Expr} {tk : Nat} {tp : Pos} (hg : Gl X "zip") (hm : X.mg "zip" = none) (ha : PA X [a, b] ta) (hs : starEach [a, b] X.env = [(false, eval a X.env), (false, eval b X.env)] := by rfl) (hs2 : starEach [b] X.env = [(false, eval b X.env)] := by rfl) :
  PI X (.Tuple es tk tp) (.Call (.Name "zip" p) [a, b] [] pos) (xb5 X.K ta) := by
 intro pins s σ H R I h
 refine Call_ (Y8 I hg hm boot_zip (PyProof.Rows.callWith_type1 (thn (ha pos pins s σ H _ I h) fun us s1 hpat => ?_) (by rw [hs, hs2]) (by rw [hs2]; rfl)))
 obtain ⟨vs, H1, I1, r1, q1⟩ := hpat
 obtain ⟨l1, l2, xs, ys, e, q1, q2, q⟩ := q1
 subst e
 cases r1 with
 | cons r rr =>
  cases rr with
  | cons r' rr =>
   cases rr
   cases r
   cases r'
   obtain ⟨its1, rv1, p1, _⟩ := I1.list q1
   obtain ⟨its2, rv2, p2, _⟩ := I1.list q2
   refine call_zip_2 p1.isList p2.isList fun h' hz hTI hTO hi1 hi2 hsz hk => ?_
   have I2 : Inv X pins σ H1 { s1 with heap := h', toks := s1.toks } := I1.kept hk
   refine wpAny_pyIter_zip (s := { s1 with heap := h' }) hz ?_
   refine ⟨_, [s1.heap.objs.size + 4, s1.heap.objs.size + 2, s1.heap.objs.size + 3, s1.heap.objs.size, s1.heap.objs.size + 1], _, _, H1, rfl, I2, za9 _ _ _ _ _ l1 l2 (yo7 _),
    ⟨hz, hTI, ⟨_, _, hTO⟩, hi1, hi2⟩, fun b hb => ?_, q⟩
   have hb' : s1.heap.objs.size <= b := by
    simp only [mem_cons, not_mem_nil, or_false] at hb
    rcases hb with rfl | rfl | rfl | rfl | rfl
    ·exact Nat.le_add_right _ 4
    ·exact Nat.le_add_right _ 2
    ·exact Nat.le_add_right _ 3
    ·exact Nat.le_refl _
    ·exact Nat.le_add_right _ 1
   exact I1.fpOk hb' (I1.hok.fresh hb')
end
end
section
structure Zip3 (z TI TO i1 i2 i3 : Addr) : Prop where
 TIz : TI ≠ z
 TOz : TO ≠ z
 i1z : i1 ≠ z
 i2z : i2 ≠ z
 i3z : i3 ≠ z
 TITO : TI ≠ TO
 TIi1 : TI ≠ i1
 TIi2 : TI ≠ i2
 TIi3 : TI ≠ i3
 TOi1 : TO ≠ i1
 TOi2 : TO ≠ i2
 TOi3 : TO ≠ i3
 i12 : i1 ≠ i2
 i13 : i1 ≠ i3
 i23 : i2 ≠ i3
structure Apart3 (z TO i1 i2 i3 l : Addr) : Prop where
 lz : l ≠ z
 lTO : l ≠ TO
 l1 : l ≠ i1
 l2 : l ≠ i2
 l3 : l ≠ i3
section
variable {prog : Program} {w : World} {A : Around} {E : Value -> Shared -> Prop} {s : Shared}
end
section
variable {X : Cx}
end
def Ite (K : W.Frag) (l : Addr) : It :=
 ⟨fun i H => ∃ xs x, SqL K H l xs /\ xs[i]? = some x,
  fun i H v H' => ∃ t x, v = .ref t /\ H t = none /\ H' = upd H t (.tup [.int i, x]) /\ (∀ xs, SqL K H l xs -> xs[i]? = some x),
  fun i H => ∃ xs, SqL K H l xs /\ xs.length <= i⟩
theorem zw8 {P : Program} {w : World} {K : W.Frag} {es : List Expr} {tk : Nat} {tp : Pos} (e it l : Addr) (hne : e ≠ it) :
  Turn P w K (.Tuple es tk tp) (Ite K l) [e, it] e (fun i h => (∃ old, IsEnum h e it (i : Nat) old) /\ h.IsListIter it l i) where
 mem := by simp
 obj := fun i h st b hb => by
  obtain ⟨⟨old, he⟩, ⟨o1, e1, _, d1⟩⟩ := st
  simp only [mem_cons, not_mem_nil, or_false] at hb
  rcases hb with rfl | rfl
  ·exact ⟨_, he, fun v q => by cases q⟩
  ·exact ⟨_, e1, fun v q => by rw [d1] at q; cases q⟩
 keep := fun i h h' st k => by
  obtain ⟨⟨old, he⟩, h1⟩ := st
  exact ⟨⟨old, k e (by simp) _ he⟩, h1.at fun o q => k it (by simp) o q⟩
 item := by
  intro X hP hw hK hc i pins s σ H E I hf st hg
  subst hP hw hK
  obtain ⟨xs, x, hq1, hx⟩ := hg
  obtain ⟨its1, rv1, p1, _⟩ := I.list hq1
  obtain ⟨u1, hu1, ru1⟩ := rv1.get hx
  obtain ⟨⟨old, he⟩, h1⟩ := st
  refine wpAny_pyNext_enum_item he h1 p1.isList (x := u1) (by simpa using hu1) hne fun h' a1 a2 a3 a4 hk => ?_
  refine ⟨_, rfl, ?_⟩
  refine wpAny_letOwnedTupleGo_enum a1 fun h'' he'' hs'' => ?_
  have hzs : e < s.heap.objs.size := Heap.lt_size he
  have kk : ∀ c o, c ∉ [e, it] -> s.heap.get? c = some o -> h''.get? c = some o := fun c o hc q => by
   simp only [mem_cons, not_mem_nil, or_false, not_or] at hc
   exact hs''.extBut _ _ hc.1 (hk c o hc.1 hc.2 q)
  have hT : h''.get? s.heap.objs.size = some { cls := .type "tuple", data := .seq #[.int i s.toks, u1] } := hs''.extBut _ _ (Nat.ne_of_gt hzs) a3
  have I2 : Inv X pins σ (upd H s.heap.objs.size (.tup [.int i, x])) { s with heap := h'', toks := s.toks + 1 } :=
   I.turnedN (T := s.heap.objs.size) (o := .tup [.int i, x]) kk hf (Nat.le_refl _) ⟨by show 2 <= sizeLine; decide, [.int i s.toks, u1], .cons ⟨_, rfl⟩ (.cons ru1 .nil), ⟨_, hT, rfl, _, rfl⟩⟩
  refine ⟨.ref s.heap.objs.size, _, I2, rfl, ⟨_, x, rfl, I.fresh, rfl, fun zs hzs' => by rw [I.list_inj hzs' hq1]; exact hx⟩,
   ⟨⟨_, he''⟩, a2.extBut hs''.extBut hne.symm⟩, fun c hc' => ?_⟩
  have hlt : c < s.heap.objs.size := by
   obtain ⟨o1, e1, _⟩ := h1
   simp only [mem_cons, not_mem_nil, or_false] at hc'
   rcases hc' with rfl | rfl
   ·exact hzs
   ·exact Heap.lt_size e1
  rw [y9 (Nat.ne_of_lt hlt)]
  exact (hf c hc').1
 done := by
  intro X hP hw hK hc i pins s σ H E I hf st hg
  subst hP hw hK
  obtain ⟨xs, hq1, hl⟩ := hg
  obtain ⟨its1, rv1, p1, _⟩ := I.list hq1
  obtain ⟨⟨old, he⟩, h1⟩ := st
  have l1' := rv1.length
  refine wpAny_pyNext_enum_end (I.ok.hd hc) he h1 p1.isList (by simp; omega) fun h' hk => ⟨rfl, ?_⟩
  exact I.turnedL (t' := s.toks) (fun c o hc q => by
   simp only [mem_cons, not_mem_nil, or_false, not_or] at hc
   exact hk c o hc.2 q) hf
 self := fun A i s Q E st h => by
  obtain ⟨⟨old, he⟩, h1⟩ := st
  have hT : s.TypeIs (.ref e) "enumerate" := ⟨_, he, rfl⟩
  refine wpAny_pyIter_slot hT F.slot_enumerate_iter (wpAny_call_entry F.slot_enumerate_iter hT F.entry_enumerate_iter ?_ (F.args_enumerate_iter_1 _))
  show wpAny _ _ (ret (.ref e)) _ _ s
  exact wpAny_pure ⟨_, rfl, "enumerate", _, hT, F.slot_enumerate_next.lookup, h⟩
section
variable {X : Cx}
def xb9 (K : W.Frag) (ta : TA) : TI := fun σ H R => ta σ H fun vs H1 => ∃ a xs, vs = [.ref a] /\ SqL K H1 a xs /\ R (Ite K a) H1
theorem yw5 {a : Expr} {ta : TA} {p pos : Pos} {es : List Expr} {tk : Nat} {tp : Pos} (hg : Gl X "enumerate") (hm : X.mg "enumerate" = none) (ha : PA X [a] ta) (hs : starEach [a] X.env = [(false, eval a X.env)] := by rfl) :
  PI X (.Tuple es tk tp) (.Call (.Name "enumerate" p) [a] [] pos) (xb9 X.K ta) := by
 intro pins s σ H R I h
 refine Call_ (Y8 I hg hm boot_enumerate (PyProof.Rows.callWith_type1 (thn (ha pos pins s σ H _ I h) fun us s1 hpat => ?_) hs rfl))
 obtain ⟨vs, H1, I1, r1, q1⟩ := hpat
 obtain ⟨l, xs, e, q1, q⟩ := q1
 subst e
 cases r1 with
 | cons r rr =>
  cases rr
  cases r
  obtain ⟨its1, rv1, p1, _⟩ := I1.list q1
  refine call_enumerate_list p1.isList fun h' he hit hsz hk => ?_
  have I2 : Inv X pins σ H1 { s1 with heap := h', toks := s1.toks } := I1.kept hk
  have hT : ({ s1 with heap := h' } : Shared).TypeIs (.ref (s1.heap.objs.size + 1)) "enumerate" := ⟨_, he, rfl⟩
  refine (zw8 (P := X.prog) (w := X.w) (K := X.K) (es := es) (tk := tk) (tp := tp) (s1.heap.objs.size + 1) s1.heap.objs.size l (Nat.ne_of_gt (Nat.lt_succ_self _))).self X.A 0 { s1 with heap := h' } _ _ ⟨⟨_, he⟩, hit⟩ ?_
  refine ⟨_, [s1.heap.objs.size + 1, s1.heap.objs.size], _, _, H1, rfl, I2, zw8 _ _ l (Nat.ne_of_gt (Nat.lt_succ_self _)), ⟨⟨_, he⟩, hit⟩, fun b hb => ?_, q⟩
  have hb' : s1.heap.objs.size <= b := by
   simp only [mem_cons, not_mem_nil, or_false] at hb
   rcases hb with rfl | rfl
   ·exact Nat.le_succ _
   ·exact Nat.le_refl _
  exact I1.fpOk hb' (I1.hok.fresh hb')
end
end
section
def XAt (a C : Addr) (h : Heap) : Prop := ∃ o vs, h.get? a = some o /\ o.cls = .ref C /\ o.data = .fields vs
def xe3 (K : W.Frag) (C : Addr) : Option Str := match K.lookup C with
 | some ⟨_, _, .cls cd, _⟩ => some cd.name
 | _ => none
inductive D where
 | non | bl (b : Bool) | int (i : Int) | str (x : Str) | lst (ds : List D) | tup (ds : List D) | exc (c : Str)
 | ptr (a : Addr) | obj (c : Str) (ns : List Str) (ds : List D)
mutual
inductive Rep (K : W.Frag) (F : Hp) : V -> D -> Prop
 | non : Rep K F .non .non
 | bl (b : Bool) : Rep K F (.bl b) (.bl b)
 | int (i : Int) : Rep K F (.int i) (.int i)
 | str (x : Str) : Rep K F (.str x) (.str x)
 | lst {a : Addr} {xs : List V} {ds : List D} : SqL K F a xs -> Reps K F xs ds -> Rep K F (.ref a) (.lst ds)
 | tup {a : Addr} {xs : List V} {ds : List D} : SqT K F a xs -> Reps K F xs ds -> Rep K F (.ref a) (.tup ds)
 | exc {a C : Addr} {c : Str} : (W.nsIn K mainGlobals c = some (some (.ref C)) /\ xe3 K C = some c) -> F a = some (.ext (XAt a C)) -> Rep K F (.ref a) (.exc c)
 | ptr (a : Addr) : Rep K F (.ref a) (.ptr a)
 | obj {a dx C : Addr} {c : Str} {ns : List Str} {xs : List V} {ds : List D} : W.nsIn K mainGlobals c = some (some (.ref C)) -> ns.length = xs.length -> F a = some (.ins C dx (ns.zip xs)) -> F dx = some (.own a) -> Reps K F xs ds -> Rep K F (.ref a) (.obj c ns ds)
inductive Reps (K : W.Frag) (F : Hp) : List V -> List D -> Prop
 | nil : Reps K F [] []
 | cons {v : V} {d : D} {vs : List V} {ds : List D} : Rep K F v d -> Reps K F vs ds -> Reps K F (v :: vs) (d :: ds)
end
theorem Same.seqT {K : W.Frag} {H H' : Hp} {a : Addr} {xs : List V} (e : Same H H') (h : SqT K H a xs) : SqT K H' a xs := by
 rcases h with (h | ⟨o, h⟩) | h
 ·exact .inl (.inl (e _ _ h))
 ·exact .inl (.inr ⟨o, e _ _ h⟩)
 ·exact .inr h
section
variable {K : W.Frag} {F F' : Hp}
mutual
theorem Rep.mono (e : Same F F') : ∀ {v : V} {d : D}, Rep K F v d -> Rep K F' v d
 | _, _, .non => .non
 | _, _, .bl b => .bl b
 | _, _, .int i => .int i
 | _, _, .str x => .str x
 | _, _, .lst h r => .lst (e.seq h) (Reps.mono e r)
 | _, _, .tup h r => .tup (e.seqT h) (Reps.mono e r)
 | _, _, .exc h r => .exc h (e _ _ r)
 | _, _, .ptr a => .ptr a
 | _, _, .obj c l h h2 r => .obj c l (e _ _ h) (e _ _ h2) (Reps.mono e r)
theorem Reps.mono (e : Same F F') : ∀ {vs : List V} {ds : List D}, Reps K F vs ds -> Reps K F' vs ds
 | _, _, .nil => .nil
 | _, _, .cons h r => .cons (Rep.mono e h) (Reps.mono e r)
end
theorem Reps.length : ∀ {vs : List V} {ds : List D}, Reps K F vs ds -> vs.length = ds.length
 | _, _, .nil => rfl
 | _, _, .cons _ r => congrArg (· + 1) (Reps.length r)
theorem Reps.get : ∀ {vs : List V} {ds : List D} {i : Nat} {d : D}, Reps K F vs ds -> ds[i]? = some d -> ∃ v, vs[i]? = some v /\ Rep K F v d
 | _, _, _, _, .nil, e => by simp at e
 | _, _, 0, _, .cons h _, e => by simp at e; subst e; exact ⟨_, rfl, h⟩
 | _, _, i + 1, d, .cons _ r, e => by
  obtain ⟨v, h1, h2⟩ := Reps.get (i := i) (d := d) r (by simpa using e)
  exact ⟨v, by simpa using h1, h2⟩
theorem Reps.get' : ∀ {vs : List V} {ds : List D} {i : Nat} {v : V}, Reps K F vs ds -> vs[i]? = some v -> ∃ d, ds[i]? = some d /\ Rep K F v d
 | _, _, _, _, .nil, e => by simp at e
 | _, _, 0, _, .cons h _, e => by simp at e; subst e; exact ⟨_, rfl, h⟩
 | _, _, i + 1, d, .cons _ r, e => by
  obtain ⟨v, h1, h2⟩ := Reps.get' (i := i) (v := d) r (by simpa using e)
  exact ⟨v, by simpa using h1, h2⟩
theorem Reps.append : ∀ {vs ws : List V} {ds es : List D}, Reps K F vs ds -> Reps K F ws es -> Reps K F (vs ++ ws) (ds ++ es)
 | _, _, _, _, .nil, s => s
 | _, _, _, _, .cons h r, s => .cons h (Reps.append r s)
theorem Reps.take : ∀ {vs : List V} {ds : List D} (n : Nat), Reps K F vs ds -> Reps K F (vs.take n) (ds.take n)
 | _, _, 0, _ => .nil
 | _, _, _ + 1, .nil => .nil
 | _, _, n + 1, .cons h r => .cons h (Reps.take n r)
theorem Reps.drop : ∀ {vs : List V} {ds : List D} (n : Nat), Reps K F vs ds -> Reps K F (vs.drop n) (ds.drop n)
 | _, _, 0, r => r
 | _, _, _ + 1, .nil => .nil
 | _, _, n + 1, .cons _ r => Reps.drop n r
theorem Reps.set {v : V} {d : D} (h : Rep K F v d) : ∀ {vs : List V} {ds : List D} (i : Nat), Reps K F vs ds -> Reps K F (vs.set i v) (ds.set i d)
 | _, _, _, .nil => .nil
 | _, _, 0, .cons _ r => .cons h r
 | _, _, i + 1, .cons q r => .cons q (Reps.set h i r)
end
structure Ext (F H F' H' : Hp) : Prop where
 ff : Same F F'
 hh : Same H H'
 fh : Same F' H'
 new : ∀ b, F b = none -> F' b ≠ none -> H b = none
 nf : ∀ b o u, F' b = some (.frz o u) -> F b = some (.frz o u)
theorem Ext.refl {F H : Hp} (h : Same F H) : Ext F H F H := ⟨Same.refl _, Same.refl _, h, fun b e n => absurd e n, fun _ _ _ z => z⟩
theorem Ext.trans {F H F1 H1 F2 H2 : Hp} (a : Ext F H F1 H1) (b : Ext F1 H1 F2 H2) : Ext F H F2 H2 :=
 ⟨a.ff.trans b.ff, a.hh.trans b.hh, b.fh, fun c e n => by
  by_cases h : F1 c = none
  ·exact a.hh.free (b.new c h n)
  ·exact a.new c e h, fun c o u z => a.nf c o u (b.nf c o u z)⟩
theorem Same.put {F H : Hp} {p : Addr} {o : HO} (h : Same F H) (hp : F p = none) : Same F (upd H p o) := fun b u e => by
 rw [y9 (t8 e hp)]; exact h b u e
theorem Same.put2 {F H : Hp} {p : Addr} {o : HO} (h : Same F H) : Same (upd F p o) (upd H p o) := fun b u e => by
 by_cases hb : b = p
 ·subst hb; rw [y6] at e ⊢; exact e
 ·rw [y9 hb] at e ⊢; exact h b u e
theorem Ext.laid {F H : Hp} {p : Addr} {o : HO} (h : Same F H) (hp : H p = none) (hz : ∀ a u, o ≠ .frz a u := by intro _ _ z; cases z) : Ext F H (upd F p o) (upd H p o) :=
 ⟨(Same.refl F).put (h.free hp), (Same.refl H).put hp, h.put2, fun b e n => by
  by_cases hb : b = p
  ·subst hb; exact hp
  ·rw [y9 hb] at n; exact absurd e n, fun b a u z => by
  by_cases hb : b = p
  ·subst hb; rw [y6] at z; exact absurd (Option.some.inj z) (hz a u)
  ·rw [y9 hb] at z; exact z⟩
theorem Ext.own {F H : Hp} {p : Addr} {o : HO} (h : Same F H) (hp : H p = none) : Ext F H F (upd H p o) :=
 ⟨Same.refl F, (Same.refl H).put hp, h.put (h.free hp), fun b e n => absurd e n, fun _ _ _ z => z⟩
theorem Ext.freeze {F H F' H' : Hp} {p : Addr} {o : HO} (a : Ext F H F' H') (hp' : F' p = none) (hp : H p = none) (ho : H' p = some o) (hz : ∀ a u, o ≠ .frz a u := by intro _ _ z; cases z) : Ext F H (upd F' p o) H' :=
 ⟨a.ff.put (a.ff.free hp'), a.hh, fun b u e => by
   by_cases hb : b = p
   ·subst hb; rw [y6] at e; cases e; exact ho
   ·rw [y9 hb] at e; exact a.fh b u e, fun b e n => by
   by_cases hb : b = p
   ·subst hb; exact hp
   ·rw [y9 hb] at n; exact a.new b e n, fun b c u z => by
   by_cases hb : b = p
   ·subst hb; rw [y6] at z; exact absurd (Option.some.inj z) (hz c u)
   ·rw [y9 hb] at z; exact a.nf b c u z⟩
inductive S where
 | sh (d : D) | own (ds : List D) | ob (p : Addr) (ds : List D)
abbrev Ro := List (Option S)
structure Rl (K : W.Frag) (F0 H0 F H : Hp) (σ : St) (ρ : Ro) : Prop where
 ext : Ext F0 H0 F H
 len : σ.length = ρ.length
 sh : ∀ (i : Nat) d, ρ[i]? = some (some (.sh d)) -> ∃ v, σ[i]? = some (some v) /\ Rep K F v d
 own : ∀ (i : Nat) ds, ρ[i]? = some (some (.own ds)) -> ∃ p xs, σ[i]? = some (some (.ref p)) /\ F p = none /\ H p = some (.lst xs) /\ Reps K F xs ds /\ H0 p = none
 inj : ∀ (i j : Nat) p ds es, i ≠ j -> ρ[i]? = some (some (.own ds)) -> ρ[j]? = some (some (.own es)) -> σ[i]? = some (some (.ref p)) -> σ[j]? = some (some (.ref p)) -> False
 ob : ∀ (i : Nat) p ds, ρ[i]? = some (some (.ob p ds)) -> σ[i]? = some (some (.ref p)) /\ F p = none /\ H0 p = none /\ ∃ xs, H p = some (.lst xs) /\ Reps K F xs ds
 obn : ∀ (i j : Nat) p ds es, ρ[i]? = some (some (.ob p ds)) -> ρ[j]? = some (some (.own es)) -> σ[j]? = some (some (.ref p)) -> False
 ob1 : ∀ (i j : Nat) p q ds es, ρ[i]? = some (some (.ob p ds)) -> ρ[j]? = some (some (.ob q es)) -> i = j
def nob : Option S -> Prop
 | some (.ob _ _) => False
 | _ => True
theorem o0 {ρ : Ro} {i j : Nat} {x : Option S} {p : Addr} {ds : List D} (e : (ρ.set i x)[j]? = some (some (.ob p ds))) (hx : nob x := by exact True.intro) : i ≠ j /\ ρ[j]? = some (some (.ob p ds)) := by
 by_cases hj : i = j
 ·subst hj
  rcases Nat.lt_or_ge i ρ.length with z | z
  ·rw [getElem?_set_self z] at e; cases e; exact hx.elim
  ·rw [getElem?_eq_none (by simpa using z)] at e; cases e
 ·rw [getElem?_set_ne hj] at e; exact ⟨hj, e⟩
section
variable {K : W.Frag} {F0 H0 F H F' H' : Hp} {σ : St} {ρ : Ro}
theorem Rl.fh (r : Rl K F0 H0 F H σ ρ) : Same F H := r.ext.fh
theorem Rl.go (r : Rl K F0 H0 F H σ ρ) (e : Ext F H F' H') : Rl K F0 H0 F' H' σ ρ where
 ext := r.ext.trans e
 len := r.len
 sh := fun i d h => let ⟨v, a, b⟩ := r.sh i d h; ⟨v, a, b.mono e.ff⟩
 own := fun i ds h => by
  obtain ⟨p, xs, a, b, c, d, z⟩ := r.own i ds h
  refine ⟨p, xs, a, ?_, e.hh _ _ c, d.mono e.ff, z⟩
  cases q : F' p with
  | none => rfl
  | some o => have := e.new p b (by rw [q]; simp); rw [this] at c; cases c
 inj := r.inj
 ob := fun i p ds h => by
  obtain ⟨a, b, c, xs, d, z⟩ := r.ob i p ds h
  refine ⟨a, ?_, c, xs, e.hh _ _ d, z.mono e.ff⟩
  cases q : F' p with
  | none => rfl
  | some o => have := e.new p b (by rw [q]; simp); rw [this] at d; cases d
 obn := r.obn
 ob1 := r.ob1
theorem Rl.set (r : Rl K F0 H0 F H σ ρ) {i : Nat} {v : V} {d : D} (h : Rep K F v d) : Rl K F0 H0 F H (σ.set i (some v)) (ρ.set i (some (.sh d))) where
 ext := r.ext
 len := by simp [r.len]
 sh := fun j d' e => by
  by_cases hj : i = j
  ·subst hj
   have hl : i < ρ.length := by
    rcases Nat.lt_or_ge i ρ.length with z | z
    ·exact z
    ·rw [getElem?_eq_none (by simpa using z)] at e; cases e
   rw [getElem?_set_self hl] at e
   cases e
   exact ⟨v, by rw [getElem?_set_self (by rw [r.len]; exact hl)], h⟩
  ·rw [getElem?_set_ne hj] at e ⊢
   exact r.sh j d' e
 own := fun j ds e => by
  by_cases hj : i = j
  ·subst hj
   have hl : i < ρ.length := by
    rcases Nat.lt_or_ge i ρ.length with z | z
    ·exact z
    ·rw [getElem?_eq_none (by simpa using z)] at e; cases e
   rw [getElem?_set_self hl] at e
   cases e
  ·rw [getElem?_set_ne hj] at e ⊢
   exact r.own j ds e
 inj := fun j k p ds es hjk e1 e2 e3 e4 => by
  have n1 : i ≠ j := fun z => by
   subst z
   have hl : i < ρ.length := by
    rcases Nat.lt_or_ge i ρ.length with z | z
    ·exact z
    ·rw [getElem?_eq_none (by simpa using z)] at e1; cases e1
   rw [getElem?_set_self hl] at e1; cases e1
  have n2 : i ≠ k := fun z => by
   subst z
   have hl : i < ρ.length := by
    rcases Nat.lt_or_ge i ρ.length with z | z
    ·exact z
    ·rw [getElem?_eq_none (by simpa using z)] at e2; cases e2
   rw [getElem?_set_self hl] at e2; cases e2
  rw [getElem?_set_ne n1] at e1 e3
  rw [getElem?_set_ne n2] at e2 e4
  exact r.inj j k p ds es hjk e1 e2 e3 e4
 ob := fun j p ds e => by
  obtain ⟨n, e⟩ := o0 e
  rw [getElem?_set_ne n]; exact r.ob j p ds e
 obn := fun j k p ds es e1 e2 e3 => by
  obtain ⟨n, e1⟩ := o0 e1
  have n2 : i ≠ k := fun z => by
   subst z
   have hl : i < ρ.length := by
    rcases Nat.lt_or_ge i ρ.length with z | z
    ·exact z
    ·rw [getElem?_eq_none (by simpa using z)] at e2; cases e2
   rw [getElem?_set_self hl] at e2; cases e2
  rw [getElem?_set_ne n2] at e2 e3
  exact r.obn j k p ds es e1 e2 e3
 ob1 := fun j k p q ds es e1 e2 => r.ob1 j k p q ds es (o0 e1).2 (o0 e2).2
theorem Rl.setOwn (r : Rl K F0 H0 F H σ ρ) {i : Nat} {p : Addr} {xs : List V} {ds : List D} (hF : F p = none) (hH : H p = some (.lst xs)) (h : Reps K F xs ds) (h0 : H0 p = none)
  (fr : ∀ (j : Nat) es, i ≠ j -> ρ[j]? = some (some (.own es)) -> σ[j]? = some (some (.ref p)) -> False) (fo : ∀ (j : Nat) q es, ρ[j]? = some (some (.ob q es)) -> q ≠ p) : Rl K F0 H0 F H (σ.set i (some (.ref p))) (ρ.set i (some (.own ds))) where
 ext := r.ext
 len := by simp [r.len]
 sh := fun j d' e => by
  by_cases hj : i = j
  ·subst hj
   have hl : i < ρ.length := by
    rcases Nat.lt_or_ge i ρ.length with z | z
    ·exact z
    ·rw [getElem?_eq_none (by simpa using z)] at e; cases e
   rw [getElem?_set_self hl] at e
   cases e
  ·rw [getElem?_set_ne hj] at e ⊢
   exact r.sh j d' e
 own := fun j es e => by
  by_cases hj : i = j
  ·subst hj
   have hl : i < ρ.length := by
    rcases Nat.lt_or_ge i ρ.length with z | z
    ·exact z
    ·rw [getElem?_eq_none (by simpa using z)] at e; cases e
   rw [getElem?_set_self hl] at e
   cases e
   exact ⟨p, xs, by rw [getElem?_set_self (by rw [r.len]; exact hl)], hF, hH, h, h0⟩
  ·rw [getElem?_set_ne hj] at e ⊢
   exact r.own j es e
 inj := fun j k q es es' hjk e1 e2 e3 e4 => by
  by_cases n1 : i = j
  ·subst n1
   rw [getElem?_set_ne hjk] at e2 e4
   have hl : i < σ.length := by
    rcases Nat.lt_or_ge i σ.length with z | z
    ·exact z
    ·rw [getElem?_eq_none (by simpa using z)] at e3; cases e3
   rw [getElem?_set_self hl] at e3
   cases e3
   exact fr k es' hjk e2 e4
  ·rw [getElem?_set_ne n1] at e1 e3
   by_cases n2 : i = k
   ·subst n2
    have hl : i < σ.length := by
     rcases Nat.lt_or_ge i σ.length with z | z
     ·exact z
     ·rw [getElem?_eq_none (by simpa using z)] at e4; cases e4
    rw [getElem?_set_self hl] at e4
    cases e4
    exact fr j es n1 e1 e3
   ·rw [getElem?_set_ne n2] at e2 e4
    exact r.inj j k q es es' hjk e1 e2 e3 e4
 ob := fun j q es e => by
  obtain ⟨n, e⟩ := o0 e
  rw [getElem?_set_ne n]; exact r.ob j q es e
 obn := fun j k q es es' e1 e2 e3 => by
  obtain ⟨n, e1⟩ := o0 e1
  by_cases n2 : i = k
  ·subst n2
   have hl : i < σ.length := by
    rcases Nat.lt_or_ge i σ.length with z | z
    ·exact z
    ·rw [getElem?_eq_none (by simpa using z)] at e3; cases e3
   rw [getElem?_set_self hl] at e3
   cases e3
   exact fo j p es e1 rfl
  ·rw [getElem?_set_ne n2] at e2 e3
   exact r.obn j k q es es' e1 e2 e3
 ob1 := fun j k p q ds es e1 e2 => r.ob1 j k p q ds es (o0 e1).2 (o0 e2).2
theorem Rl.freeze (r : Rl K F0 H0 F H σ ρ) {i : Nat} {ds : List D} (h : ρ[i]? = some (some (.own ds))) : ∃ F', Rl K F0 H0 F' H σ (ρ.set i (some (.sh (.lst ds)))) /\ Same F F' := by
 obtain ⟨p, xs, a, b, c, d, z⟩ := r.own i ds h
 have hl : i < ρ.length := (List.getElem?_eq_some_iff.mp h).1
 have e : Ext F0 H0 (upd F p (.lst xs)) H := r.ext.freeze b z c
 have ff : Same F (upd F p (.lst xs)) := (Same.refl F).put b
 refine ⟨upd F p (.lst xs), ⟨e, by simp [r.len], fun j d' q => ?_, fun j es q => ?_, fun j k q es es' hjk e1 e2 e3 e4 => ?_, fun j q es e1 => ?_, fun j k q es es' e1 e2 e3 => ?_, fun j k q q' es es' e1 e2 => r.ob1 j k q q' es es' (o0 e1).2 (o0 e2).2⟩, ff⟩
 ·by_cases hj : i = j
  ·subst hj
   rw [getElem?_set_self hl] at q
   cases q
   exact ⟨_, a, .lst (SqL.of y6) (d.mono ff)⟩
  ·rw [getElem?_set_ne hj] at q
   obtain ⟨v, v1, v2⟩ := r.sh j d' q
   exact ⟨v, v1, v2.mono ff⟩
 ·by_cases hj : i = j
  ·subst hj
   rw [getElem?_set_self hl] at q
   cases q
  ·rw [getElem?_set_ne hj] at q
   obtain ⟨p', xs', a', b', c', d', z'⟩ := r.own j es q
   have hp : p' ≠ p := fun w => r.inj i j p ds es hj h q a (by rw [<- w]; exact a')
   exact ⟨p', xs', a', by rw [y9 hp]; exact b', c', d'.mono ff, z'⟩
 ·have n1 : i ≠ j := fun w => by subst w; rw [getElem?_set_self hl] at e1; cases e1
  have n2 : i ≠ k := fun w => by subst w; rw [getElem?_set_self hl] at e2; cases e2
  rw [getElem?_set_ne n1] at e1
  rw [getElem?_set_ne n2] at e2
  exact r.inj j k q es es' hjk e1 e2 e3 e4
 ·obtain ⟨n, e1⟩ := o0 e1
  obtain ⟨o1, o2, o3, zs, o4, o5⟩ := r.ob j q es e1
  have hp : q ≠ p := fun w => r.obn j i q es ds e1 h (by rw [w]; exact a)
  exact ⟨o1, by rw [y9 hp]; exact o2, o3, zs, o4, o5.mono ff⟩
 ·obtain ⟨n, e1⟩ := o0 e1
  have n2 : i ≠ k := fun w => by subst w; rw [getElem?_set_self hl] at e2; cases e2
  rw [getElem?_set_ne n2] at e2
  exact r.obn j k q es es' e1 e2 e3
theorem Rl.write (r : Rl K F0 H0 F H σ ρ) {i : Nat} {p : Addr} {ys : List V} {ds es : List D} (h : ρ[i]? = some (some (.own ds))) (hp : σ[i]? = some (some (.ref p))) (hy : Reps K F ys es) :
  Rl K F0 H0 F (upd H p (.lst ys)) σ (ρ.set i (some (.own es))) := by
 obtain ⟨p', xs', a, b, c, d, z⟩ := r.own i ds h
 rw [hp] at a; cases a
 have hl : i < ρ.length := (List.getElem?_eq_some_iff.mp h).1
 refine ⟨⟨r.ext.ff, r.ext.hh.put z, r.ext.fh.put b, r.ext.new, r.ext.nf⟩, by simp [r.len], fun j d' q => ?_, fun j fs q => ?_, fun j k q fs fs' hjk e1 e2 e3 e4 => ?_, fun j q fs e1 => ?_, fun j k q fs fs' e1 e2 e3 => ?_, fun j k q q' es es' e1 e2 => r.ob1 j k q q' es es' (o0 e1).2 (o0 e2).2⟩
 ·by_cases hj : i = j
  ·subst hj
   rw [getElem?_set_self hl] at q
   cases q
  ·rw [getElem?_set_ne hj] at q
   exact r.sh j d' q
 ·by_cases hj : i = j
  ·subst hj
   rw [getElem?_set_self hl] at q
   cases q
   exact ⟨p, ys, hp, b, y6, hy, z⟩
  ·rw [getElem?_set_ne hj] at q
   obtain ⟨p2, xs2, a2, b2, c2, d2, z2⟩ := r.own j fs q
   have hpp : p2 ≠ p := fun w => r.inj i j p ds fs hj h q hp (by rw [<- w]; exact a2)
   exact ⟨p2, xs2, a2, b2, by rw [y9 hpp]; exact c2, d2, z2⟩
 ·have back : ∀ (m : Nat) gs, (ρ.set i (some (S.own es)))[m]? = some (some (.own gs)) -> ∃ gs', ρ[m]? = some (some (.own gs')) := fun m gs e => by
   by_cases hm : i = m
   ·subst hm; exact ⟨ds, h⟩
   ·rw [getElem?_set_ne hm] at e; exact ⟨gs, e⟩
  obtain ⟨g1, e1⟩ := back j fs e1
  obtain ⟨g2, e2⟩ := back k fs' e2
  exact r.inj j k q g1 g2 hjk e1 e2 e3 e4
 ·obtain ⟨n, e1⟩ := o0 e1
  obtain ⟨o1, o2, o3, zs, o4, o5⟩ := r.ob j q fs e1
  have hpp : q ≠ p := fun w => r.obn j i q fs ds e1 h (by rw [w]; exact hp)
  exact ⟨o1, o2, o3, zs, by rw [y9 hpp]; exact o4, o5⟩
 ·obtain ⟨n, e1⟩ := o0 e1
  by_cases n2 : i = k
  ·subst n2; exact r.obn j i q fs ds e1 h e3
  ·rw [getElem?_set_ne n2] at e2
   exact r.obn j k q fs fs' e1 e2 e3
theorem Rl.writeB (r : Rl K F0 H0 F H σ ρ) {i : Nat} {p : Addr} {ys : List V} {ds es : List D} (h : ρ[i]? = some (some (.ob p ds))) (hy : Reps K F ys es) :
  Rl K F0 H0 F (upd H p (.lst ys)) σ (ρ.set i (some (.ob p es))) := by
 obtain ⟨a, b, z, xs', c, d⟩ := r.ob i p ds h
 have hl : i < ρ.length := (List.getElem?_eq_some_iff.mp h).1
 have back : ∀ (j : Nat) q fs, (ρ.set i (some (S.ob p es)))[j]? = some (some (.ob q fs)) -> j = i /\ q = p /\ fs = es := fun j q fs e => by
  by_cases hj : i = j
  ·subst hj; rw [getElem?_set_self hl] at e; cases e; exact ⟨rfl, rfl, rfl⟩
  ·rw [getElem?_set_ne hj] at e; exact absurd (r.ob1 i j p q ds fs h e) hj
 have other : ∀ (j : Nat) fs, (ρ.set i (some (S.ob p es)))[j]? = some (some (.own fs)) -> i ≠ j /\ ρ[j]? = some (some (.own fs)) := fun j fs e => by
  by_cases hj : i = j
  ·subst hj; rw [getElem?_set_self hl] at e; cases e
  ·rw [getElem?_set_ne hj] at e; exact ⟨hj, e⟩
 refine ⟨⟨r.ext.ff, r.ext.hh.put z, r.ext.fh.put b, r.ext.new, r.ext.nf⟩, by simp [r.len], fun j d' q => ?_, fun j fs q => ?_, fun j k q fs fs' hjk e1 e2 e3 e4 => r.inj j k q fs fs' hjk (other j fs e1).2 (other k fs' e2).2 e3 e4, fun j q fs e1 => ?_, fun j k q fs fs' e1 e2 e3 => ?_, fun j k q q' fs fs' e1 e2 => ?_⟩
 ·by_cases hj : i = j
  ·subst hj; rw [getElem?_set_self hl] at q; cases q
  ·rw [getElem?_set_ne hj] at q; exact r.sh j d' q
 ·obtain ⟨n, e⟩ := other j fs q
  obtain ⟨p2, xs2, a2, b2, c2, d2, z2⟩ := r.own j fs e
  have hpp : p2 ≠ p := fun w => r.obn i j p ds fs h e (by rw [<- w]; exact a2)
  exact ⟨p2, xs2, a2, b2, by rw [y9 hpp]; exact c2, d2, z2⟩
 ·obtain ⟨e2, e3, e4⟩ := back j q fs e1
  subst e2 e3 e4
  exact ⟨a, b, z, ys, y6, hy⟩
 ·obtain ⟨e4, e5, _⟩ := back j q fs e1
  subst e4 e5
  exact r.obn j k q ds fs' h (other k fs' e2).2 e3
 ·rw [(back j q fs e1).1, (back k q' fs' e2).1]
end
theorem Rep.n' {K : W.Frag} {F : Hp} {x : V} (r : Rep K F x .non) : x = .non := by cases r; rfl
theorem Rep.b' {K : W.Frag} {F : Hp} {x : V} {i : Bool} (r : Rep K F x (.bl i)) : x = .bl i := by cases r; rfl
theorem Rep.i' {K : W.Frag} {F : Hp} {x : V} {i : Int} (r : Rep K F x (.int i)) : x = .int i := by cases r; rfl
theorem Rep.s' {K : W.Frag} {F : Hp} {x : V} {i : Str} (r : Rep K F x (.str i)) : x = .str i := by cases r; rfl
theorem Rep.l' {K : W.Frag} {F : Hp} {x : V} {ds : List D} (r : Rep K F x (.lst ds)) : ∃ a xs, x = .ref a /\ SqL K F a xs /\ Reps K F xs ds := by cases r with | lst s r => exact ⟨_, _, rfl, s, r⟩
theorem Rep.t' {K : W.Frag} {F : Hp} {x : V} {ds : List D} (r : Rep K F x (.tup ds)) : ∃ a xs, x = .ref a /\ SqT K F a xs /\ Reps K F xs ds := by cases r with | tup s r => exact ⟨_, _, rfl, s, r⟩
end
section
abbrev ME := Ro -> Option D
abbrev ML := Ro -> Option (List D)
abbrev MB := Ro -> Option Bool
def TD (K : W.Frag) (m : ME) : TE := fun σ H Q => ∃ F0 H0 F ρ d, Rl K F0 H0 F H σ ρ /\ m ρ = some d /\ ∀ v F' H', Ext F H F' H' -> Rep K F' v d -> Q v H'
def TF (K : W.Frag) (m : ML) : TE := fun σ H Q => ∃ F0 H0 F ρ ds, Rl K F0 H0 F H σ ρ /\ m ρ = some ds /\ ∀ p xs F' H', Ext F H F' H' -> H p = none -> F' p = none -> H' p = some (.lst xs) -> Reps K F' xs ds -> Q (.ref p) H'
def TB (K : W.Frag) (m : ML) : TE := fun σ H Q => ∃ F0 H0 F ρ ds, Rl K F0 H0 F H σ ρ /\ m ρ = some ds /\ ∀ p xs F' H', Ext F H F' H' -> SqL K H' p xs -> Reps K F' xs ds -> Q (.ref p) H'
def TC (K : W.Frag) (c : MB) : TT := fun σ H Q => ∃ F0 H0 F ρ b, Rl K F0 H0 F H σ ρ /\ c ρ = some b /\ ∀ F' H', Ext F H F' H' -> Q b H'
def TAs (K : W.Frag) (m : ML) : TA := fun σ H Q => ∃ F0 H0 F ρ ds, Rl K F0 H0 F H σ ρ /\ m ρ = some ds /\ ∀ vs F' H', Ext F H F' H' -> Reps K F' vs ds -> Q vs H'
def PD (X : Cx) (e : Expr) (m : ME) : Prop := PE X e (TD X.K m)
def PF (X : Cx) (e : Expr) (m : ML) : Prop := PE X e (TF X.K m)
def PB (X : Cx) (e : Expr) (m : ML) : Prop := PE X e (TB X.K m)
def PC' (X : Cx) (e : Expr) (c : MB) : Prop := PT X e (TC X.K c)
def PCw (X : Cx) (e : Expr) (c : MB) : Prop := PW X e (TC X.K c)
def PAs (X : Cx) (es : List Expr) (m : ML) : Prop := PA X es (TAs X.K m)
section
variable {X : Cx} {a b c e : Expr} {ma mb : ME} {pos : Pos}
theorem PE.imp {t t' : TE} (h : PE X e t) (i : ∀ σ H Q, t' σ H Q -> t σ H Q) : PE X e t' := fun pins s σ H Q I q => h pins s σ H Q I (i σ H Q q)
theorem PT.imp {t t' : TT} (h : PT X e t) (i : ∀ σ H Q, t' σ H Q -> t σ H Q) : PT X e t' := fun pins s σ H Q I q => h pins s σ H Q I (i σ H Q q)
theorem PW.imp {t t' : TT} (h : PW X e t) (i : ∀ σ H Q, t' σ H Q -> t σ H Q) : PW X e t' := fun w pins s σ H Q I q => h w pins s σ H Q I (i σ H Q q)
theorem PA.imp {es : List Expr} {t t' : TA} (h : PA X es t) (i : ∀ σ H Q, t' σ H Q -> t σ H Q) : PA X es t' := fun pos pins s σ H Q I q => h pos pins s σ H Q I (i σ H Q q)
def mvar (i : Nat) : ME := fun ρ => match ρ[i]? with | some (some (.sh d)) => some d | _ => none
def bvar (i : Nat) : ML := fun ρ => match ρ[i]? with | some (some (.sh (.lst ds))) => some ds | some (some (.own ds)) => some ds | some (some (.ob _ ds)) => some ds | _ => none
def mc (d : D) : ME := fun _ => some d
theorem z5 (i : Nat) {x : Str} {pos : Pos} (h : PE X (.Name x pos) (tVar i)) : PD X (.Name x pos) (mvar i) := h.imp fun σ H Q hpat => by
 obtain ⟨F0, H0, F, ρ, d, r, e, q⟩ := hpat
 unfold mvar at e
 split at e
 ·rename_i h'
  cases e
  obtain ⟨v, e1, e2⟩ := r.sh i _ h'
  exact ⟨v, e1, q v F H (.refl r.fh) e2⟩
 ·cases e
theorem x6 (i : Nat) {x : Str} {pos : Pos} (h : PE X (.Name x pos) (tVar i)) : PB X (.Name x pos) (bvar i) := h.imp fun σ H Q hpat => by
 obtain ⟨F0, H0, F, ρ, d, r, e, q⟩ := hpat
 unfold bvar at e
 split at e
 ·rename_i ds h'
  cases e
  obtain ⟨v, e1, e2⟩ := r.sh i _ h'
  cases e2 with
  | lst s rs => exact ⟨_, e1, q _ _ F H (.refl r.fh) (r.fh.seq s) rs⟩
 ·rename_i ds h'
  cases e
  obtain ⟨p, xs, e1, e2, e3, e4, _⟩ := r.own i _ h'
  exact ⟨_, e1, q _ _ F H (.refl r.fh) (SqL.of e3) e4⟩
 ·rename_i p ds h'
  cases e
  obtain ⟨e1, e2, _, xs, e3, e4⟩ := r.ob i p _ h'
  exact ⟨_, e1, q _ _ F H (.refl r.fh) (SqL.of e3) e4⟩
 ·cases e
theorem y7 {i : Int} {j pos} : PD X (.Constant (.int i) j pos) (mc (.int i)) := pe_int.imp fun σ H Q hpat => by
 obtain ⟨F0, H0, F, ρ, d, r, e, q⟩ := hpat
 cases e; exact q _ F H (.refl r.fh) (.int i)
theorem zt2 {b : Bool} {j pos} : PD X (.Constant (.bool b) j pos) (mc (.bl b)) := pe_bl.imp fun σ H Q hpat => by
 obtain ⟨F0, H0, F, ρ, d, r, e, q⟩ := hpat
 cases e; exact q _ F H (.refl r.fh) (.bl b)
theorem ye2 {j pos} : PD X (.Constant .none j pos) (mc .non) := pe_non.imp fun σ H Q hpat => by
 obtain ⟨F0, H0, F, ρ, d, r, e, q⟩ := hpat
 cases e; exact q _ F H (.refl r.fh) .non
theorem zu9 {x : Str} {j pos} : PD X (.Constant (.str x) j pos) (mc (.str x)) := pe_str.imp fun σ H Q hpat => by
 obtain ⟨F0, H0, F, ρ, d, r, e, q⟩ := hpat
 cases e; exact q _ F H (.refl r.fh) (.str x)
def mlst (m : ML) : ME := fun ρ => (m ρ).map .lst
def l6 (m : ME) : ML := fun ρ => match m ρ with | some (.lst ds) => some ds | _ => none
theorem j8 {m : ML} (h : PF X e m) : PD X e (mlst m) := h.imp fun σ H Q hpat => by
 obtain ⟨F0, H0, F, ρ, d, r, e, q⟩ := hpat
 unfold mlst at e
 cases hm : m ρ with
 | none => rw [hm] at e; cases e
 | some ds =>
  rw [hm] at e; cases e
  refine ⟨F0, H0, F, ρ, ds, r, hm, fun p xs F' H' x hp hF hH rs => ?_⟩
  exact q _ (upd F' p (.lst xs)) H' (x.freeze hF hp hH) (.lst (SqL.of y6) (rs.mono ((Same.refl F').put hF)))
theorem D1 (h : PD X e ma) : PB X e (l6 ma) := h.imp fun σ H Q hpat => by
 obtain ⟨F0, H0, F, ρ, d, r, e, q⟩ := hpat
 unfold l6 at e
 split at e
 ·rename_i ds hm
  cases e
  refine ⟨F0, H0, F, ρ, _, r, hm, fun v F' H' x rv => ?_⟩
  cases rv with
  | lst s rs => exact q _ _ F' H' x (x.fh.seq s) rs
 ·cases e
theorem zz4 {m : ML} (h : PF X e m) : PB X e m := h.imp fun σ H Q ⟨F0, H0, F, ρ, d, r, e, q⟩ =>
 ⟨F0, H0, F, ρ, d, r, e, fun p xs F' H' x hp hF hH rs => q p xs F' H' x (SqL.of hH) rs⟩
@[irreducible] def m2 (f : D -> D -> Option D) (x y : ME) : ME := fun ρ => (x ρ).bind fun d => (y ρ).bind fun e => f d e
def OpD (K : W.Frag) (r : R2) (f : D -> D -> Option D) : Prop := ∀ (F H : Hp) (x y : V) (d e g : D) (Q : VK), Same F H -> Rep K F x d -> Rep K F y e -> f d e = some g -> (∀ v F' H', Ext F H F' H' -> Rep K F' v g -> Q v H') -> r x y H Q
theorem xv4 {f : D -> D -> Option D} {ρ : Ro} {g : D} (h : m2 f ma mb ρ = some g) : ∃ d e, ma ρ = some d /\ mb ρ = some e /\ f d e = some g := by
 unfold m2 at h
 cases h1 : ma ρ with
 | none => rw [h1] at h; cases h
 | some d =>
  cases h2 : mb ρ with
  | none => rw [h1, h2] at h; cases h
  | some e => rw [h1, h2] at h; exact ⟨d, e, rfl, rfl, h⟩
theorem op_d {r : R2} {f : D -> D -> Option D} (hf : OpD X.K r f) {σ : St} {H : Hp} {Q : VK} (h : TD X.K (m2 f ma mb) σ H Q) : tOp r (TD X.K ma) (TD X.K mb) σ H Q := by
 obtain ⟨F0, H0, F, ρ, g, rl, e, q⟩ := h
 obtain ⟨d, e', h1, h2, h3⟩ := xv4 e
 refine ⟨F0, H0, F, ρ, d, rl, h1, fun x F1 H1 x1 r1 => ⟨F0, H0, F1, ρ, e', rl.go x1, h2, fun y F2 H2 x2 r2 => ?_⟩⟩
 exact hf F2 H2 x y d e' g Q x2.fh (r1.mono x2.ff) r2 h3 fun v F' H' x3 => q v F' H' ((x1.trans x2).trans x3)
theorem zd8 {op : Operator} {r : R2} {f : D -> D -> Option D} (ho : OpR X (binaryOp op) r) (hf : OpD X.K r f) (ha : PD X a ma) (hb : PD X b mb) : PD X (.BinOp a op b pos) (m2 f ma mb) := (yk3 ho ha hb).imp fun _ _ _ h => op_d hf h
theorem xm1 {op : CmpOp} {r : R2} {f : D -> D -> Option D} (ho : OpR X (compareOp op) r) (hf : OpD X.K r f) (ha : PD X a ma) (hb : PD X b mb) (hm : behindInMarks op b = false) : PD X (.Compare a [op] [b] pos) (m2 f ma mb) := (xy7 ho ha hb hm).imp fun _ _ _ h => op_d hf h
def v7 (m : ME) : MB := fun ρ => match m ρ with | some (.bl b) => some b | _ => none
theorem u8 {op : CmpOp} {r : R2} {f : D -> D -> Option D} (ho : OpR X (compareOp op) r) (hf : OpD X.K r f) (ha : PD X a ma) (hb : PD X b mb) (hm : behindInMarks op b = false) : PC' X (.Compare a [op] [b] pos) (v7 (m2 f ma mb)) := (zo4 ho ha hb hm).imp fun σ H Q hpat => by
 obtain ⟨F0, H0, F, ρ, g, rl, e, q⟩ := hpat
 unfold v7 at e
 split at e
 ·rename_i k hk
  cases e
  refine op_d hf ⟨F0, H0, F, ρ, .bl g, rl, hk, fun v F' H' x r => ?_⟩
  cases r
  exact ⟨_, rfl, q F' H' x⟩
 ·cases e
def int2 (g : Int -> Int -> Option D) : D -> D -> Option D
 | .int i, .int j => g i j
 | _, _ => none
theorem zg9 {g : Int -> Int -> Option D} {d e w : D} (h : int2 g d e = some w) : ∃ i j, d = .int i /\ e = .int j /\ g i j = some w := by
 cases d with
 | int i =>
  cases e with
  | int j => exact ⟨i, j, rfl, rfl, h⟩
  | _ => cases h
 | _ => cases h
theorem J0 {K : W.Frag} {g : Int -> Int -> V} {g' : Int -> Int -> D} (hg : ∀ F i j, Rep K F (g i j) (g' i j)) : OpD K (rI0 g) (int2 fun i j => some (g' i j)) := by
 intro F H x y d e w Q s r1 r2 h q
 obtain ⟨i, j, rfl, rfl, h'⟩ := zg9 h
 clear h
 cases h'
 exact ⟨i, j, r1.i', r2.i', q _ F H (.refl s) (hg F i j)⟩
theorem zh5 {K : W.Frag} {C : Int -> Int -> Prop} {ok : Int -> Int -> Bool} {g : Int -> Int -> V} {g' : Int -> Int -> D} (hC : ∀ i j, ok i j = true -> C i j) (hg : ∀ F i j, Rep K F (g i j) (g' i j)) :
  OpD K (rI C g) (int2 fun i j => if ok i j = true then some (g' i j) else none) := by
 intro F H x y d e w Q s r1 r2 h q
 obtain ⟨i, j, rfl, rfl, h'⟩ := zg9 h
 clear h
 by_cases hk : ok i j = true
 ·rw [if_pos hk] at h'
  cases h'
  exact ⟨i, j, r1.i', r2.i', hC i j hk, q _ F H (.refl s) (hg F i j)⟩
 ·rw [if_neg hk] at h'
  cases h'
def subD : D -> D -> Option D := int2 fun i j => some (.int (i - j))
def O2 (i j : Int) : Bool := (decide (-(2 ^ 64) < i) && decide (i < 2 ^ 64)) || (decide (-(2 ^ 64) < j) && decide (j < 2 ^ 64))
def mulD : D -> D -> Option D := int2 fun i j => if O2 i j = true then some (.int (i * j)) else none
def zr6 (_ j : Int) : Bool := decide (0 < j) && decide (j < 1073741824)
def yq0 : D -> D -> Option D := int2 fun i j => if zr6 i j = true then some (.int (i / j)) else none
def zn6 (_ j : Int) : Bool := decide (0 < j)
def modD : D -> D -> Option D := int2 fun i j => if zn6 i j = true then some (.int (i % j)) else none
def yw0 (i j : Int) : Bool := decide (0 <= j) && decide (j <= 1000000) && decide (i.natAbs < 2 ^ 64)
def powD : D -> D -> Option D := int2 fun i j => if yw0 i j = true then some (.int (i ^ j.toNat)) else none
def ltD : D -> D -> Option D := int2 fun i j => some (.bl (decide (i < j)))
def leD : D -> D -> Option D := int2 fun i j => some (.bl (decide (i <= j)))
def gtD : D -> D -> Option D := int2 fun i j => some (.bl (decide (j < i)))
def geD : D -> D -> Option D := int2 fun i j => some (.bl (decide (j <= i)))
theorem yv8 {K : W.Frag} : OpD K (rI0 fun i j => .int (i - j)) subD := J0 fun F i j => .int _
theorem yv9 {K : W.Frag} : OpD K (rI CMul fun i j => .int (i * j)) mulD := zh5 (fun i j h => by
 unfold O2 at h
 simp only [Bool.or_eq_true, Bool.and_eq_true, decide_eq_true_eq] at h
 exact h) fun F i j => .int _
theorem yj1 {K : W.Frag} : OpD K (rI CDiv fun i j => .int (i / j)) yq0 := zh5 (fun i j h => by
 unfold zr6 at h
 simp only [Bool.and_eq_true, decide_eq_true_eq] at h
 exact h) fun F i j => .int _
theorem xx5 {K : W.Frag} : OpD K (rI (fun _ j => 0 < j) fun i j => .int (i % j)) modD := zh5 (fun i j h => of_decide_eq_true h) fun F i j => .int _
theorem xx4 {K : W.Frag} : OpD K (rI CPow fun i j => .int (i ^ j.toNat)) powD := zh5 (fun i j h => by
 unfold yw0 at h
 simp only [Bool.and_eq_true, decide_eq_true_eq] at h
 exact ⟨h.1.1, h.1.2, h.2⟩) fun F i j => .int _
theorem Q2 {K : W.Frag} : OpD K (rI0 fun i j => .bl (decide (i < j))) ltD := J0 fun F i j => .bl _
theorem xm3 {K : W.Frag} : OpD K (rI0 fun i j => .bl (decide (i <= j))) leD := J0 fun F i j => .bl _
theorem yu0 {K : W.Frag} : OpD K (rI0 fun i j => .bl (decide (j < i))) gtD := J0 fun F i j => .bl _
theorem J1 {K : W.Frag} : OpD K (rI0 fun i j => .bl (decide (j <= i))) geD := J0 fun F i j => .bl _
def eqS : D -> D -> Option Bool
 | .non, .non => some true | .non, .int _ => some false | .int _, .non => some false | .non, .bl _ => some false | .bl _, .non => some false | .non, .str _ => some false | .str _, .non => some false
 | .int i, .int j => some (i == j) | .bl i, .bl j => some (i == j) | .str i, .str j => some (i == j)
 | .int _, .str _ => some false | .str _, .int _ => some false | .bl _, .str _ => some false | .str _, .bl _ => some false
 | _, _ => none
def eqSD (d e : D) : Option D := (eqS d e).map .bl
def neSD (d e : D) : Option D := (eqS d e).map fun b => .bl (!b)
def scV : D -> V
 | .bl b => .bl b | .int i => .int i | .str x => .str x | _ => .non
theorem yq3 {d e : D} {k : Bool} (h : eqS d e = some k) : scal (scV d) (scV e) = true /\ decide (scV d = scV e) = k := by
 cases d with
 | non => cases e <;> cases h <;> exact ⟨rfl, rfl⟩
 | bl i =>
  cases e <;> cases h
  ·exact ⟨rfl, rfl⟩
  ·exact ⟨rfl, yq6⟩
  ·exact ⟨rfl, rfl⟩
 | int i =>
  cases e <;> cases h
  ·exact ⟨rfl, rfl⟩
  ·exact ⟨rfl, zk9⟩
  ·exact ⟨rfl, rfl⟩
 | str i =>
  cases e <;> cases h
  ·exact ⟨rfl, rfl⟩
  ·exact ⟨rfl, rfl⟩
  ·exact ⟨rfl, rfl⟩
  ·exact ⟨rfl, zk8⟩
 | _ => cases h
theorem zb5 {d e : D} {k : Bool} (h : eqS d e = some k) {K : W.Frag} {F : Hp} {x : V} (r : Rep K F x d) : x = scV d := by
 cases d with
 | non => exact r.n'
 | bl i => exact r.b'
 | int i => exact r.i'
 | str i => exact r.s'
 | _ => cases h
theorem zk6 (d e : D) (k : Bool) (h : eqS d e = some k) : ∃ k', eqS e d = some k' := by
 cases d with
 | non => cases e <;> cases h <;> exact ⟨_, rfl⟩
 | bl i => cases e <;> cases h <;> exact ⟨_, rfl⟩
 | int i => cases e <;> cases h <;> exact ⟨_, rfl⟩
 | str i => cases e <;> cases h <;> exact ⟨_, rfl⟩
 | _ => cases h
theorem zz8 {K : W.Frag} : OpD K rEq eqSD := by
 intro F H x y d e w Q s r1 r2 h q
 unfold eqSD at h
 cases hk : eqS d e with
 | none => rw [hk] at h; cases h
 | some k =>
  rw [hk] at h
  cases h
  obtain ⟨k', hk'⟩ := zk6 d e k hk
  obtain ⟨h1, h2⟩ := yq3 hk
  rw [zb5 hk r1, zb5 hk' r2]
  refine ⟨h1, ?_⟩
  rw [h2]
  exact q _ F H (.refl s) (.bl _)
theorem S1 {K : W.Frag} : OpD K rNe neSD := by
 intro F H x y d e w Q s r1 r2 h q
 unfold neSD at h
 cases hk : eqS d e with
 | none => rw [hk] at h; cases h
 | some k =>
  rw [hk] at h
  cases h
  obtain ⟨k', hk'⟩ := zk6 d e k hk
  obtain ⟨h1, h2⟩ := yq3 hk
  rw [zb5 hk r1, zb5 hk' r2]
  refine ⟨h1, ?_⟩
  rw [h2]
  exact q _ F H (.refl s) (.bl _)
def m1 (f : D -> Option D) (x : ME) : ME := fun ρ => (x ρ).bind f
def negD : D -> Option D
 | .int i => some (.int (-i))
 | _ => none
theorem ys3 {f : D -> Option D} {ρ : Ro} {g : D} (h : m1 f ma ρ = some g) : ∃ d, ma ρ = some d /\ f d = some g := by
 unfold m1 at h
 cases h1 : ma ρ with
 | none => rw [h1] at h; cases h
 | some d => rw [h1] at h; exact ⟨d, rfl, h⟩
theorem Q1 (ha : PD X a ma) : PD X (.UnaryOp .USub a pos) (m1 negD ma) := (xd8 xq4 ha).imp fun σ H Q hpat => by
 obtain ⟨F0, H0, F, ρ, g, rl, e, q⟩ := hpat
 obtain ⟨d, h1, h2⟩ := ys3 e
 refine ⟨F0, H0, F, ρ, d, rl, h1, fun x F1 H1 x1 r1 => ?_⟩
 cases r1 <;> first | (cases h2; done) | skip
 cases h2
 exact ⟨_, rfl, q _ F1 H1 x1 (.int _)⟩
def truD : D -> Option Bool
 | .non => some false
 | .bl b => some b
 | .int i => some (i != 0)
 | .str y => if y.length <= sizeLine then some ((y.length : Int) != 0) else none
 | .lst ds => some (!ds.isEmpty)
 | .tup ds => some (!ds.isEmpty)
 | .exc _ => none
 | .ptr _ => none
 | .obj _ _ _ => none
def mtru (m : ME) : MB := fun ρ => (m ρ).bind truD
theorem N2 {K : W.Frag} {F : Hp} {vs : List V} {ds : List D} (h : Reps K F vs ds) : (!ds.isEmpty) = !vs.isEmpty := by cases h <;> rfl
theorem yv7 (ha : PD X a ma) (he : ∀ whole, isTrue a X.env whole = (do let v ← whole; standAt a.pos; holding [v] (truthy v)) := by intro _; rfl) : PC' X a (mtru ma) := (ym4 ha he).imp fun σ H Q hpat => by
 obtain ⟨F0, H0, F, ρ, b, rl, e, q⟩ := hpat
 unfold mtru at e
 cases h1 : ma ρ with
 | none => rw [h1] at e; cases e
 | some d =>
  rw [h1] at e
  refine ⟨F0, H0, F, ρ, d, rl, h1, fun x F1 H1 x1 r1 => ⟨b, ?_, q F1 H1 x1⟩⟩
  cases r1 with
  | non => cases e; rfl
  | bl => cases e; rfl
  | int => cases e; rfl
  | str x =>
   have e : (if x.length <= sizeLine then some ((x.length : Int) != 0) else none) = some b := e
   split at e
   ·rename_i hz
    cases e
    exact ⟨hz, rfl⟩
   ·cases e
  | lst s rs => cases e; exact .inl ⟨_, x1.fh.seq s, N2 rs⟩
  | tup s rs => cases e; exact .inr (.inl ⟨_, x1.fh.seqT s, N2 rs⟩)
  | exc => cases e
  | ptr => cases e
  | obj => cases e
variable {ca cb : MB}
def cand (x y : MB) : MB := fun ρ => match x ρ with | some true => y ρ | some false => some false | none => none
def cor (x y : MB) : MB := fun ρ => match x ρ with | some true => some true | some false => y ρ | none => none
def cnot (x : MB) : MB := fun ρ => (x ρ).map (!·)
theorem pc_w (h : PCw X a ca) : PC' X a ca := h.pt
theorem yx4 (h : PC' X a ca) : PCw X (.BoolOp .And [a] pos) ca := yx2 h
theorem yx3 (h : PC' X a ca) : PCw X (.BoolOp .Or [a] pos) ca := xn2 h
theorem yv6 {rest : List Expr} (ha : PC' X a ca) (hb : PCw X (.BoolOp .And (b :: rest) pos) cb) : PCw X (.BoolOp .And (a :: b :: rest) pos) (cand ca cb) := (yf7 ha hb).imp fun σ H Q hpat => by
 obtain ⟨F0, H0, F, ρ, g, rl, e, q⟩ := hpat
 unfold cand at e
 split at e
 ·rename_i h1
  refine ⟨F0, H0, F, ρ, _, rl, h1, fun F1 H1 x1 => ?_⟩
  refine iteT ?_
  exact ⟨F0, H0, F1, ρ, g, rl.go x1, e, fun F2 H2 x2 => q F2 H2 (x1.trans x2)⟩
 ·rename_i h1
  cases e
  refine ⟨F0, H0, F, ρ, _, rl, h1, fun F1 H1 x1 => ?_⟩
  refine iteF ?_
  exact q F1 H1 x1
 ·cases e
theorem zt3 {rest : List Expr} (ha : PC' X a ca) (hb : PCw X (.BoolOp .Or (b :: rest) pos) cb) : PCw X (.BoolOp .Or (a :: b :: rest) pos) (cor ca cb) := (xd6 ha hb).imp fun σ H Q hpat => by
 obtain ⟨F0, H0, F, ρ, g, rl, e, q⟩ := hpat
 unfold cor at e
 split at e
 ·rename_i h1
  cases e
  refine ⟨F0, H0, F, ρ, _, rl, h1, fun F1 H1 x1 => ?_⟩
  refine iteT ?_
  exact q F1 H1 x1
 ·rename_i h1
  refine ⟨F0, H0, F, ρ, _, rl, h1, fun F1 H1 x1 => ?_⟩
  refine iteF ?_
  exact ⟨F0, H0, F1, ρ, g, rl.go x1, e, fun F2 H2 x2 => q F2 H2 (x1.trans x2)⟩
 ·cases e
theorem ye4 (ha : PC' X a ca) : PC' X (.UnaryOp .Not a pos) (cnot ca) := (xn4 ha).imp fun σ H Q hpat => by
 obtain ⟨F0, H0, F, ρ, g, rl, e, q⟩ := hpat
 unfold cnot at e
 cases h1 : ca ρ with
 | none => rw [h1] at e; cases e
 | some k =>
  rw [h1] at e; cases e
  exact ⟨F0, H0, F, ρ, k, rl, h1, fun F1 H1 x1 => q F1 H1 x1⟩
def mite (c : MB) (x y : ME) : ME := fun ρ => match c ρ with | some true => x ρ | some false => y ρ | none => none
theorem ye3 (hc : PC' X c ca) (ha : PD X a ma) (hb : PD X b mb) : PD X (.IfExp c a b pos) (mite ca ma mb) := (yk5 hc ha hb).imp fun σ H Q hpat => by
 obtain ⟨F0, H0, F, ρ, g, rl, e, q⟩ := hpat
 unfold mite at e
 split at e
 ·rename_i h1
  refine ⟨F0, H0, F, ρ, _, rl, h1, fun F1 H1 x1 => ?_⟩
  refine iteT ?_
  exact ⟨F0, H0, F1, ρ, g, rl.go x1, e, fun v F2 H2 x2 => q v F2 H2 (x1.trans x2)⟩
 ·rename_i h1
  refine ⟨F0, H0, F, ρ, _, rl, h1, fun F1 H1 x1 => ?_⟩
  refine iteF ?_
  exact ⟨F0, H0, F1, ρ, g, rl.go x1, e, fun v F2 H2 x2 => q v F2 H2 (x1.trans x2)⟩
 ·cases e
def anil : ML := fun _ => some []
@[irreducible] def z8 (x : ME) (r : ML) : ML := fun ρ => (x ρ).bind fun d => (r ρ).bind fun ds => some (d :: ds)
theorem B7 {r : ML} {ρ : Ro} {gs : List D} (h : z8 ma r ρ = some gs) : ∃ d ds, ma ρ = some d /\ r ρ = some ds /\ gs = d :: ds := by
 unfold z8 at h
 cases h1 : ma ρ with
 | none => rw [h1] at h; cases h
 | some d =>
  cases h2 : r ρ with
  | none => rw [h1, h2] at h; cases h
  | some ds => rw [h1, h2] at h; cases h; exact ⟨d, ds, rfl, rfl, rfl⟩
theorem z7 : PAs X [] anil := pa_nil.imp fun σ H Q hpat => by
 obtain ⟨F0, H0, F, ρ, g, rl, e, q⟩ := hpat
 cases e; exact q [] F H (.refl rl.fh) .nil
theorem z0 {es : List Expr} {m : ML} (ha : PD X a ma) (hr : PAs X es m) (hs : starEach (a :: es) X.env = (false, eval a X.env) :: starEach es X.env := by rfl) : PAs X (a :: es) (z8 ma m) := (k6 ha hr hs).imp fun σ H Q hpat => by
 obtain ⟨F0, H0, F, ρ, g, rl, e, q⟩ := hpat
 obtain ⟨d, ds, h1, h2, rfl⟩ := B7 e
 refine ⟨F0, H0, F, ρ, d, rl, h1, fun x F1 H1 x1 r1 => ⟨F0, H0, F1, ρ, ds, rl.go x1, h2, fun xs F2 H2 x2 r2 => ?_⟩⟩
 exact q _ F2 H2 (x1.trans x2) (.cons (r1.mono x2.ff) r2)
@[irreducible] def w9 (m : ML) : ML := fun ρ => match m ρ with | some ds => if ds.length <= sizeLine then some ds else none | none => none
theorem C1 {m : ML} {ρ : Ro} {gs : List D} (h : w9 m ρ = some gs) : m ρ = some gs /\ gs.length <= sizeLine := by
 unfold w9 at h
 cases h1 : m ρ with
 | none => rw [h1] at h; cases h
 | some ds =>
  rw [h1] at h
  have h : (if ds.length <= sizeLine then some ds else none) = some gs := h
  split at h
  ·rename_i hz; cases h; exact ⟨rfl, hz⟩
  ·cases h
theorem v6 {es : List Expr} {m : ML} (h : PAs X es m) : PF X (.List es pos) (w9 m) := (yw8 h).imp fun σ H Q hpat => by
 obtain ⟨F0, H0, F, ρ, g, rl, e, q⟩ := hpat
 obtain ⟨h1, h2⟩ := C1 e
 refine ⟨F0, H0, F, ρ, g, rl, h1, fun vs F1 H1 x1 r1 => ⟨by rw [r1.length]; exact h2, fun p hp => ?_⟩⟩
 exact q p vs F1 _ (x1.trans (Ext.own x1.fh hp)) (x1.hh.free hp) (x1.fh.free hp) y6 r1
def mtup (m : ML) : ME := fun ρ => (w9 m ρ).map .tup
theorem W2 {es : List Expr} {m : ML} {k : Nat} (h : PAs X es m) : PD X (.Tuple es k pos) (mtup m) := (xn9 h).imp fun σ H Q hpat => by
 obtain ⟨F0, H0, F, ρ, g, rl, e, q⟩ := hpat
 unfold mtup at e
 cases h1 : w9 m ρ with
 | none => rw [h1] at e; cases e
 | some ds =>
  rw [h1] at e; cases e
  obtain ⟨h1, h2⟩ := C1 h1
  refine ⟨F0, H0, F, ρ, ds, rl, h1, fun vs F1 H1 x1 r1 => ⟨by rw [r1.length]; exact h2, fun p hp => ?_⟩⟩
  exact q _ _ _ (x1.trans (Ext.laid x1.fh hp)) (.tup (SqT.of y6) (r1.mono ((Same.refl F1).put (x1.fh.free hp))))
def mlen (m : ML) : ME := fun ρ => (m ρ).map fun ds => .int ds.length
@[irreducible] def mix (m : ML) (i : ME) : ME := fun ρ => (m ρ).bind fun ds => (i ρ).bind fun | .int k => atI ds k | _ => none
theorem ze6 {K : W.Frag} {F : Hp} {vs : List V} {ds : List D} {k : Int} {d : D} (r : Reps K F vs ds) (h : atI ds k = some d) : ∃ v, atI vs k = some v /\ Rep K F v d := by
 unfold atI at h ⊢
 rw [r.length]
 cases q : ixN ds.length k with
 | none => rw [q] at h; cases h
 | some j =>
  rw [q] at h
  exact r.get h
theorem l8 {ml : ML} (ha : PB X a ml) (hb : PD X b mb) (hs : zw3 b := by exact fun _ _ => rfl) : PD X (.Subscript a b pos) (mix ml mb) := (xy6 yr1 ha hb hs).imp fun σ H Q hpat => by
 obtain ⟨F0, H0, F, ρ, g, rl, e, q⟩ := hpat
 unfold mix at e
 cases h1 : ml ρ with
 | none => rw [h1] at e; cases e
 | some ds =>
  cases h2 : mb ρ with
  | none => rw [h1, h2] at e; cases e
  | some i =>
   rw [h1, h2] at e
   refine ⟨F0, H0, F, ρ, ds, rl, h1, fun p xs F1 H1 x1 s1 r1 => ⟨F0, H0, F1, ρ, i, rl.go x1, h2, fun y F2 H2 x2 r2 => ?_⟩⟩
   cases r2 <;> first | (cases e; done) | skip
   rename_i k
   obtain ⟨v, h3, h4⟩ := ze6 (r1.mono x2.ff) (show atI ds k = some g from e)
   exact ⟨p, xs, k, v, rfl, rfl, x2.hh.seq s1, h3, q v F2 H2 (x1.trans x2) h4⟩
theorem yg2 {K : W.Frag} {F : Hp} {vs : List V} {ds : List D} (r : Reps K F vs ds) (lo hi : Option Int) : Reps K F (cutV vs lo hi) ((ds.drop (HT.sIx ds.length 0 lo)).take (HT.sIx ds.length ds.length hi - HT.sIx ds.length 0 lo)) := by
 unfold cutV
 rw [r.length]
 exact (r.drop _).take _
def cutL (ds : List D) (lo hi : Option Int) : List D := (ds.drop (HT.sIx ds.length 0 lo)).take (HT.sIx ds.length ds.length hi - HT.sIx ds.length 0 lo)
abbrev MO := Ro -> Option (Option Int)
def D2 : MO := fun _ => some none
def K9 (m : ME) : MO := fun ρ => (m ρ).bind fun | .int i => some (some i) | _ => none
def TOs (K : W.Frag) (m : MO) : TO := fun σ H Q => ∃ F0 H0 F ρ i, Rl K F0 H0 F H σ ρ /\ m ρ = some i /\ ∀ F' H', Ext F H F' H' -> Q i H'
def POs (X : Cx) (e : Option Expr) (m : MO) : Prop := PO X e (TOs X.K m)
theorem PO.imp {e : Option Expr} {t t' : TO} (h : PO X e t) (i : ∀ σ H Q, t' σ H Q -> t σ H Q) : PO X e t' := fun pins s σ H Q I q => h pins s σ H Q I (i σ H Q q)
theorem zz3 : POs X none D2 := PO.imp xz9 fun σ H Q hpat => by obtain ⟨F0, H0, F, ρ, i, rl, e, q⟩ := hpat; cases e; exact q F H (.refl rl.fh)
theorem zz2 (h : PD X a ma) : POs X (some a) (K9 ma) := PO.imp (xz8 h) fun σ H Q hpat => by
 obtain ⟨F0, H0, F, ρ, i, rl, e, q⟩ := hpat
 unfold K9 at e
 cases h1 : ma ρ with
 | none => rw [h1] at e; cases e
 | some d =>
  rw [h1] at e
  refine ⟨F0, H0, F, ρ, d, rl, h1, fun v F1 H1 x1 r1 => ?_⟩
  cases r1 <;> first | (cases e; done) | skip
  cases e
  exact ⟨_, rfl, q F1 H1 x1⟩
@[irreducible] def mcut (m : ML) (lo hi : MO) : ML := fun ρ => (m ρ).bind fun ds => (lo ρ).bind fun l => (hi ρ).bind fun h => some (cutL ds l h)
theorem xn7 {ml : ML} {lo hi : Option Expr} {l h : MO} (ha : PB X a ml) (hl : POs X lo l) (hh : POs X hi h) (hE : PE X e (tSl (rSlL X.K) (TB X.K ml) (TOs X.K l) (TOs X.K h))) : PF X e (mcut ml l h) := hE.imp fun σ H Q hpat => by
 obtain ⟨F0, H0, F, ρ, g, rl, e, q⟩ := hpat
 unfold mcut at e
 cases h1 : ml ρ with
 | none => rw [h1] at e; cases e
 | some ds =>
  cases h2 : l ρ with
  | none => rw [h1, h2] at e; cases e
  | some i =>
   cases h3 : h ρ with
   | none => rw [h1, h2, h3] at e; cases e
   | some j =>
    rw [h1, h2, h3] at e; cases e
    refine ⟨F0, H0, F, ρ, ds, rl, h1, fun p xs F1 H1 x1 s1 r1 => ⟨F0, H0, F1, ρ, i, rl.go x1, h2, fun F2 H2 x2 => ⟨F0, H0, F2, ρ, j, (rl.go x1).go x2, h3, fun F3 H3 x3 => ?_⟩⟩⟩
    refine ⟨p, xs, rfl, x3.hh.seq (x2.hh.seq s1), fun w hw => ?_⟩
    have xx := (x1.trans x2).trans x3
    exact q w _ F3 _ (xx.trans (Ext.own x3.fh hw)) (xx.hh.free hw) (x3.fh.free hw) y6 (yg2 (r1.mono (x2.ff.trans x3.ff)) i j)
end
end
section
theorem zs7 (l : Addr) (items : Array Value) (n : Nat) (b : Addr) (items2 : Array Value) (n2 : Nat) (dd dd2 : Option Addr) (sl sl2 : Array (Option Value)) (hc0 : items.size + items2.size <= sizeLine) :
  Meets (Builtin.«list.__add__» ⟨[.ref l, .ref b], []⟩) (fun _ R s => s.heap.get? l = some { cls := .type "list", dict := dd, data := .seq items n, slots := sl } /\ s.heap.get? b = some { cls := .type "list", dict := dd2, data := .seq items2 n2, slots := sl2 } /\ R (.ok (.ret (Value.ref s.heap.objs.size))) { s with heap := s.heap.push { cls := Value.type "list", data := Data.seq (items ++ items2) }, toks := s.toks }) :=
 .of_wp fun prog w A R s h => by obtain ⟨hp, g, d, tk, os⟩ := s; obtain ⟨hl, hb, h⟩ := h; have f1 := AutoSeq1.idx_int; have f2 := AutoSeq1.sub_tuple_tuple; have f3 := AutoSeq1.sub_list_list; have f4 := AutoSeq1.sub_tuple_list; have f5 := AutoSeq1.sub_list_tuple; wp_walk using AutoSeq1.wpAny_loadPart' hl, AutoSeq1.wpAny_loadPart' hb; exact ⟨_, rfl, h⟩
section
variable {X : Cx} {a b c e : Expr} {ma mb : ME} {pos : Pos}
def xn1 (K : W.Frag) : R2 := fun x y H Q => ∃ l b xs zs, x = .ref l /\ y = .ref b /\ SqL K H l xs /\ SqL K H b zs /\ xs.length + zs.length <= sizeLine /\ ∀ p, H p = none -> Q (.ref p) (upd H p (.lst (xs ++ zs)))
theorem V2 : OpR X (binaryOp .Add) (xn1 X.K) := by
 intro pins s σ H x y v u Q I rx ry h
 obtain ⟨l, b, xs, zs, rfl, rfl, hH, hB, hz, q⟩ := h
 cases rx
 cases ry
 obtain ⟨its, r, ⟨⟨cl, dd, dt, sl⟩, n, e, hc, hd, hs⟩, z⟩ := I.list hH
 obtain ⟨its2, r2, ⟨⟨cl2, dd2, dt2, sl2⟩, n2, e2, hc2, hd2, hs2⟩, z2⟩ := I.list hB
 simp only at hc hd hs hc2 hd2 hs2
 subst hc hd hs hc2 hd2 hs2
 have l1 := r.length
 have l2 := r2.length
 refine concat_meets (T := "list") ⟨_, e, rfl⟩ ⟨_, e2, rfl⟩ PySem.noFill_list_add PySem.seq_list_add F.slot_list_add F.entry_list_add (F.args_list_add_2 _ _) (zs7 l its.toArray n b its2.toArray n2 none none sl sl2 (by rw [size_toArray, size_toArray]; omega)) ⟨e, e2, ?_⟩
 have ea : its.toArray ++ its2.toArray = (its ++ its2).toArray := by simp
 rw [ea]
 exact ⟨.ref _, _, I.lnew (t' := s.toks) (r.append r2) (by rw [length_append]; omega), rfl, q _ I.fresh⟩
@[irreducible] def mcat (x y : ML) : ML := fun ρ => (x ρ).bind fun ds => (y ρ).bind fun es => if ds.length + es.length <= sizeLine then some (ds ++ es) else none
theorem yt4 {x y : ML} {ρ : Ro} {gs : List D} (h : mcat x y ρ = some gs) : ∃ ds es, x ρ = some ds /\ y ρ = some es /\ ds.length + es.length <= sizeLine /\ gs = ds ++ es := by
 unfold mcat at h
 cases h1 : x ρ with
 | none => rw [h1] at h; cases h
 | some ds =>
  cases h2 : y ρ with
  | none => rw [h1, h2] at h; cases h
  | some es =>
   rw [h1, h2] at h
   have h : (if ds.length + es.length <= sizeLine then some (ds ++ es) else none) = some gs := h
   split at h
   ·rename_i hz; cases h; exact ⟨ds, es, rfl, rfl, hz, rfl⟩
   ·cases h
theorem zu8 {x y : ML} (ha : PB X a x) (hb : PB X b y) : PF X (.BinOp a .Add b pos) (mcat x y) := (yk3 V2 ha hb).imp fun σ H Q hpat => by
 obtain ⟨F0, H0, F, ρ, g, rl, e, q⟩ := hpat
 obtain ⟨ds, es, h1, h2, hz, rfl⟩ := yt4 e
 refine ⟨F0, H0, F, ρ, ds, rl, h1, fun p xs F1 H1 x1 s1 r1 => ⟨F0, H0, F1, ρ, es, rl.go x1, h2, fun p2 ys F2 H2 x2 s2 r2 => ?_⟩⟩
 refine ⟨p, p2, xs, ys, rfl, rfl, x2.hh.seq s1, s2, by rw [r1.length, r2.length]; exact hz, fun w hw => ?_⟩
 have xx := x1.trans x2
 exact q w _ F2 _ (xx.trans (Ext.own x2.fh hw)) (xx.hh.free hw) (x2.fh.free hw) y6 ((r1.mono x2.ff).append r2)
def addD : D -> D -> Option D
 | .int i, .int j => some (.int (i + j))
 | .lst ds, .lst es => if ds.length + es.length <= sizeLine then some (.lst (ds ++ es)) else none
 | _, _ => none
theorem S2 {K : W.Frag} : OpD K (fun x y H Q => (rI0 fun i j => V.int (i + j)) x y H Q \/ xn1 K x y H Q) addD := by
 intro F H x y d e w Q s r1 r2 h q
 cases d with
 | int i =>
  cases e with
  | int j =>
   cases h
   exact .inl ⟨_, _, r1.i', r2.i', q _ F H (.refl s) (.int _)⟩
  | _ => cases h
 | lst ds1 =>
  cases e with
  | lst ds2 =>
   obtain ⟨p1, xs1, e1, s1, t1⟩ := r1.l'
   obtain ⟨p2, xs2, e2, s2, t2⟩ := r2.l'
   have h : (if ds1.length + ds2.length <= sizeLine then some (D.lst (ds1 ++ ds2)) else none) = some w := h
   by_cases hz : ds1.length + ds2.length <= sizeLine
   ·rw [if_pos hz] at h
    cases h
    refine .inr ⟨_, _, _, _, e1, e2, s.seq s1, s.seq s2, by rw [t1.length, t2.length]; exact hz, fun p hp => ?_⟩
    exact q _ _ _ (Ext.laid s hp) (.lst (SqL.of y6) ((t1.append t2).mono ((Same.refl F).put (s.free hp))))
   ·rw [if_neg hz] at h; cases h
  | _ => cases h
 | _ => cases h
theorem l4 (ha : PD X a ma) (hb : PD X b mb) : PD X (.BinOp a .Add b pos) (m2 addD ma mb) := zd8 (OpR.or J2 V2) S2 ha hb
theorem O8 (ha : PD X a ma) (hb : PD X b mb) : PD X (.BinOp a .Sub b pos) (m2 subD ma mb) := zd8 ye6 yv8 ha hb
theorem zt0 (ha : PD X a ma) (hb : PD X b mb) : PD X (.BinOp a .Mult b pos) (m2 mulD ma mb) := zd8 ye7 yv9 ha hb
theorem yv4 (ha : PD X a ma) (hb : PD X b mb) : PD X (.BinOp a .FloorDiv b pos) (m2 yq0 ma mb) := zd8 xx9 yj1 ha hb
theorem zt1 (ha : PD X a ma) (hb : PD X b mb) : PD X (.BinOp a .Mod b pos) (m2 modD ma mb) := zd8 xm7 xx5 ha hb
theorem ye1 (ha : PD X a ma) (hb : PD X b mb) : PD X (.BinOp a .Pow b pos) (m2 powD ma mb) := zd8 xm5 xx4 ha hb
@[irreducible] def zx4 (f : List D -> Option D) (m : ML) : ME := fun ρ => (m ρ).bind f
def xe1 (K : W.Frag) (r : List V -> Hp -> VK -> Prop) (f : List D -> Option D) : Prop := ∀ (F H : Hp) (vs : List V) (ds : List D) (g : D) (Q : VK), Same F H -> Reps K F vs ds -> f ds = some g -> (∀ v F' H', Ext F H F' H' -> Rep K F' v g -> Q v H') -> r vs H Q
theorem xg2 {r : List V -> Hp -> VK -> Prop} {f : List D -> Option D} {m : ML} (hf : xe1 X.K r f) {σ : St} {H : Hp} {Q : VK} (h : TD X.K (zx4 f m) σ H Q) : tCB r (TAs X.K m) σ H Q := by
 obtain ⟨F0, H0, F, ρ, g, rl, e, q⟩ := h
 unfold zx4 at e
 cases h1 : m ρ with
 | none => rw [h1] at e; cases e
 | some ds =>
  rw [h1] at e
  exact ⟨F0, H0, F, ρ, ds, rl, h1, fun vs F1 H1 x1 r1 => hf F1 H1 vs ds g Q x1.fh r1 e fun v F' H' x2 => q v F' H' (x1.trans x2)⟩
theorem w8 {e : Expr} {p : Pos} {m : ML} (hg : Gl X "len") (hm : X.mg "len" = none) (ha : PB X e m) (hs : starEach (e :: []) X.env = (false, eval e X.env) :: starEach [] X.env := by rfl) (he : starEach [e] X.env = (false, eval e X.env) :: starEach [] X.env := by rfl) (hpl : (backTo pos (starEach [] X.env)).any (·.1) = false := by rfl) : PD X (.Call (.Name "len" p) [e] [] pos) (mlen m) :=
 (zz7 zq7 hg hm PySem.boot_len (k6 ha pa_nil hs) (by decide) (by decide) he hpl).imp fun σ H Q hpat => by
  obtain ⟨F0, H0, F, ρ, g, rl, e, q⟩ := hpat
  unfold mlen at e
  cases h1 : m ρ with
  | none => rw [h1] at e; cases e
  | some ds =>
   rw [h1] at e; cases e
   refine ⟨F0, H0, F, ρ, ds, rl, h1, fun p xs F1 H1 x1 s1 r1 => ⟨p, xs, rfl, .inl s1, ?_⟩⟩
   rw [r1.length]
   exact q _ F1 H1 x1 (.int _)
def two2 (k : Int -> Int -> Int) : List D -> Option D
 | [.int i, .int j] => some (.int (k i j))
 | _ => none
theorem yo8 {k : Int -> Int -> Int} {ds : List D} {g : D} (h : two2 k ds = some g) : ∃ i j, ds = [.int i, .int j] /\ g = .int (k i j) := by
 cases ds with
 | nil => cases h
 | cons d ds =>
  cases ds with
  | nil => cases d <;> cases h
  | cons e ds =>
   cases ds with
   | cons f ds => cases d <;> first | (cases h; done) | (cases e <;> cases h)
   | nil =>
    cases d with
    | int i =>
     cases e with
     | int j => cases h; exact ⟨i, j, rfl, rfl⟩
     | _ => cases h
    | _ => cases h
theorem yp1 {K : W.Frag} {k : Int -> Int -> Int} : xe1 K (fun xs H Q => ∃ i j, xs = [.int i, .int j] /\ Q (.int (k i j)) H) (two2 k) := by
 intro F H vs ds g Q s r h q
 obtain ⟨i, j, rfl, rfl⟩ := yo8 h
 cases r with
 | cons r rr =>
  cases rr with
  | cons r2 rr =>
   cases rr
   rw [r.i', r2.i']
   exact ⟨_, _, rfl, q _ F H (.refl s) (.int _)⟩
def zc5 : List D -> Option D := two2 fun i j => if j < i then j else i
theorem yv0 {x y : Expr} {p : Pos} {m : ML} (hc : X.calm = true) (hg : Gl X "min") (hm : X.mg "min" = none) (ha : PAs X [x, y] m) (he : starEach [x, y] X.env = (false, eval x X.env) :: starEach [y] X.env := by rfl) (hpl : (backTo pos (starEach [y] X.env)).any (·.1) = false := by rfl) : PD X (.Call (.Name "min" p) [x, y] [] pos) (zx4 zc5 m) :=
 (zz7 (yp2 hc) hg hm PyProof.Rows.boot_min ha (by decide) (by decide) he hpl).imp fun _ _ _ h => xg2 (yp1 (k := fun i j => if j < i then j else i)) h
def intF : List D -> Option D
 | [.int i] => some (.int i)
 | [.bl k] => some (.int (if k then 1 else 0))
 | _ => none
theorem xy3 {e : Expr} {p : Pos} {m : ML} (hg : Gl X "list") (hm : X.mg "list" = none) (ha : PB X e m) (hv : bootBuiltins "list" = some (.type "list")) (hs : starEach (e :: []) X.env = (false, eval e X.env) :: starEach [] X.env := by rfl) (hpl : (backTo pos (starEach [] X.env)).any (·.1) = false := by rfl) : PF X (.Call (.Name "list" p) [e] [] pos) m :=
 (Q0 zq6 hg hm hv (k6 ha pa_nil hs) (by decide) (by decide) hs hpl).imp fun σ H Q hpat => by
  obtain ⟨F0, H0, F, ρ, ds, rl, e, q⟩ := hpat
  refine ⟨F0, H0, F, ρ, ds, rl, e, fun p xs F1 H1 x1 s1 r1 => ⟨p, xs, rfl, .inl s1, fun w hw => ?_⟩⟩
  exact q w _ F1 _ (x1.trans (Ext.own x1.fh hw)) (x1.hh.free hw) (x1.fh.free hw) y6 r1
end
end
section
inductive Out where
 | nx (ρ : Ro) | bk (ρ : Ro) | ct (ρ : Ro) | rt (d : D) | rf (ds : List D) | rp (d : D) (ds : List D) | rg (d : D) (p : Addr) (r : List D) | rgf (ds : List D) (p : Addr) (r : List D)
abbrev MS := Ro -> Option Out
def okO (K : W.Frag) (F0 H0 Fb : Hp) (Dn : Ends) : Out -> Prop
 | .nx ρ => ∀ F H σ, Rl K F0 H0 F H σ ρ -> Same Fb F -> Dn.nx σ H
 | .bk ρ => ∀ F H σ, Rl K F0 H0 F H σ ρ -> Same Fb F -> Dn.bk σ H
 | .ct ρ => ∀ F H σ, Rl K F0 H0 F H σ ρ -> Same Fb F -> Dn.ct σ H
 | .rt d => ∀ v F H, Ext F0 H0 F H -> Rep K F v d -> Dn.rt v H
 | .rf ds => ∀ p xs F H, Ext F0 H0 F H -> H0 p = none -> F p = none -> H p = some (.lst xs) -> Reps K F xs ds -> Dn.rt (.ref p) H
 | .rp d ds => ∀ t v p xs F H, Ext F0 H0 F H -> H0 t = none -> H0 p = none -> t ≠ p -> F t = none -> F p = none -> H t = some (.tup [v, .ref p]) -> H p = some (.lst xs) -> Rep K F v d -> Reps K F xs ds -> Dn.rt (.ref t) H
 | .rg d p r => ∀ v F H xs, Ext F0 H0 F H -> Rep K F v d -> F p = none -> H p = some (.lst xs) -> Reps K F xs r -> Dn.rt v H
 | .rgf ds p r => ∀ q ys F H xs, Ext F0 H0 F H -> H0 q = none -> F q = none -> q ≠ p -> H q = some (.lst ys) -> Reps K F ys ds -> F p = none -> H p = some (.lst xs) -> Reps K F xs r -> Dn.rt (.ref q) H
def TSd (K : W.Frag) (m : MS) : TS := fun Dn σ H => ∃ F0 H0 F ρ o, Rl K F0 H0 F H σ ρ /\ m ρ = some o /\ okO K F0 H0 F Dn o
theorem okO.mono {K : W.Frag} {F0 H0 Fb Fb' : Hp} {Dn : Ends} (s : Same Fb Fb') : ∀ {o : Out}, okO K F0 H0 Fb Dn o -> okO K F0 H0 Fb' Dn o
 | .nx _, h => fun F H σ rl q => h F H σ rl (s.trans q)
 | .bk _, h => fun F H σ rl q => h F H σ rl (s.trans q)
 | .ct _, h => fun F H σ rl q => h F H σ rl (s.trans q)
 | .rt _, h => h
 | .rf _, h => h
 | .rp _ _, h => h
 | .rg _ _ _, h => h
 | .rgf _ _ _, h => h
def PSd (X : Cx) (st : Stmt) (m : MS) : Prop := PS X st (TSd X.K m)
def PSsd (X : Cx) (st : List Stmt) (m : MS) : Prop := PSs X st (TSd X.K m)
section
variable {X : Cx} {a b c e : Expr} {ma mb : ME} {pos : Pos} {st : Stmt} {rest : List Stmt} {m1 m2' : MS}
theorem PS.imp {t t' : TS} (h : PS X st t) (i : ∀ D σ H, t' D σ H -> t D σ H) : PS X st t' := fun pins s σ H D I q => h pins s σ H D I (i D σ H q)
theorem PSs.imp {sts : List Stmt} {t t' : TS} (h : PSs X sts t) (i : ∀ D σ H, t' D σ H -> t D σ H) : PSs X sts t' := fun pins s σ H D I q => h pins s σ H D I (i D σ H q)
def c9 : MS := fun ρ => some (.nx ρ)
def mseq (x y : MS) : MS := fun ρ => match x ρ with | some (.nx ρ') => y ρ' | o => o
theorem m6 : PSsd X [] c9 := pss_nil.imp fun D σ H hpat => by obtain ⟨F0, H0, F, ρ, o, rl, e, ok⟩ := hpat; cases e; exact ok F H σ rl (Same.refl _)
theorem z9 (h1 : PSd X st m1) (h2 : PSsd X rest m2') : PSsd X (st :: rest) (mseq m1 m2') := (M8 h1 h2).imp fun D σ H hpat => by
 obtain ⟨F0, H0, F, ρ, o, rl, e, ok⟩ := hpat
 unfold mseq at e
 cases h : m1 ρ with
 | none => rw [h] at e; cases e
 | some o1 =>
  rw [h] at e
  cases o1 with
  | nx ρ1 => exact ⟨F0, H0, F, ρ, _, rl, h, fun F' H' σ' rl' sf => ⟨F0, H0, F', ρ1, o, rl', e, ok.mono sf⟩⟩
  | bk ρ1 => cases e; exact ⟨F0, H0, F, ρ, _, rl, h, ok⟩
  | ct ρ1 => cases e; exact ⟨F0, H0, F, ρ, _, rl, h, ok⟩
  | rt d => cases e; exact ⟨F0, H0, F, ρ, _, rl, h, ok⟩
  | rf d => cases e; exact ⟨F0, H0, F, ρ, _, rl, h, ok⟩
  | rp d ds => cases e; exact ⟨F0, H0, F, ρ, _, rl, h, ok⟩
  | rg d p r => cases e; exact ⟨F0, H0, F, ρ, _, rl, h, ok⟩
  | rgf d p r => cases e; exact ⟨F0, H0, F, ρ, _, rl, h, ok⟩
theorem y8 (h1 : PSd X st m1) : PSsd X [st] m1 := A9 h1
def mif (c : MB) (x y : MS) : MS := fun ρ => match c ρ with | some true => x ρ | some false => y ρ | none => none
theorem Z7 {ca : MB} {x y : List Stmt} {mx my : MS} (hc : PC' X c ca) (hx : PSsd X x mx) (hy : PSsd X y my) : PSd X (.If c x y pos) (mif ca mx my) := (yk0 hc hx hy).imp fun D σ H hpat => by
 obtain ⟨F0, H0, F, ρ, o, rl, e, ok⟩ := hpat
 unfold mif at e
 split at e
 ·rename_i h1
  refine ⟨F0, H0, F, ρ, _, rl, h1, fun F1 H1 x1 => iteT ⟨F0, H0, F1, ρ, o, rl.go x1, e, ok.mono x1.ff⟩⟩
 ·rename_i h1
  refine ⟨F0, H0, F, ρ, _, rl, h1, fun F1 H1 x1 => iteF ⟨F0, H0, F1, ρ, o, rl.go x1, e, ok.mono x1.ff⟩⟩
 ·cases e
def J7 : MS := fun _ => none
theorem V0 : PSd X st J7 := ps_never.imp fun D σ H hpat => by obtain ⟨F0, H0, F, ρ, o, rl, e, ok⟩ := hpat; cases e
def mset (i : Nat) (x : ME) : MS := fun ρ => (x ρ).map fun d => .nx (ρ.set i (some (.sh d)))
def f9 (i : Nat) (x : ML) : MS := fun ρ => (x ρ).map fun ds => .nx (ρ.set i (some (.own ds)))
theorem xg6 {t : TE} {i : Nat} (h : PS X st (tAsg t (M1 i))) (ht : ∀ σ H Q, TD X.K ma σ H Q -> t σ H Q) : PSd X st (mset i ma) := h.imp fun D σ H hpat => by
 obtain ⟨F0, H0, F, ρ, o, rl, e, ok⟩ := hpat
 unfold mset at e
 cases h1 : ma ρ with
 | none => rw [h1] at e; cases e
 | some d =>
  rw [h1] at e; cases e
  exact ht _ _ _ ⟨F0, H0, F, ρ, d, rl, h1, fun v F1 H1 x1 r1 => ok F1 H1 _ ((rl.go x1).set r1) x1.ff⟩
theorem xa4 {t : TE} {i : Nat} {mf : ML} (h : PS X st (tAsg t (M1 i))) (ht : ∀ σ H Q, TF X.K mf σ H Q -> t σ H Q) : PSd X st (f9 i mf) := h.imp fun D σ H hpat => by
 obtain ⟨F0, H0, F, ρ, o, rl, e, ok⟩ := hpat
 unfold f9 at e
 cases h1 : mf ρ with
 | none => rw [h1] at e; cases e
 | some ds =>
  rw [h1] at e; cases e
  refine ht _ _ _ ⟨F0, H0, F, ρ, ds, rl, h1, fun p xs F1 H1 x1 hp hF hH r1 => ok F1 H1 _ ?_ x1.ff⟩
  refine (rl.go x1).setOwn hF hH r1 (rl.ext.hh.free hp) (fun j es hj e1 e2 => ?_) fun j q es e1 z => ?_
  ·obtain ⟨q, ys, a1, a2, a3, _⟩ := rl.own j es e1
   rw [a1] at e2; cases e2
   rw [hp] at a3; cases a3
  ·obtain ⟨_, _, _, ys, a3, _⟩ := rl.ob j q es e1
   rw [z, hp] at a3; cases a3
theorem u4 {i : Nat} {x : Str} {pos' : Pos} (hN : X.N.Nodup) (hi : X.N[i]? = some x) (hx : Loc X.env.scope x) (he : PD X e ma) (hs : swapsWith e (some (.Name x pos')) pos.line X.env = pure false := by rfl) (hf : X.fn x = true \/ X.env.scope.names.lookup x = some .local := by first | exact .inl rfl | exact .inr rfl | assumption) :
  PSd X (.Assign [.Name x pos'] e pos) (mset i ma) := xg6 (zh2 hN hi hx he hs hf) fun _ _ _ h => h
theorem l5 {i : Nat} {x : Str} {pos' : Pos} {mf : ML} (hN : X.N.Nodup) (hi : X.N[i]? = some x) (hx : Loc X.env.scope x) (he : PF X e mf) (hs : swapsWith e (some (.Name x pos')) pos.line X.env = pure false := by rfl) (hf : X.fn x = true \/ X.env.scope.names.lookup x = some .local := by first | exact .inl rfl | exact .inr rfl | assumption) :
  PSd X (.Assign [.Name x pos'] e pos) (f9 i mf) := xa4 (zh2 hN hi hx he hs hf) fun _ _ _ h => h
def U9 (x : ME) : MS := fun ρ => (x ρ).map fun _ => .nx ρ
theorem c8 (he : PD X e ma) (hs : swapsWith e none pos.line X.env = pure false := by rfl) : PSd X (.Expr e pos) (U9 ma) := (K5 he hs).imp fun D σ H hpat => by
 obtain ⟨F0, H0, F, ρ, o, rl, e, ok⟩ := hpat
 unfold U9 at e
 cases h1 : ma ρ with
 | none => rw [h1] at e; cases e
 | some d =>
  rw [h1] at e; cases e
  exact ⟨F0, H0, F, ρ, d, rl, h1, fun v F1 H1 x1 r1 => ok F1 H1 _ (rl.go x1) x1.ff⟩
def mret (x : ME) : MS := fun ρ => (x ρ).map .rt
def yu4 (x : ML) : MS := fun ρ => (x ρ).map .rf
def zy4 (i : Nat) : MS := fun ρ => match ρ[i]? with | some (some (.own ds)) => some (.rf ds) | some (some (.sh d)) => some (.rt d) | _ => none
theorem u5 (he : PD X e ma) : PSd X (.Return (some e) pos) (mret ma) := (R7 he).imp fun D σ H hpat => by
 obtain ⟨F0, H0, F, ρ, o, rl, e, ok⟩ := hpat
 unfold mret at e
 cases h1 : ma ρ with
 | none => rw [h1] at e; cases e
 | some d =>
  rw [h1] at e; cases e
  exact ⟨F0, H0, F, ρ, d, rl, h1, fun v F1 H1 x1 r1 => ok v F1 H1 (rl.ext.trans x1) r1⟩
theorem ym7 {mf : ML} (he : PF X e mf) : PSd X (.Return (some e) pos) (yu4 mf) := (R7 he).imp fun D σ H hpat => by
 obtain ⟨F0, H0, F, ρ, o, rl, e, ok⟩ := hpat
 unfold yu4 at e
 cases h1 : mf ρ with
 | none => rw [h1] at e; cases e
 | some ds =>
  rw [h1] at e; cases e
  exact ⟨F0, H0, F, ρ, ds, rl, h1, fun p xs F1 H1 x1 hp hF hH r1 => ok p xs F1 H1 (rl.ext.trans x1) (rl.ext.hh.free hp) hF hH r1⟩
theorem L0 (i : Nat) {x : Str} {pos' : Pos} (h : PE X (.Name x pos') (tVar i)) : PSd X (.Return (some (.Name x pos')) pos) (zy4 i) := (R7 h).imp fun D σ H hpat => by
 obtain ⟨F0, H0, F, ρ, o, rl, e, ok⟩ := hpat
 unfold zy4 at e
 split at e
 ·rename_i ds h1
  cases e
  obtain ⟨p, xs, e1, e2, e3, e4, e5⟩ := rl.own i _ h1
  exact ⟨_, e1, ok p xs F H rl.ext e5 e2 e3 e4⟩
 ·rename_i d h1
  cases e
  obtain ⟨v, e1, e2⟩ := rl.sh i _ h1
  exact ⟨_, e1, ok v F H rl.ext e2⟩
 ·cases e
def mapp (i : Nat) (x : ME) : MS := fun ρ => match ρ[i]? with | some (some (.own ds)) => (x ρ).bind fun d => if ds.length < sizeLine then some (.nx (ρ.set i (some (.own (ds ++ [d]))))) else none | _ => none
theorem Y4 {i : Nat} {x : Str} {e : Expr} {px apos cpos : Pos} (hv : PE X (.Name x px) (tVar i)) (he : PD X e ma)
  (hE : ∀ t, PA X [e] t -> PE X (.Call (.Attribute (.Name x px) "append" apos) [e] [] cpos) (tBM X.K "list" K4 (tVar i) t)) (hA : PAs X [e] (z8 ma anil)) (hs : swapsWith (.Call (.Attribute (.Name x px) "append" apos) [e] [] cpos) none pos.line X.env = pure false := by rfl) :
  PSd X (.Expr (.Call (.Attribute (.Name x px) "append" apos) [e] [] cpos) pos) (mapp i ma) := (K5 (hE _ hA) hs).imp fun D σ H hpat => by
 obtain ⟨F0, H0, F, ρ, o, rl, e, ok⟩ := hpat
 unfold mapp at e
 split at e
 ·rename_i ds h1
  obtain ⟨p, xs, e1, e2, e3, e4, e5⟩ := rl.own i _ h1
  cases h2 : ma ρ with
  | none => rw [h2] at e; cases e
  | some d =>
   rw [h2] at e
   have e : (if ds.length < sizeLine then some (Out.nx (ρ.set i (some (.own (ds ++ [d]))))) else none) = some o := e
   split at e
   ·rename_i hz
    cases e
    refine ⟨_, e1, .inl ⟨rfl, _, SqL.of e3⟩, F0, H0, F, ρ, [d], rl, by unfold z8 anil; rw [h2]; rfl, fun vs F1 H1 x1 r1 => ?_⟩
    cases r1 with
    | cons r rr =>
     cases rr
     have hp : H1 p = some (.lst xs) := x1.hh _ _ e3
     exact ⟨p, xs, _, rfl, rfl, hp, by rw [e4.length]; exact hz, ok F1 _ σ ((rl.go x1).write h1 e1 ((e4.mono x1.ff).append (.cons r .nil))) x1.ff⟩
   ·cases e
 ·cases e
def g7 (i : Nat) (ix v : ME) : MS := fun ρ => (v ρ).bind fun d => match ρ[i]? with
 | some (some (.own ds)) => (ix ρ).bind (fun x => match x with | .int k => (ixN ds.length k).map fun j => .nx (ρ.set i (some (.own (ds.set j d)))) | _ => none)
 | some (some (.ob p ds)) => (ix ρ).bind (fun x => match x with | .int k => (ixN ds.length k).map fun j => .nx (ρ.set i (some (.ob p (ds.set j d)))) | _ => none)
 | _ => none
theorem j6 {i : Nat} (hE : PS X st (tAsg (TD X.K mb) (gSub (tVar i) (TD X.K ma) xo9))) : PSd X st (g7 i ma mb) := hE.imp fun D σ H hpat => by
 obtain ⟨F0, H0, F, ρ, o, rl, e, ok⟩ := hpat
 unfold g7 at e
 cases h1 : mb ρ with
 | none => rw [h1] at e; cases e
 | some d =>
  rw [h1] at e
  refine ⟨F0, H0, F, ρ, d, rl, h1, fun y F1 H1 x1 r1 => ?_⟩
  dsimp only [Option.bind] at e
  split at e
  ·rename_i ds h2
   obtain ⟨p, xs, e1, e2, e3, e4, e5⟩ := (rl.go x1).own i _ h2
   cases h3 : ma ρ with
   | none => rw [h3] at e; cases e
   | some k' =>
    rw [h3] at e
    refine ⟨_, e1, F0, H0, F1, ρ, k', rl.go x1, h3, fun z F2 H2 x2 r2 => ?_⟩
    cases r2 <;> first | (cases e; done) | skip
    rename_i k
    have e : (ixN ds.length k).map (fun j => Out.nx (ρ.set i (some (.own (ds.set j d))))) = some o := e
    cases h4 : ixN ds.length k with
    | none => rw [h4] at e; cases e
    | some j =>
     rw [h4] at e; cases e
     have rl2 := (rl.go x1).go x2
     refine ⟨p, xs, k, j, rfl, rfl, x2.hh _ _ e3, by rw [e4.length]; exact h4, ok F2 _ σ (rl2.write h2 e1 (Reps.set (r1.mono x2.ff) j (e4.mono x2.ff))) (x1.ff.trans x2.ff)⟩
  ·rename_i p ds h2
   obtain ⟨e1, e2, e5, xs, e3, e4⟩ := (rl.go x1).ob i p _ h2
   cases h3 : ma ρ with
   | none => rw [h3] at e; cases e
   | some k' =>
    rw [h3] at e
    refine ⟨_, e1, F0, H0, F1, ρ, k', rl.go x1, h3, fun z F2 H2 x2 r2 => ?_⟩
    cases r2 <;> first | (cases e; done) | skip
    rename_i k
    have e : (ixN ds.length k).map (fun j => Out.nx (ρ.set i (some (.ob p (ds.set j d))))) = some o := e
    cases h4 : ixN ds.length k with
    | none => rw [h4] at e; cases e
    | some j =>
     rw [h4] at e; cases e
     have rl2 := (rl.go x1).go x2
     refine ⟨p, xs, k, j, rfl, rfl, x2.hh _ _ e3, by rw [e4.length]; exact h4, ok F2 _ σ (rl2.writeB h2 (Reps.set (r1.mono x2.ff) j (e4.mono x2.ff))) (x1.ff.trans x2.ff)⟩
  ·cases e
def k7 (i : Nat) (m : MS) : MS := fun ρ => match ρ[i]? with | some (some (.own ds)) => m (ρ.set i (some (.sh (.lst ds)))) | _ => m ρ
theorem t4 (i : Nat) {sts : List Stmt} {m : MS} (h : PSsd X sts m) : PSsd X sts (k7 i m) := h.imp fun D σ H hpat => by
 obtain ⟨F0, H0, F, ρ, o, rl, e, ok⟩ := hpat
 unfold k7 at e
 split at e
 ·rename_i ds h1
  obtain ⟨F', rl', sf⟩ := rl.freeze h1
  exact ⟨F0, H0, F', _, o, rl', e, ok.mono sf⟩
 ·exact ⟨F0, H0, F, ρ, o, rl, e, ok⟩
inductive Tg where
 | nm (i : Nat) | tp (is : List Nat) | nt (i : Nat) (is : List Nat)
def R5 : List Nat -> List D -> Ro -> Option Ro
 | [], [], ρ => some ρ
 | i :: is, d :: ds, ρ => R5 is ds (ρ.set i (some (.sh d)))
 | _, _, _ => none
def tgD : Tg -> D -> Ro -> Option Ro
 | .nm i, d, ρ => some (ρ.set i (some (.sh d)))
 | .tp is, .tup ds, ρ => R5 is ds ρ
 | .nt i is, .tup [d, .tup ds], ρ => R5 is ds (ρ.set i (some (.sh d)))
 | _, _, _ => none
def TGd (K : W.Frag) (g : Tg) : TG := fun v σ H Q => ∃ F0 H0 F ρ d ρ', Rl K F0 H0 F H σ ρ /\ Rep K F v d /\ tgD g d ρ = some ρ' /\ ∀ F' H' σ', Rl K F0 H0 F' H' σ' ρ' -> Ext F H F' H' -> Q σ' H'
def PGd (X : Cx) (tg : Expr) (g : Tg) : Prop := PG X tg (TGd X.K g)
theorem PG.imp {tg : Expr} {t t' : TG} (h : PG X tg t) (i : ∀ v σ H Q, t' v σ H Q -> t v σ H Q) : PG X tg t' := fun pins s σ H v u Q I r q => h pins s σ H v u Q I r (i v σ H Q q)
theorem u7 {i : Nat} {x : Str} {pos : Pos} (h : PG X (.Name x pos) (M1 i)) : PGd X (.Name x pos) (.nm i) := PG.imp h fun v σ H Q hpat => by
 obtain ⟨F0, H0, F, ρ, d, ρ', rl, r, e, q⟩ := hpat
 cases e; exact q F H _ (rl.set r) (.refl rl.fh)
def gAll : List Nat -> TGs
 | [] => gNil
 | i :: is => yh9 (M1 i) (gAll is)
theorem zk2 {K : W.Frag} {F0 H0 F H : Hp} {Q : St -> Hp -> Prop} : ∀ (is : List Nat) (vs : List V) (ds : List D) (σ : St) (ρ ρ' : Ro), Rl K F0 H0 F H σ ρ -> Reps K F vs ds -> R5 is ds ρ = some ρ' -> (∀ σ', Rl K F0 H0 F H σ' ρ' -> Q σ' H) -> gAll is vs σ H Q
 | [], _, [], σ, ρ, ρ', rl, r, e, q => by cases r; cases e; exact ⟨rfl, q σ rl⟩
 | [], _, _ :: _, _, _, _, _, _, e, _ => by cases e
 | _ :: _, _, [], _, _, _, _, _, e, _ => by cases e
 | i :: is, _, d :: ds, σ, ρ, ρ', rl, r, e, q => by
  cases r with
  | cons r rr => exact ⟨_, _, rfl, zk2 is _ ds _ _ ρ' (rl.set r) rr e q⟩
theorem P3 : ∀ (is : List Nat) (ds : List D) (ρ ρ' : Ro), R5 is ds ρ = some ρ' -> ds.length = is.length
 | [], [], _, _, _ => rfl
 | [], _ :: _, _, _, e => by cases e
 | _ :: _, [], _, _, e => by cases e
 | _ :: is, _ :: ds, ρ, ρ', e => congrArg (· + 1) (P3 is ds _ ρ' e)
theorem j7 {es : List Expr} {k n : Nat} {is : List Nat} {pos : Pos} (h : PG X (.Tuple es k pos) (gTup X.K n (gAll is))) (hn : is.length = n := by rfl) : PGd X (.Tuple es k pos) (.tp is) := PG.imp h fun v σ H Q hpat => by
 obtain ⟨F0, H0, F, ρ, d, ρ', rl, r, e, q⟩ := hpat
 cases r with
 | tup s t => exact ⟨_, _, rfl, rl.fh.seqT s, by rw [t.length, P3 _ _ _ _ e, hn], zk2 is _ _ σ ρ ρ' rl t e fun σ' rl' => q F H σ' rl' (.refl rl.fh)⟩
 | _ => cases e
def masg (g : Tg) (x : ME) : MS := fun ρ => (x ρ).bind fun d => (tgD g d ρ).map .nx
theorem a8 {g : Tg} (h : PS X st (tAsg (TD X.K ma) (TGd X.K g))) : PSd X st (masg g ma) := h.imp fun D σ H hpat => by
 obtain ⟨F0, H0, F, ρ, o, rl, e, ok⟩ := hpat
 unfold masg at e
 cases h1 : ma ρ with
 | none => rw [h1] at e; cases e
 | some d =>
  rw [h1] at e
  have e : (tgD g d ρ).map Out.nx = some o := e
  cases h2 : tgD g d ρ with
  | none => rw [h2] at e; cases e
  | some ρ' =>
   rw [h2] at e; cases e
   exact ⟨F0, H0, F, ρ, d, rl, h1, fun v F1 H1 x1 r1 => ⟨F0, H0, F1, ρ, d, ρ', rl.go x1, r1, h2, fun F' H' σ' rl' x2 => ok F' H' σ' rl' (x1.ff.trans x2.ff)⟩⟩
structure ItD (K : W.Frag) (F : Hp) (J : It) (its : List D) : Prop where
 go : ∀ (i : Nat) F1 H1, Same F F1 -> Same F1 H1 -> i < its.length -> J.go i H1
 yld : ∀ (i : Nat) F1 H1 x H2 d, Same F F1 -> Same F1 H1 -> its[i]? = some d -> J.yld i H1 x H2 -> ∃ F2, Ext F1 H1 F2 H2 /\ Rep K F2 x d
 stop : ∀ F1 H1, Same F F1 -> Same F1 H1 -> J.stop its.length H1
def TId (K : W.Frag) (mi : ML) : TI := fun σ H R => ∃ F0 H0 F ρ its, Rl K F0 H0 F H σ ρ /\ mi ρ = some its /\ ∀ J F' H', Ext F H F' H' -> ItD K F' J its -> R J H'
def PId (X : Cx) (tg iter : Expr) (mi : ML) : Prop := PI X tg iter (TId X.K mi)
theorem PI.imp {tg it : Expr} {t t' : TI} (h : PI X tg it t) (i : ∀ σ H R, t' σ H R -> t σ H R) : PI X tg it t' := fun pins s σ H R I q => h pins s σ H R I (i σ H R q)
theorem yh4 {K : W.Frag} {F : Hp} {p : Addr} {xs : List V} {ds : List D} (s : SqL K F p xs) (r : Reps K F xs ds) : ItD K F (Itl K p) ds where
 go := fun i F1 H1 a b hi => by
  obtain ⟨v, e, _⟩ := r.get (getElem?_eq_getElem hi)
  exact ⟨xs, v, b.seq (a.seq s), e⟩
 yld := fun i F1 H1 x H2 d a b e y => by
  obtain ⟨rfl, y⟩ := y
  obtain ⟨v, e1, e2⟩ := r.get e
  have := y xs (b.seq (a.seq s))
  rw [e1] at this; cases this
  exact ⟨F1, .refl b, e2.mono a⟩
 stop := fun F1 H1 a b => ⟨xs, b.seq (a.seq s), by rw [r.length]; exact Nat.le_refl _⟩
theorem S0 {tg : Expr} (hd : PD X e ma) : PId X tg e (l6 ma) := PI.imp (xy1 hd) fun σ H R hpat => by
 obtain ⟨F0, H0, F, ρ, its, rl, e, q⟩ := hpat
 unfold l6 at e
 split at e
 ·rename_i ds h1
  cases e
  refine ⟨F0, H0, F, ρ, _, rl, h1, fun v F1 H1 x1 r1 => ?_⟩
  cases r1 with
  | lst s t => exact ⟨_, rfl, ⟨_, x1.fh.seq s⟩, q _ F1 H1 x1 (yh4 s t)⟩
 ·cases e
def a7 (lo : Int) (n : Nat) : List D := (List.range n).map fun (i : Nat) => D.int (lo + (i : Int))
theorem R6 (lo : Int) (n : Nat) : (a7 lo n).length = n := by unfold a7; simp
theorem zr0 {K : W.Frag} {F : Hp} {lo : Int} {n : Nat} : ItD K F (Itr lo n) (a7 lo n) where
 go := fun i F1 H1 a b hi => by rw [R6] at hi; exact hi
 yld := fun i F1 H1 x H2 d a b e y => by
  obtain ⟨rfl, rfl⟩ := y
  unfold a7 at e
  rw [getElem?_map] at e
  have hi : i < n := by
   rcases Nat.lt_or_ge i n with h | h
   ·exact h
   ·rw [getElem?_eq_none (by simpa using h)] at e; cases e
  rw [getElem?_range hi] at e
  cases e
  exact ⟨F1, .refl b, .int _⟩
 stop := fun F1 H1 a b => by rw [R6]; exact Nat.le_refl n
def okR (j : Int) : Bool := decide (-(2 ^ 62) <= j) && decide (j < 2 ^ 62)
def rng1 : List D -> Option (List D)
 | [.int j] => if okR j = true then some (a7 0 j.toNat) else none
 | _ => none
def rng2 : List D -> Option (List D)
 | [.int i, .int j] => if (okR i && okR j) = true then some (a7 i (j - i).toNat) else none
 | _ => none
@[irreducible] def r6 (f : List D -> Option (List D)) (m : ML) : ML := fun ρ => (m ρ).bind f
theorem b9 {f : List D -> Option (List D)} {m : ML} {ρ : Ro} {gs : List D} (h : r6 f m ρ = some gs) : ∃ ds, m ρ = some ds /\ f ds = some gs := by
 unfold r6 at h
 cases h1 : m ρ with
 | none => rw [h1] at h; cases h
 | some ds => rw [h1] at h; exact ⟨ds, rfl, h⟩
theorem P8 {tg a : Expr} {m : ML} {p pos : Pos} (hg : Gl X "range") (hm : X.mg "range" = none) (ha : PAs X [a] m) (hs : starEach [a] X.env = [(false, eval a X.env)] := by rfl) : PId X tg (.Call (.Name "range" p) [a] [] pos) (r6 rng1 m) := PI.imp (yw4 hg hm ha hs) fun σ H R hpat => by
 obtain ⟨F0, H0, F, ρ, its, rl, e, q⟩ := hpat
 obtain ⟨ds, h1, h2⟩ := b9 e
 refine ⟨F0, H0, F, ρ, ds, rl, h1, fun vs F1 H1 x1 r1 => ?_⟩
 unfold rng1 at h2
 split at h2
 ·rename_i j
  split at h2
  ·rename_i hk
   cases h2
   unfold okR at hk
   simp only [Bool.and_eq_true, decide_eq_true_eq] at hk
   cases r1 with
   | cons r rr =>
    cases rr; cases r
    exact ⟨j, rfl, hk.1, hk.2, q _ F1 H1 x1 zr0⟩
  ·cases h2
 ·cases h2
theorem Y5 {tg a b : Expr} {m : ML} {p pos : Pos} (hg : Gl X "range") (hm : X.mg "range" = none) (ha : PAs X [a, b] m) (hs : starEach [a, b] X.env = [(false, eval a X.env), (false, eval b X.env)] := by rfl) (hs2 : starEach [b] X.env = [(false, eval b X.env)] := by rfl) : PId X tg (.Call (.Name "range" p) [a, b] [] pos) (r6 rng2 m) := PI.imp (yw3 hg hm ha hs hs2) fun σ H R hpat => by
 obtain ⟨F0, H0, F, ρ, its, rl, e, q⟩ := hpat
 obtain ⟨ds, h1, h2⟩ := b9 e
 refine ⟨F0, H0, F, ρ, ds, rl, h1, fun vs F1 H1 x1 r1 => ?_⟩
 unfold rng2 at h2
 split at h2
 ·rename_i i j
  split at h2
  ·rename_i hk
   cases h2
   unfold okR at hk
   simp only [Bool.and_eq_true, decide_eq_true_eq] at hk
   cases r1 with
   | cons r rr =>
    cases rr with
    | cons r2 rr =>
     cases rr; cases r; cases r2
     exact ⟨i, j, rfl, ⟨hk.1.1, hk.1.2, hk.2.1, hk.2.2⟩, q _ F1 H1 x1 zr0⟩
  ·cases h2
 ·cases h2
def zip2 : List D -> Option (List D)
 | [.lst ds, .lst es] => some (List.zipWith (fun d e => .tup [d, e]) ds es)
 | _ => none
theorem yh3 {K : W.Frag} {F : Hp} {p q : Addr} {xs ys : List V} {ds es : List D} (s : SqL K F p xs) (r : Reps K F xs ds) (s' : SqL K F q ys) (r' : Reps K F ys es) : ItD K F (Itz2 K p q) (List.zipWith (fun d e => D.tup [d, e]) ds es) where
 go := fun i F1 H1 a b hi => by
  rw [length_zipWith] at hi
  obtain ⟨v, e, _⟩ := r.get (getElem?_eq_getElem (show i < ds.length by omega))
  obtain ⟨w, e', _⟩ := r'.get (getElem?_eq_getElem (show i < es.length by omega))
  exact ⟨xs, ys, v, w, b.seq (a.seq s), b.seq (a.seq s'), e, e'⟩
 yld := fun i F1 H1 x H2 d a b e y => by
  obtain ⟨t, u, v, rfl, ht, rfl, y1, y2⟩ := y
  have y1 := y1 xs (b.seq (a.seq s))
  have y2 := y2 ys (b.seq (a.seq s'))
  obtain ⟨d1, e1, r1⟩ := r.get' y1
  obtain ⟨d2, e2, r2⟩ := r'.get' y2
  rw [getElem?_zipWith, e1, e2] at e
  cases e
  refine ⟨upd F1 t (.tup [u, v]), Ext.laid b ht, .tup (SqT.of y6) ?_⟩
  have mm : Same F (upd F1 t (.tup [u, v])) := a.trans ((Same.refl F1).put (b.free ht))
  exact .cons (r1.mono mm) (.cons (r2.mono mm) .nil)
 stop := fun F1 H1 a b => ⟨xs, ys, b.seq (a.seq s), b.seq (a.seq s'), by rw [r.length, r'.length, length_zipWith]; omega⟩
theorem yk1 {es : List Expr} {tk : Nat} {tp : Pos} {a b : Expr} {m : ML} {p pos : Pos} (hg : Gl X "zip") (hm : X.mg "zip" = none) (ha : PAs X [a, b] m) (hs : starEach [a, b] X.env = [(false, eval a X.env), (false, eval b X.env)] := by rfl) (hs2 : starEach [b] X.env = [(false, eval b X.env)] := by rfl) : PId X (.Tuple es tk tp) (.Call (.Name "zip" p) [a, b] [] pos) (r6 zip2 m) := PI.imp (xy0 hg hm ha hs hs2) fun σ H R hpat => by
 obtain ⟨F0, H0, F, ρ, its, rl, e, q⟩ := hpat
 obtain ⟨ds, h1, h2⟩ := b9 e
 refine ⟨F0, H0, F, ρ, ds, rl, h1, fun vs F1 H1 x1 r1 => ?_⟩
 unfold zip2 at h2
 split at h2
 ·cases h2
  cases r1 with
  | cons r rr =>
   cases rr with
   | cons r2 rr =>
    cases rr
    cases r with
    | lst s t =>
     cases r2 with
     | lst s2 t2 => exact ⟨_, _, _, _, rfl, x1.fh.seq s, x1.fh.seq s2, q _ F1 H1 x1 (yh3 s t s2 t2)⟩
 ·cases h2
def O6 : Nat -> List D -> List D
 | _, [] => []
 | i, d :: ds => .tup [.int i, d] :: O6 (i + 1) ds
theorem V7 : ∀ i ds, (O6 i ds).length = ds.length
 | _, [] => rfl
 | i, _ :: ds => by simp [O6, V7 (i + 1) ds]
theorem zr9 : ∀ (k : Nat) ds (i : Nat) d, ds[i]? = some d -> (O6 k ds)[i]? = some (.tup [.int ((k + i : Nat) : Int), d])
 | _, [], _, _, h => by simp at h
 | k, _ :: ds, 0, d, h => by simp at h; subst h; rfl
 | k, _ :: ds, i + 1, d, h => by
  have := zr9 (k + 1) ds i d (by simpa using h)
  have e : k + 1 + i = k + (i + 1) := by omega
  rw [e] at this
  simpa [O6] using this
def zk7 : List D -> Option (List D)
 | [.lst ds] => some (O6 0 ds)
 | _ => none
theorem yh5 {K : W.Frag} {F : Hp} {p : Addr} {xs : List V} {ds : List D} (s : SqL K F p xs) (r : Reps K F xs ds) : ItD K F (Ite K p) (O6 0 ds) where
 go := fun i F1 H1 a b hi => by
  rw [V7] at hi
  obtain ⟨v, e, _⟩ := r.get (getElem?_eq_getElem hi)
  exact ⟨xs, v, b.seq (a.seq s), e⟩
 yld := fun i F1 H1 x H2 d a b e y => by
  obtain ⟨t, u, rfl, ht, rfl, y1⟩ := y
  have y1 := y1 xs (b.seq (a.seq s))
  obtain ⟨d1, e1, r1⟩ := r.get' y1
  rw [zr9 0 ds i d1 e1, Nat.zero_add] at e
  cases e
  refine ⟨upd F1 t (.tup [.int i, u]), Ext.laid b ht, .tup (SqT.of y6) ?_⟩
  have mm : Same F (upd F1 t (.tup [.int i, u])) := a.trans ((Same.refl F1).put (b.free ht))
  exact .cons (.int _) (.cons (r1.mono mm) .nil)
 stop := fun F1 H1 a b => ⟨xs, b.seq (a.seq s), by rw [r.length, V7]; exact Nat.le_refl _⟩
theorem zh3 {es : List Expr} {tk : Nat} {tp : Pos} {a : Expr} {m : ML} {p pos : Pos} (hg : Gl X "enumerate") (hm : X.mg "enumerate" = none) (ha : PAs X [a] m) (hs : starEach [a] X.env = [(false, eval a X.env)] := by rfl) : PId X (.Tuple es tk tp) (.Call (.Name "enumerate" p) [a] [] pos) (r6 zk7 m) := PI.imp (yw5 hg hm ha hs) fun σ H R hpat => by
 obtain ⟨F0, H0, F, ρ, its, rl, e, q⟩ := hpat
 obtain ⟨ds, h1, h2⟩ := b9 e
 refine ⟨F0, H0, F, ρ, ds, rl, h1, fun vs F1 H1 x1 r1 => ?_⟩
 unfold zk7 at h2
 split at h2
 ·cases h2
  cases r1 with
  | cons r rr =>
   cases rr
   cases r with
   | lst s t => exact ⟨_, _, rfl, x1.fh.seq s, q _ F1 H1 x1 (yh5 s t)⟩
 ·cases h2
end
end
section
def forD (g : Tg) (body : MS) : List D -> MS
 | [], ρ => some (.nx ρ)
 | d :: ds, ρ => match tgD g d ρ with
  | some ρ1 => match body ρ1 with
   | some (.nx ρ2) => forD g body ds ρ2
   | some (.ct ρ2) => forD g body ds ρ2
   | some (.bk ρ2) => some (.nx ρ2)
   | o => o
  | none => none
def mfor (mi : ML) (g : Tg) (body : MS) : MS := fun ρ => (mi ρ).bind fun its => forD g body its ρ
theorem g6 {α : Type} {xs : List α} {i : Nat} {d : α} (h : xs[i]? = some d) : xs.drop i = d :: xs.drop (i + 1) := by
 obtain ⟨hl, e⟩ := List.getElem?_eq_some_iff.mp h
 rw [drop_eq_getElem_cons hl, e]
section
variable {X : Cx} {a b c e : Expr} {ma mb : ME} {pos : Pos} {st : Stmt} {rest : List Stmt}
theorem Y1 {tg iter : Expr} {body : List Stmt} {mi : ML} {g : Tg} {mb : MS} (hp : PassesOwn (model X.prog X.w) X.A X.env X.xe) (hc : X.calm = true) (hi : PId X tg iter mi) (hg : PGd X tg g) (hb : PSsd X body mb)
  (hs : ∀ x, foldedSetIterable iter X.env x = pure x := by intro _; rfl) : PSd X (.For tg iter body [] pos) (mfor mi g mb) := (yx9 hp hc hi hg hb hs).imp fun Dn σ H hpat => by
 obtain ⟨F0, H0, F, ρ, o, rl, e, ok⟩ := hpat
 unfold mfor at e
 cases h1 : mi ρ with
 | none => rw [h1] at e; cases e
 | some its =>
  rw [h1] at e
  have e : forD g mb its ρ = some o := e
  refine ⟨F0, H0, F, ρ, its, rl, h1, fun J F1 H1 x1 I => ?_⟩
  refine ⟨fun i m σ' H' => ∃ F' ρ', Rl X.K F0 H0 F' H' σ' ρ' /\ Same F1 F' /\ i <= its.length /\ m = its.length - i /\ forD g mb (its.drop i) ρ' = some o, ⟨_, F1, ρ, rl.go x1, Same.refl _, Nat.zero_le _, rfl, e⟩, ?_⟩
  rintro i m σ' H' ⟨F', ρ', rl', sf, hi', rfl, e'⟩
  by_cases hlt : i < its.length
  ·right
   have hd := getElem?_eq_getElem hlt
   refine ⟨I.go i F' H' sf rl'.fh hlt, fun σ2 H2 => ∃ F2 ρ2, Rl X.K F0 H0 F2 H2 σ2 ρ2 /\ Same F1 F2 /\ forD g mb (its.drop (i + 1)) ρ2 = some o, ?_, fun x H2 y => ?_⟩
   ·rintro σ2 H2 ⟨F2, ρ2, rl2, sf2, e2⟩
    exact ⟨its.length - (i + 1), by omega, F2, ρ2, rl2, sf2, hlt, rfl, e2⟩
   ·obtain ⟨F2, x2, r2⟩ := I.yld i F' H' x H2 _ sf rl'.fh hd y
    rw [g6 hd] at e'
    unfold forD at e'
    cases h2 : tgD g its[i] ρ' with
    | none => simp only [h2] at e'; cases e'
    | some ρ1 =>
     simp only [h2] at e'
     refine ⟨F0, H0, F2, ρ', _, ρ1, rl'.go x2, r2, h2, fun F3 H3 σ3 rl3 x3 => ?_⟩
     have s3 : Same F1 F3 := (sf.trans x2.ff).trans x3.ff
     cases h3 : mb ρ1 with
     | none => simp only [h3] at e'; cases e'
     | some o1 =>
      simp only [h3] at e'
      refine ⟨F0, H0, F3, ρ1, o1, rl3, h3, ?_⟩
      cases o1 with
      | nx ρ2 => exact fun F4 H4 σ4 rl4 s4 => ⟨F4, ρ2, rl4, s3.trans s4, e'⟩
      | ct ρ2 => exact fun F4 H4 σ4 rl4 s4 => ⟨F4, ρ2, rl4, s3.trans s4, e'⟩
      | bk ρ2 =>
       cases e'
       exact fun F4 H4 σ4 rl4 s4 => ok F4 H4 σ4 rl4 ((x1.ff.trans s3).trans s4)
      | rt d => cases e'; exact ok
      | rf d => cases e'; exact ok
      | rp d ds => cases e'; exact ok
      | rg d p r => cases e'; exact ok
      | rgf d p r => cases e'; exact ok
  ·left
   have hieq : i = its.length := by omega
   subst hieq
   rw [drop_length] at e'
   have e' : some (Out.nx ρ') = some o := e'
   cases e'
   exact ⟨I.stop F' H' sf rl'.fh, ok F' H' σ' rl' (x1.ff.trans sf)⟩
end
end
section
def E3 (src : List (Option Nat)) (ρ : Ro) : Ro := src.map fun o => o.bind fun i => match ρ[i]? with | some (some (.sh d)) => some (.sh d) | _ => none
def W7 (g : Tg) (c : MB) (elt : ME) : List D -> Ro -> List D -> Option (List D)
 | [], _, acc => some acc
 | d :: ds, ρ, acc => match tgD g d ρ with
  | some ρ1 => match c ρ1 with
   | some true => match elt ρ1 with
    | some x => if acc.length < sizeLine then W7 g c elt ds ρ1 (acc ++ [x]) else none
    | none => none
   | some false => W7 g c elt ds ρ1 acc
   | none => none
  | none => none
@[irreducible] def Q6 (src : List (Option Nat)) (mi : ML) (g : Tg) (c : MB) (elt : ME) : ML := fun ρ => (mi ρ).bind fun its => W7 g c elt its (E3 src ρ) []
def NoOwn (ρ : Ro) : Prop := ∀ (i : Nat) ds, ρ[i]? ≠ some (some (.own ds)) /\ ∀ p, ρ[i]? ≠ some (some (.ob p ds))
theorem NoOwn.set {ρ : Ro} (h : NoOwn ρ) (i : Nat) (d : D) : NoOwn (ρ.set i (some (.sh d))) := fun j ds => ⟨fun e => by
 by_cases hj : i = j
 ·subst hj
  have hl : i < ρ.length := by
   rcases Nat.lt_or_ge i ρ.length with z | z
   ·exact z
   ·rw [getElem?_eq_none (by simpa using z)] at e; cases e
  rw [getElem?_set_self hl] at e; cases e
 ·rw [getElem?_set_ne hj] at e; exact (h j ds).1 e, fun p e => (h j ds).2 p (o0 e).2⟩
theorem NoOwn.all : ∀ (is : List Nat) (ds : List D) {ρ ρ' : Ro}, NoOwn ρ -> R5 is ds ρ = some ρ' -> NoOwn ρ'
 | [], [], ρ, ρ', h, e => by cases e; exact h
 | [], _ :: _, _, _, _, e => by cases e
 | _ :: _, [], _, _, _, e => by cases e
 | i :: is, d :: ds, ρ, ρ', h, e => NoOwn.all is ds (h.set i d) e
theorem NoOwn.tg {g : Tg} {d : D} {ρ ρ' : Ro} (h : NoOwn ρ) (e : tgD g d ρ = some ρ') : NoOwn ρ' := by
 cases g with
 | nm i => cases e; exact h.set i d
 | tp is => cases d <;> first | (cases e; done) | exact NoOwn.all is _ h e
 | nt i is =>
  cases d with
  | tup ds =>
   match ds, e with
   | [d, .tup ds], e => exact NoOwn.all is _ (h.set i d) e
  | _ => cases e
theorem Rl.blk {K : W.Frag} {F0 H0 F H : Hp} {σ : St} {ρ : Ro} (r : Rl K F0 H0 F H σ ρ) (src : List (Option Nat)) : Rl K F H F H (blk0 src σ) (E3 src ρ) /\ NoOwn (E3 src ρ) := by
 have no1 : ∀ (i : Nat) x, (E3 src ρ)[i]? = some (some x) -> ∃ d, x = S.sh d := fun i x e => by
  unfold E3 at e
  rw [getElem?_map] at e
  cases h : src[i]? with
  | none => rw [h] at e; cases e
  | some o =>
   rw [h] at e
   cases o with
   | none => cases e
   | some k =>
    simp only [Option.map_some, Option.bind_some] at e
    split at e
    ·cases e; exact ⟨_, rfl⟩
    ·cases e
 have no : NoOwn (E3 src ρ) := fun i ds => ⟨fun e => (by obtain ⟨d, z⟩ := no1 i _ e; cases z), fun p e => (by obtain ⟨d, z⟩ := no1 i _ e; cases z)⟩
 refine ⟨⟨.refl r.fh, by unfold blk0 E3; simp, fun i d e => ?_, fun i ds e => absurd e (no i ds).1, fun i j p ds es _ e => absurd e (no i ds).1, fun i p ds e => absurd e ((no i ds).2 p), fun i j p ds es e => absurd e ((no i ds).2 p), fun i j p q ds es e => absurd e ((no i ds).2 p)⟩, no⟩
 unfold E3 at e
 unfold blk0
 rw [getElem?_map] at e ⊢
 cases h : src[i]? with
 | none => rw [h] at e; cases e
 | some o =>
  rw [h] at e
  cases o with
  | none => cases e
  | some k =>
   simp only [Option.map_some, Option.bind_some] at e ⊢
   split at e
   ·rename_i d' h'
    cases e
    obtain ⟨v, e1, e2⟩ := r.sh k _ h'
    exact ⟨v, by rw [e1]; rfl, e2⟩
   ·cases e
theorem Rl.other {K : W.Frag} {F0 H0 F H : Hp} {σ : St} {ρ : Ro} (r : Rl K F0 H0 F H σ ρ) (no : NoOwn ρ) {p : Addr} {o : HO} (h0 : H0 p = none) (hF : F p = none) : Rl K F0 H0 F (upd H p o) σ ρ :=
 ⟨⟨r.ext.ff, r.ext.hh.put h0, r.ext.fh.put hF, r.ext.new, r.ext.nf⟩, r.len, r.sh, fun i ds e => absurd e (no i ds).1, r.inj, fun i p ds e => absurd e ((no i ds).2 p), r.obn, r.ob1⟩
theorem Rl.rebase {K : W.Frag} {F1 F H : Hp} {σ : St} {ρ : Ro} {p : Addr} {xs ys : List V} (r : Rl K F1 (upd F1 p (.lst xs)) F H σ ρ) (hF : F p = none) (hF1 : F1 p = none) : Rl K F1 (upd F1 p (.lst ys)) F (upd H p (.lst ys)) σ ρ := by
 have ne : ∀ q, upd F1 p (.lst xs) q = none -> q ≠ p := fun q z w => by rw [w, y6] at z; cases z
 refine ⟨⟨r.ext.ff, fun b u e => ?_, r.fh.put hF, fun b e n => ?_, r.ext.nf⟩, r.len, r.sh, fun i ds e => ?_, r.inj, fun i q ds e => ?_, r.obn, r.ob1⟩
 ·by_cases hb : b = p
  ·subst hb; rw [y6] at e ⊢; exact e
  ·rw [y9 hb] at e ⊢
   exact r.ext.hh b u (by rw [y9 hb]; exact e)
 ·have hb : b ≠ p := fun w => by rw [w, hF] at n; exact n rfl
  rw [y9 hb]; exact e
 ·obtain ⟨q, zs, a, b, c, d, z⟩ := r.own i ds e
  have hq := ne q z
  rw [y9 hq] at z
  exact ⟨q, zs, a, b, by rw [y9 hq]; exact c, d, by rw [y9 hq]; exact z⟩
 ·obtain ⟨a, b, z, zs, c, d⟩ := r.ob i q ds e
  have hq := ne q z
  rw [y9 hq] at z
  exact ⟨a, b, by rw [y9 hq]; exact z, zs, by rw [y9 hq]; exact c, d⟩
theorem Ext.acc {F H F' H' : Hp} {p : Addr} {o : HO} (x : Ext F H F' H') (hp : H p = none) (hF : F' p = none) : Ext F H F' (upd H' p o) := ⟨x.ff, x.hh.put hp, x.fh.put hF, x.new, x.nf⟩
theorem Ext.stay {F' H' F3 H3 : Hp} {p : Addr} {o : HO} (x3 : Ext F' H' F3 H3) (hF' : F' p = none) (hH' : H' p = some o) : F3 p = none := by
 cases qq : F3 p with
 | none => rfl
 | some u => have := x3.new p hF' (by rw [qq]; simp); rw [this] at hH'; cases hH'
theorem Rl.noB {K : W.Frag} {F H : Hp} {σ : St} {ρ : Ro} {p : Addr} (r : Rl K F H F H σ ρ) (no : NoOwn ρ) (hp : H p = none) : Rl K F (upd F p (.lst [])) F (upd H p (.lst [])) σ ρ :=
 ⟨⟨Same.refl F, r.fh.put2, r.fh.put (r.fh.free hp), fun b e n => absurd e n, fun _ _ _ z => z⟩, r.len, r.sh, fun i ds e => absurd e (no i ds).1, r.inj, fun i p ds e => absurd e ((no i ds).2 p), r.obn, r.ob1⟩
theorem zb6 {g : Tg} {c : MB} {elt : ME} {d : D} {ds acc out : List D} {ρ : Ro} (h : W7 g c elt (d :: ds) ρ acc = some out) : ∃ ρ1, tgD g d ρ = some ρ1 /\ ((c ρ1 = some false /\ W7 g c elt ds ρ1 acc = some out) \/ ∃ x, c ρ1 = some true /\ elt ρ1 = some x /\ acc.length < sizeLine /\ W7 g c elt ds ρ1 (acc ++ [x]) = some out) := by
 rw [W7] at h
 cases h2 : tgD g d ρ with
 | none => rw [h2] at h; cases h
 | some ρ1 =>
  rw [h2] at h
  simp only at h
  refine ⟨ρ1, rfl, ?_⟩
  cases h3 : c ρ1 with
  | none => rw [h3] at h; cases h
  | some k =>
   rw [h3] at h
   cases k with
   | false => exact .inl ⟨rfl, h⟩
   | true =>
    simp only at h
    cases h4 : elt ρ1 with
    | none => rw [h4] at h; cases h
    | some x =>
     rw [h4] at h
     simp only at h
     by_cases hz : acc.length < sizeLine
     ·rw [if_pos hz] at h; exact .inr ⟨x, rfl, rfl, hz, h⟩
     ·rw [if_neg hz] at h; cases h
theorem zq1 {K : PySem.W.Frag} {src : List (Option Nat)} {g : Tg} {c : MB} {elt : ME} {its out : List D} {F1 H1 : Hp} {σ : St} {ρb : Ro} {p : Addr} {J : It} {Q : VK} (f1 : Same F1 H1) (hp : H1 p = none) (rb : Rl K F1 (upd F1 p (.lst [])) F1 (upd H1 p (.lst [])) (blk0 src σ) ρb) (I : ItD K F1 J its) (e : W7 g c elt its ρb [] = some out)
  (q : ∀ xs F' H', Ext F1 H1 F' H' -> F' p = none -> H' p = some (.lst xs) -> Reps K F' xs out -> Q (.ref p) H') :
  ∃ W : Nat -> Nat -> St -> Hp -> Prop, (∃ m, W 0 m (blk0 src σ) (upd H1 p (.lst []))) /\ ∀ i m σ' H', W i m σ' H' ->
   (J.stop i H' /\ Q (.ref p) H') \/ (J.go i H' /\ ∃ N : St -> Hp -> Prop, (∀ σ2 H2, N σ2 H2 -> ∃ m', m' < m /\ W (i + 1) m' σ2 H2) /\ ∀ x H2, J.yld i H' x H2 -> TGd K g x σ' H2 fun σ3 H3 => TC K c σ3 H3 fun b H4 =>
    if b = true then TD K elt σ3 H4 fun y H5 => ∃ xs, H5 p = some (.lst xs) /\ xs.length < sizeLine /\ N σ3 (upd H5 p (.lst (xs ++ [y]))) else N σ3 H4) := by
 have hF1 : F1 p = none := f1.free hp
 refine ⟨fun i m σ' H' => ∃ F' ρ' acc xs, Rl K F1 (upd F1 p (.lst xs)) F' H' σ' ρ' /\ Ext F1 H1 F' H' /\ H' p = some (.lst xs) /\ F' p = none /\ Reps K F' xs acc /\ i <= its.length /\ m = its.length - i /\ W7 g c elt (its.drop i) ρ' acc = some out,
  ⟨_, F1, ρb, [], [], rb, (Ext.refl f1).acc hp hF1, y6, hF1, .nil, Nat.zero_le _, rfl, e⟩, ?_⟩
 clear rb e
 rintro i m σ' H' ⟨F', ρ', acc, xs, rl', xe, hH', hF', ra, hi', rfl, e'⟩
 by_cases hlt : i < its.length
 ·right
  have hd := getElem?_eq_getElem hlt
  refine ⟨I.go i F' H' xe.ff rl'.fh hlt, fun σ2 H2 => ∃ F2 ρ2 acc2 xs2, Rl K F1 (upd F1 p (.lst xs2)) F2 H2 σ2 ρ2 /\ Ext F1 H1 F2 H2 /\ H2 p = some (.lst xs2) /\ F2 p = none /\ Reps K F2 xs2 acc2 /\ W7 g c elt (its.drop (i + 1)) ρ2 acc2 = some out, ?_, fun x H2 y => ?_⟩
  ·rintro σ2 H2 ⟨F2, ρ2, acc2, xs2, b1, b2, b3, b4, b5, b6⟩
   exact ⟨its.length - (i + 1), Nat.sub_lt_sub_left hlt (Nat.lt_succ_self i), F2, ρ2, acc2, xs2, b1, b2, b3, b4, b5, hlt, rfl, b6⟩
  ·obtain ⟨F2, x2, r2⟩ := I.yld i F' H' x H2 _ xe.ff rl'.fh hd y
   rw [g6 hd] at e'
   obtain ⟨ρ1, h2, e3⟩ := zb6 e'
   clear e' I q y hd
   refine ⟨F1, _, F2, ρ', _, ρ1, rl'.go x2, r2, h2, fun F3 H3 σ3 rl3 x3 => ?_⟩
   have x23 := x2.trans x3
   rcases e3 with ⟨h3, e4⟩ | ⟨d, h3, h4, hz, e4⟩
   ·refine ⟨F1, _, F3, ρ1, false, rl3, h3, fun F4 H4 x4 => ?_⟩
    have x24 := x23.trans x4
    exact iteF ⟨F4, ρ1, acc, xs, rl3.go x4, xe.trans x24, x24.hh _ _ hH', x24.stay hF' hH', ra.mono x24.ff, e4⟩
   ·refine ⟨F1, _, F3, ρ1, true, rl3, h3, fun F4 H4 x4 => iteT ⟨F1, _, F4, ρ1, d, rl3.go x4, h4, fun v F5 H5 x5 r5 => ?_⟩⟩
    have x25 := (x23.trans x4).trans x5
    have pn := x25.stay hF' hH'
    exact ⟨xs, x25.hh _ _ hH', by rw [ra.length]; exact hz, F5, ρ1, acc ++ [d], xs ++ [v], ((rl3.go x4).go x5).rebase pn hF1, (xe.trans x25).acc hp pn, y6, pn, (ra.mono x25.ff).append (.cons r5 .nil), e4⟩
 ·left
  have hieq : i = its.length := Nat.le_antisymm hi' (Nat.le_of_not_lt hlt)
  subst hieq
  rw [drop_length] at e'
  have e' : some acc = some out := e'
  cases e'
  exact ⟨I.stop F' H' xe.ff rl'.fh, q xs F' H' xe hF' hH' ra⟩
section
variable {X : Cx} {a b c e : Expr} {ma mb : ME} {pos : Pos} {st : Stmt} {rest : List Stmt}
def PTsd (X : Cx) (ifs : List Expr) (c : MB) : Prop := PTs X ifs (TC X.K c)
def cyes : MB := fun _ => some true
theorem U3 : PTsd X [] cyes := fun pins s σ H Q I hpat => by
 obtain ⟨F0, H0, F, ρ, b, rl, e, q⟩ := hpat
 cases e
 exact ya8 pins s σ H Q I (q F H (.refl rl.fh))
theorem M6 {ca : MB} (h : PC' X c ca) : PTsd X [c] ca := ya7 h
theorem yq8 {K : W.Frag} {src : List (Option Nat)} {mi : ML} {g : Tg} {c : MB} {elt : ME} {σ : St} {H : Hp} {Q : VK} (h : TF K (Q6 src mi g c elt) σ H Q) : zd4 src (TId K mi) (TGd K g) (TC K c) (TD K elt) σ H Q := by
 obtain ⟨F0, H0, F, ρ, out, rl, e, q⟩ := h
 unfold Q6 at e
 cases h1 : mi ρ with
 | none => rw [h1] at e; cases e
 | some its =>
  rw [h1] at e
  refine ⟨F0, H0, F, ρ, its, rl, h1, fun J F1 H1 x1 I p hp => ?_⟩
  obtain ⟨rb, no⟩ := (rl.go x1).blk src
  exact zq1 x1.fh hp (rb.noB no hp) I e fun xs F' H' xe hF' hH' ra => q p xs F' H' (x1.trans xe) (x1.hh.free hp) hF' hH' ra
theorem K7 {sc : Scope} {N : List Str} {src : List (Option Nat)} {tg elt iter : Expr} {ifs : List Expr} {mi : ML} {g : Tg} {cc : MB} {me : ME} (B : Blk X sc N src) (hc : X.calm = true)
  (hi : PId X tg iter mi) (hg : ∀ C fp s H, PGd (b0 X sc C N fp s H) tg g) (ht : ∀ C fp s H, PTsd (b0 X sc C N fp s H) ifs cc) (he : ∀ C fp s H, PD (b0 X sc C N fp s H) elt me)
  (hs : ∀ x, foldedSetIterable iter X.env x = pure x := by intro _; rfl) :
  PF X (.ListComp elt [⟨tg, iter, ifs, 0⟩] sc pos) (Q6 src mi g cc me) := (zo7 (g := TGd X.K g) (tc := TC X.K cc) (te := TD X.K me) B hc hi (fun C fp s H => hg C fp s H) (fun C fp s H => ht C fp s H) (fun C fp s H => he C fp s H) hs).imp fun _ _ _ h => yq8 h
theorem xn6 {mf : ML} {σ : St} {H : Hp} {Q : VK} (h : TD X.K (mlst mf) σ H Q) : TF X.K mf σ H Q := by
 obtain ⟨F0, H0, F, ρ, d, r, e, q⟩ := h
 unfold mlst at e
 cases hm : mf ρ with
 | none => rw [hm] at e; cases e
 | some ds =>
  rw [hm] at e; cases e
  refine ⟨F0, H0, F, ρ, ds, r, hm, fun p xs F' H' x hp hF hH rs => ?_⟩
  exact q _ (upd F' p (.lst xs)) H' (x.freeze hF hp hH) (.lst (SqL.of y6) (rs.mono ((Same.refl F').put hF)))
theorem yx7 {i : Nat} {src : List (Option Nat)} {mi : ML} {g : Tg} {cc : MB} {me : ME} (h : PS X st (tAsg (zd4 src (TId X.K mi) (TGd X.K g) (TC X.K cc) (TD X.K me)) (M1 i))) : PSd X st (mset i (mlst (Q6 src mi g cc me))) := xg6 h fun _ _ _ q => yq8 (xn6 q)
def X9 (c : MB) (body : MS) : Nat -> MS
 | 0, _ => none
 | n + 1, ρ => match c ρ with
  | some true => match body ρ with
   | some (.nx ρ2) => X9 c body n ρ2
   | some (.ct ρ2) => X9 c body n ρ2
   | some (.bk ρ2) => some (.nx ρ2)
   | o => o
  | some false => some (.nx ρ)
  | none => none
theorem zu1 {body : List Stmt} {ca : MB} {mb : MS} (n : Nat) (hp : PassesOwn (model X.prog X.w) X.A X.env X.xe) (hc : PC' X c ca) (hb : PSsd X body mb) : PSd X (.While c body [] pos) (X9 ca mb n) := (ym9 hp hc hb).imp fun Dn σ H hpat => by
 obtain ⟨F0, H0, F, ρ, o, rl, e, ok⟩ := hpat
 refine ⟨fun m σ' H' => ∃ F' ρ', Rl X.K F0 H0 F' H' σ' ρ' /\ Same F F' /\ X9 ca mb m ρ' = some o, ⟨n, F, ρ, rl, Same.refl _, e⟩, ?_⟩
 rintro m σ' H' ⟨F', ρ', rl', sf, e'⟩
 cases m with
 | zero => cases e'
 | succ m =>
  unfold X9 at e'
  cases h1 : ca ρ' with
  | none => simp only [h1] at e'; cases e'
  | some k =>
   refine ⟨F0, H0, F', ρ', k, rl', h1, fun F1 H1 x1 => ?_⟩
   cases k with
   | false =>
    simp only [h1] at e'
    cases e'
    exact iteF (ok F1 H1 σ' (rl'.go x1) (sf.trans x1.ff))
   | true =>
    simp only [h1] at e'
    refine iteT ⟨fun σ2 H2 => ∃ F2 ρ2, Rl X.K F0 H0 F2 H2 σ2 ρ2 /\ Same F F2 /\ X9 ca mb m ρ2 = some o, fun σ2 H2 ⟨F2, ρ2, a1, a2, a3⟩ => ⟨m, Nat.lt_succ_self m, F2, ρ2, a1, a2, a3⟩, ?_⟩
    cases h2 : mb ρ' with
    | none => simp only [h2] at e'; cases e'
    | some o1 =>
     simp only [h2] at e'
     refine ⟨F0, H0, F1, ρ', o1, rl'.go x1, h2, ?_⟩
     have s1 := sf.trans x1.ff
     cases o1 with
     | nx ρ2 => exact fun F4 H4 σ4 rl4 s4 => ⟨F4, ρ2, rl4, s1.trans s4, e'⟩
     | ct ρ2 => exact fun F4 H4 σ4 rl4 s4 => ⟨F4, ρ2, rl4, s1.trans s4, e'⟩
     | bk ρ2 => cases e'; exact fun F4 H4 σ4 rl4 s4 => ok F4 H4 σ4 rl4 (s1.trans s4)
     | rt d => cases e'; exact ok
     | rf d => cases e'; exact ok
     | rp d ds => cases e'; exact ok
     | rg d p r => cases e'; exact ok
     | rgf d p r => cases e'; exact ok
inductive Rt where
 | sh (d : D) | fr (ds : List D) | pr (d : D) (ds : List D)
abbrev MF := List D -> Option Rt
def okT (K : W.Frag) (F H : Hp) (Q : VK) : Rt -> Prop
 | .sh d => ∀ v F' H', Ext F H F' H' -> Rep K F' v d -> Q v H'
 | .fr ds => ∀ p xs F' H', Ext F H F' H' -> H p = none -> F' p = none -> H' p = some (.lst xs) -> Reps K F' xs ds -> Q (.ref p) H'
 | .pr d ds => ∀ t v p xs F' H', Ext F H F' H' -> H t = none -> H p = none -> t ≠ p -> F' t = none -> F' p = none -> H' t = some (.tup [v, .ref p]) -> H' p = some (.lst xs) -> Rep K F' v d -> Reps K F' xs ds -> Q (.ref t) H'
def spR (K : W.Frag) (n : Nat) (m : MF) : Sp := fun vs H Q _ => vs.length = n /\ ∃ F ds r, Same F H /\ Reps K F vs ds /\ m ds = some r /\ okT K F H Q r
def v3 (n : Nat) (ds : List D) : Ro := ds.map (fun d => some (.sh d)) ++ List.replicate (n - ds.length) none
def runB (n : Nat) (m : MS) : MF := fun ds => match m (v3 n ds) with
 | some (.nx _) => some (.sh .non)
 | some (.rt d) => some (.sh d)
 | some (.rf es) => some (.fr es)
 | some (.rp d es) => some (.pr d es)
 | _ => none
theorem M5 {K : W.Frag} {F H : Hp} {N : List Str} {vs : List V} {ds : List D} (s : Same F H) (r : Reps K F vs ds) : Rl K F H F H (start N vs) (v3 N.length ds) := by
 have get : ∀ (i : Nat) x, (v3 N.length ds)[i]? = some (some x) -> ∃ d, x = S.sh d /\ ds[i]? = some d := fun i x e => by
  unfold v3 at e
  by_cases hi : i < ds.length
  ·rw [getElem?_append_left (by simpa using hi), getElem?_map] at e
   cases q : ds[i]? with
   | none => rw [q] at e; cases e
   | some d => rw [q] at e; cases e; exact ⟨d, rfl, rfl⟩
  ·rw [getElem?_append_right (by simpa using hi), getElem?_replicate] at e
   split at e <;> cases e
 refine ⟨.refl s, ?_, fun i d e => ?_, fun i ds e => ?_, fun i j p ds es _ e => ?_, fun i p ds e => ?_, fun i j p ds es e => ?_, fun i j p q ds es e => ?_⟩
 ·unfold start v3; simp [r.length]
 ·obtain ⟨d', e1, e2⟩ := get i _ e
  cases e1
  obtain ⟨v, e3, e4⟩ := r.get e2
  have hl : i < vs.length := (List.getElem?_eq_some_iff.mp e3).1
  refine ⟨v, ?_, e4⟩
  unfold start
  rw [getElem?_append_left (by simpa using hl), getElem?_map, e3]; rfl
 ·obtain ⟨d', e1, _⟩ := get i _ e
  cases e1
 ·obtain ⟨d', e1, _⟩ := get i _ e
  cases e1
 ·obtain ⟨d', e1, _⟩ := get i _ e
  cases e1
 ·obtain ⟨d', e1, _⟩ := get i _ e
  cases e1
 ·obtain ⟨d', e1, _⟩ := get i _ e
  cases e1
theorem Fun.okD {P : Program} {w : World} {K : W.Frag} {mg : Str -> Option Value} {base : Heap} {x qual : Str} {st : Stmt} {f : Addr} {fd : FuncData} {N ps : List Str} {k : Nat} {m : MS} (Fn : Fun K x qual st f fd) (Sc : FnScope N ps (y0 st))
  (hbody : ∀ (cdv : Value) (A : Around) (outer : List Env) (s : Shared) (H : Hp) (E : XK), Room k (A.deeper (envOfC qual (y0 st) s.heap.objs.size f cdv)) -> PSsd (cxOf CX0 P w K mg base N qual (y0 st) f cdv A outer s H E).nox (i7 st) m) :
  FnOk P w K mg base CX0 (k + 1) f fd ps (spR K ps.length (runB N.length m)) := by
 refine Fn.ok Sc (fun vs H Q E h => h.1) fun cdv A outer s H vs Q E hr h => ?_
 obtain ⟨hl, F, ds, r, sf, rs, e, ok⟩ := h
 unfold runB at e
 cases h1 : m (v3 N.length ds) with
 | none => rw [h1] at e; cases e
 | some o =>
  rw [h1] at e
  refine ⟨_, hbody cdv A outer s H E hr, F, H, F, v3 N.length ds, o, M5 sf rs, h1, ?_⟩
  cases o with
  | nx ρ => cases e; exact fun F' H' σ' rl _ => ok .non F' H' rl.ext .non
  | rt d => cases e; exact ok
  | rf es => cases e; exact ok
  | rp d es => cases e; exact ok
  | rg d p r => cases e
  | rgf d p r => cases e
  | bk ρ => cases e
  | ct ρ => cases e
@[irreducible] def u0 (f : MF) (m : ML) : ME := fun ρ => (m ρ).bind fun ds => match f ds with | some (.sh d) => some d | some (.fr es) => some (.lst es) | some (.pr d es) => some (.tup [d, .lst es]) | none => none
variable {E : XK} {es : List Expr} {mf : MF} {m : ML}
theorem w5 {n : Nat} (h : ∀ t, PA X es t -> PE X e (yz7 (spR X.K n mf) [] E t)) (hl : es.length = n) (ha : PAs X es m) (hm : ∀ ρ ds, m ρ = some ds -> ds.length = es.length) : PD X e (u0 mf m) := (h _ ha).imp fun σ H Q hpat => by
 obtain ⟨F0, H0, F, ρ, d, rl, e, q⟩ := hpat
 unfold u0 at e
 cases h1 : m ρ with
 | none => rw [h1] at e; cases e
 | some ds =>
  rw [h1] at e
  refine ⟨F0, H0, F, ρ, ds, rl, h1, fun vs F1 H1 x1 r1 => ?_⟩
  dsimp only [Option.bind] at e
  show spR X.K n mf (vs ++ []) H1 Q E
  rw [append_nil]
  refine ⟨by rw [r1.length, hm ρ ds h1, hl], F1, ds, ?_⟩
  split at e
  ·rename_i d' h2
   cases e
   exact ⟨_, x1.fh, r1, h2, fun v F2 H2 x2 r2 => q v F2 H2 (x1.trans x2) r2⟩
  ·rename_i es' h2
   cases e
   exact ⟨_, x1.fh, r1, h2, fun p xs F2 H2 x2 hp hF hH r2 => q _ (upd F2 p (.lst xs)) H2 (x1.trans (x2.freeze hF hp hH)) (.lst (SqL.of y6) (r2.mono ((Same.refl F2).put hF)))⟩
  ·rename_i d' es' h2
   cases e
   refine ⟨_, x1.fh, r1, h2, fun t v p xs F2 H2 x2 ht hp hne hFt hFp hHt hHp rv rs => ?_⟩
   have x3 := x2.freeze hFp hp hHp
   have hFt' : upd F2 p (.lst xs) t = none := by rw [y9 hne]; exact hFt
   have s2 : Same F2 (upd F2 p (.lst xs)) := (Same.refl F2).put hFp
   have s3 : Same (upd F2 p (.lst xs)) (upd (upd F2 p (.lst xs)) t (.tup [v, .ref p])) := (Same.refl _).put hFt'
   exact q _ (upd (upd F2 p (.lst xs)) t (.tup [v, .ref p])) H2 (x1.trans (x3.freeze hFt' ht hHt)) (.tup (SqT.of y6) (.cons (rv.mono (s2.trans s3)) (.cons (.lst (SqL.of (by rw [y9 (Ne.symm hne)]; exact y6)) (rs.mono (s2.trans s3))) .nil)))
  ·cases e
theorem ze8 (ρ : Ro) (ds : List D) (h : anil ρ = some ds) : ds.length = 0 := by cases h; rfl
theorem P1 {x : ME} {r : ML} {n : Nat} (hr : ∀ ρ ds, r ρ = some ds -> ds.length = n) (ρ : Ro) (ds : List D) (h : z8 x r ρ = some ds) : ds.length = n + 1 := by
 obtain ⟨d, es, _, h2, rfl⟩ := B7 h
 rw [length_cons, hr ρ es h2]
end
end
section
section
variable {X : Cx} {a b c e : Expr} {ma mb : ME} {pos : Pos}
def xd4 : List V -> Hp -> VK -> Prop := fun vs H Q => ∃ j : Int, vs = [.int j] /\ ∀ p, H p = none -> Q (.ref p) (upd H p (.rng 0 j))
theorem zq5 : zp7 X (.type "range") xd4 := by
 intro pins s σ H xs us Q I r h
 obtain ⟨j, rfl, q⟩ := h
 obtain ⟨u, rfl, t, rfl⟩ := R3 r
 refine call_range_1 ⟨.ref s.heap.objs.size, _, I.laid (o := .rng 0 j) (fun b o e => Heap.get?_push_of_some _ e) (Nat.le_refl _) ⟨_, _, _, Heap.get?_push_size _ rfl⟩, rfl, q _ I.fresh⟩
def T2 (lo : Int) (n : Nat) : List V := (List.range n).map fun (i : Nat) => V.int (lo + (i : Int))
theorem xe5 : 2 ^ 24 <= sizeLine := by rw [sizeLine_eq]; decide
def xn0 : List V -> Hp -> VK -> Prop := fun vs H Q => ∃ p lo hi, vs = [.ref p] /\ H p = some (.rng lo hi) /\ -(2 ^ 62) <= lo /\ lo < 2 ^ 62 /\ -(2 ^ 62) <= hi /\ hi < 2 ^ 62 /\ (hi - lo).toNat <= 2 ^ 24 /\ ∀ l, H l = none -> Q (.ref l) (upd H l (.lst (T2 lo (hi - lo).toNat)))
theorem zd2 {lo : Int} {n : Nat} {acc : Array Value} (h : ItemsOf (fun i v => ∃ t, v = Value.int (lo + i * 1) t) acc n) : Vals (T2 lo n) acc.toList := by
 have hl : (T2 lo n).length = acc.toList.length := by unfold T2; simp [h.1]
 have key : ∀ (xs : List V) (us : List Value), xs.length = us.length -> (∀ (i : Nat) x u, xs[i]? = some x -> us[i]? = some u -> RelV x u) -> Vals xs us := by
  intro xs
  induction xs with
  | nil => intro us hl _; cases us with
   | nil => exact .nil
   | cons => cases hl
  | cons x xs ih => intro us hl hr; cases us with
   | nil => cases hl
   | cons u us => exact .cons (hr 0 x u rfl rfl) (ih us (by simpa using hl) fun i y w h1 h2 => hr (i + 1) y w (by simpa using h1) (by simpa using h2))
 refine key _ _ hl fun i x u h1 h2 => ?_
 have h2 : acc[i]? = some u := by simpa using h2
 obtain ⟨t, rfl⟩ := h.2 i u h2
 have hi : i < n := by
  have := (Array.getElem?_eq_some_iff.mp h2).1
  rw [h.1] at this; exact this
 unfold T2 at h1
 rw [getElem?_map, getElem?_range hi] at h1
 cases h1
 exact ⟨t, by rw [Int.mul_one]⟩
theorem zb7 (hc : X.calm = true) : zp7 X (.type "list") xn0 := by
 intro pins s σ H xs us Q I r h
 obtain ⟨p, lo, hi, rfl, hp, b1, b2, b3, b4, hn, q⟩ := h
 obtain ⟨u, rfl, rx⟩ := R3 r
 cases rx
 obtain ⟨t, u, v, e⟩ := I.hok p _ hp
 have hsz : Builtin.Range.rangeSize lo hi 1 = (((hi - lo).toNat : Nat) : Int) := by rw [rangeSize_one]; split <;> omega
 refine call_list_range (I.ok.hd hc) e (small_one b1 b2 b3 b4) hsz hn fun h' tk acc' c' hk hS' hacc => ?_
 refine ⟨.ref s.heap.objs.size, _, I.laid (t' := tk) (o := .lst (T2 lo (hi - lo).toNat)) hk (Nat.le_refl _) ⟨?_, acc'.toList, c', zd2 hacc, by simpa using hS'⟩, rfl, q _ I.fresh⟩
 unfold T2
 rw [length_map, length_range]
 exact Nat.le_trans hn xe5
theorem zd7 {K : W.Frag} {F : Hp} (lo : Int) (n : Nat) : Reps K F (T2 lo n) (a7 lo n) := by
 unfold T2 a7
 induction (List.range n) with
 | nil => exact .nil
 | cons i is ih => exact .cons (.int _) ih
def ys5 : List D -> Option (List D)
 | [.int j] => if (okR j && decide (j.toNat <= 2 ^ 24)) = true then some (a7 0 j.toNat) else none
 | _ => none
theorem yw7 {pl pr : Pos} {pos' : Pos} {m : ML} (hc : X.calm = true) (hg : Gl X "list") (hm : X.mg "list" = none) (hg' : Gl X "range") (hm' : X.mg "range" = none) (ha : PAs X [a] m)
  (he : starEach [a] X.env = (false, eval a X.env) :: starEach [] X.env := by rfl) (hpl : ∀ pos, (backTo pos (starEach [] X.env)).any (·.1) = false := by intro _; rfl)
  (hs : starEach (Expr.Call (.Name "range" pr) [a] [] pos' :: []) X.env = (false, eval (Expr.Call (.Name "range" pr) [a] [] pos') X.env) :: starEach [] X.env := by rfl) : PF X (.Call (.Name "list" pl) [.Call (.Name "range" pr) [a] [] pos'] [] pos) (r6 ys5 m) :=
 (Q0 (zb7 hc) hg hm PyProof.Rows.boot_list (k6 (Q0 zq5 hg' hm' boot_range ha (by decide) (by decide) he (hpl _)) pa_nil hs) (by decide) (by decide) hs (hpl _)).imp fun σ H Q hpat => by
 obtain ⟨F0, H0, F, ρ, its, rl, e, q⟩ := hpat
 obtain ⟨ds, h1, h2⟩ := b9 e
 refine ⟨F0, H0, F, ρ, ds, rl, h1, fun vs F1 H1 x1 r1 => ?_⟩
 unfold ys5 at h2
 split at h2
 ·rename_i j
  split at h2
  ·rename_i hk
   cases h2
   unfold okR at hk
   simp only [Bool.and_eq_true, decide_eq_true_eq] at hk
   cases r1 with
   | cons r rr =>
    cases rr; cases r
    refine ⟨j, rfl, fun p hp => ⟨p, 0, j, rfl, y6, by decide, by decide, hk.1.1, hk.1.2, by simpa using hk.2, fun l hl => ?_⟩⟩
    have x2 : Ext F1 H1 F1 (upd H1 p (.rng 0 j)) := Ext.own x1.fh hp
    have x3 := Ext.own (o := .lst (T2 0 (j - 0).toNat)) x2.fh hl
    have xx := (x1.trans x2).trans x3
    have hj : (j - 0).toNat = j.toNat := by simp
    refine q l _ F1 _ xx ((x1.trans x2).hh.free hl) (x2.fh.free hl) y6 ?_
    rw [hj]
    exact zd7 0 j.toNat
  ·cases h2
 ·cases h2
theorem zv7 {K : W.Frag} {F : Hp} : ∀ ns : List Int, Reps K F (ns.map V.int) (ns.map D.int)
 | [] => .nil
 | n :: ns => .cons (.int n) (zv7 ns)
theorem xo1 {K : W.Frag} {m : MF} (h : ∀ ns : List Int, ns.length <= 63 -> m [.lst (ns.map .int)] = some (.sh (.bl true))) (H : Hp) (a : Addr) (ns : List Int) (hl : ns.length <= 63) (hS : SqL K H a (ns.map V.int)) (E : XK) :
  spR K 1 m [.ref a] H (fun v _ => v = .bl true) E :=
 ⟨rfl, H, _, _, Same.refl H, .cons (.lst hS (zv7 ns)) .nil, h ns hl, fun v F' H' _ r => by cases r; rfl⟩
end
end
section
def xg4 (fsc : Scope) (fN : List Str) (sc : Scope) (N : List Str) (src : List (Option Nat)) : Bool :=
 (sc.kind == .function) && sc.names.all (fun y => y.2 != .cell) && sc.names.all (fun y => y.2 != .local || sc.names.lookup y.1 == some .local)
  && sc.names.all (fun y => y.2 != .free || (fsc.names.lookup y.1 == some .cell || fsc.names.lookup y.1 == some .free)) && (src.length == N.length)
  && (List.range src.length).all fun j => match src[j]? with
   | some (some i) => match N[j]? with
    | some x => fN[i]? == some x && sc.names.lookup x == some .free
    | none => false
   | _ => true
theorem T7 {X : Cx} {sc : Scope} {N : List Str} {src : List (Option Nat)} (fsc : Scope) (fN : List Str) (h1 : X.env.scope = fsc) (h2 : X.N = fN) (h : xg4 fsc fN sc N src = true) : Blk X sc N src := by
 unfold xg4 at h
 simp only [Bool.and_eq_true, all_eq_true, beq_iff_eq, Bool.or_eq_true, bne_iff_ne, ne_eq] at h
 obtain ⟨⟨⟨⟨⟨a1, a2⟩, a3⟩, a4⟩, a5⟩, a6⟩ := h
 refine ⟨a1, a2, fun y hy hk => ?_, fun y hy hk => ?_, fun j i e => ?_, a5⟩
 ·rcases a3 y hy with z | z
  ·exact absurd hk z
  ·exact z
 ·have k : ∀ x, X.env.kindOf x = fsc.names.lookup x := fun x => by rw [<- h1]; rfl
  rw [k]
  rcases a4 y hy with z | z
  ·exact absurd hk z
  ·exact z
 ·have hj : j < src.length := (List.getElem?_eq_some_iff.mp e).1
  have := a6 j (List.mem_range.mpr hj)
  rw [e] at this
  simp only at this
  cases hx : N[j]? with
  | none => rw [hx] at this; cases this
  | some x =>
   rw [hx] at this
   simp only [Bool.and_eq_true, beq_iff_eq] at this
   exact ⟨x, rfl, by rw [h2]; exact this.1, this.2⟩
end
section
theorem xy2 {X : Cx} {a : Expr} {ml : ML} {lo hi : Option Expr} {l h : MO} {p2 pos : Pos} (ha : PB X a ml) (hl : POs X lo l) (hh : POs X hi h) : PF X (.Subscript a (.Slice lo hi none p2) pos) (mcut ml l h) := xn7 ha hl hh (yk2 yc7 ha hl hh)
end
section
def zipE (f : D -> D -> Option Bool) : List D -> List D -> Option Bool
 | d :: ds, e :: es => (f d e).bind fun a => (zipE f ds es).bind fun b => some (a && b)
 | _, _ => some true
def eqF : Nat -> D -> D -> Option Bool
 | 0, _, _ => none
 | n + 1, .lst ds, .lst es => if ds.length = es.length then zipE (eqF n) ds es else some false
 | n + 1, .tup ds, .tup es => (zipE (eqF n) ds es).map fun b => b && ds.length == es.length
 | _ + 1, d, e => eqS d e
theorem A0 {f : D -> D -> Option Bool} : ∀ {ds es : List D} {k : Bool}, zipE f ds es = some k -> ∃ g : Nat -> Bool, (∀ j d e, ds[j]? = some d -> es[j]? = some e -> f d e = some (g j)) /\ k = (List.range (min ds.length es.length)).all g
 | [], es, k, h => by
  have h : some true = some k := by simpa [zipE] using h
  cases h
  exact ⟨fun _ => true, by simp, by simp⟩
 | _ :: _, [], k, h => by
  have h : some true = some k := by simpa [zipE] using h
  cases h
  exact ⟨fun _ => true, by simp, by simp⟩
 | d :: ds, e :: es, k, h => by
  unfold zipE at h
  cases h1 : f d e with
  | none => rw [h1] at h; cases h
  | some a =>
   rw [h1] at h
   cases h2 : zipE f ds es with
   | none => rw [h2] at h; cases h
   | some b =>
    rw [h2] at h
    have h : some (a && b) = some k := h
    cases h
    obtain ⟨g, q1, q2⟩ := A0 h2
    refine ⟨fun j => match j with | 0 => a | j + 1 => g j, ?_, ?_⟩
    ·intro j d' e' hd he
     cases j with
     | zero => simp at hd he; subst hd he; exact h1
     | succ j => exact q1 j d' e' (by simpa using hd) (by simpa using he)
    ·rw [q2, length_cons, length_cons, Nat.add_min_add_right, range_succ_eq_map, all_cons, all_map]
     rfl
section
variable {X : Cx} {pins : List (Addr × Obj)} {σ : St} {H : Hp} {s : Shared}
theorem K0 {f : D -> D -> Option Bool} (hf : ∀ {v : V} {d e : D} {k : Bool}, Rep X.K H v d -> Rep X.K H v e -> f d e = some k -> k = true) : ∀ {vs : List V} {ds es : List D} {k : Bool}, Reps X.K H vs ds -> Reps X.K H vs es -> zipE f ds es = some k -> k = true
 | _, _, _, _, .nil, .nil, h => by simp [zipE] at h; exact h
 | _ :: _, d :: ds, e :: es, k, .cons r1 s1, .cons r2 s2, h => by
  unfold zipE at h
  cases h1 : f d e with
  | none => rw [h1] at h; cases h
  | some a =>
   rw [h1] at h
   cases h2 : zipE f ds es with
   | none => rw [h2] at h; cases h
   | some b =>
    rw [h2] at h
    have h : some (a && b) = some k := h
    cases h
    rw [hf r1 r2 h1, K0 hf s1 s2 h2]; rfl
theorem Rep.eqT (I : Inv X pins σ H s) : ∀ (n : Nat) {v : V} {d e : D} {k : Bool}, Rep X.K H v d -> Rep X.K H v e -> eqF n d e = some k -> k = true
 | 0, _, _, _, _, _, _, h => by simp [eqF] at h
 | n + 1, v, d, e, k, r1, r2, h => by
  cases r1 with
  | non => cases r2; simp [eqF, eqS] at h; exact h
  | bl b => cases r2; simp [eqF, eqS] at h; exact h
  | int b => cases r2; simp [eqF, eqS] at h; exact h
  | str b => cases r2; simp [eqF, eqS] at h; exact h
  | lst sq rs =>
   cases r2 with
   | lst sq2 rs2 =>
    have e := I.list_inj sq sq2
    subst e
    simp only [eqF] at h
    split at h
    ·exact K0 (fun a b c => Rep.eqT I n a b c) rs rs2 h
    ·rename_i hl; exact absurd (rs.length.symm.trans rs2.length) hl
   | _ => cases h
  | tup sq rs =>
   cases r2 with
   | tup sq2 rs2 =>
    have e := I.tuple_inj sq sq2
    subst e
    simp only [eqF] at h
    cases hz : zipE (eqF n) _ _ with
    | none => rw [hz] at h; cases h
    | some kk =>
     rw [hz] at h
     have h := Option.some.inj h
     rw [<- h, K0 (fun a b c => Rep.eqT I n a b c) rs rs2 hz, rs.length.symm.trans rs2.length]
     simp
   | _ => cases h
  | _ => cases h
open PySem.SeqAt in
theorem xh9 {K : W.Frag} {H : Hp} {A : Around} {s : Shared} {x y : V} {v u : Value} {d e : D} {k : Bool} (r1 : Rep K H x d) (r2 : Rep K H y e) (q1 : RelV x v) (q2 : RelV y u) (h : eqS d e = some k) : EqAt A s v u k /\ RcAt A s v u k /\ RcNeAt A s v u (!k) := by
 obtain ⟨k', hk'⟩ := zk6 d e k h
 rw [zb5 h r1] at q1
 rw [zb5 hk' r2] at q2
 clear r1 r2 hk'
 cases d with
 | non =>
  cases q1
  cases e with
  | non => cases q2; cases h; exact ⟨EqAt.same _, .none_none, .none_none⟩
  | bl b => cases q2; cases h; exact ⟨.none_bool _, .none_bool _, .none_bool _⟩
  | int b => obtain ⟨t, rfl⟩ := q2; cases h; exact ⟨.none_int _ _, .none_int _ _, .none_int _ _⟩
  | str b => obtain ⟨t, rfl⟩ := q2; cases h; exact ⟨.none_str _ _, .none_str _ _, .none_str _ _⟩
  | _ => cases h
 | bl i =>
  cases q1
  cases e with
  | non => cases q2; cases h; exact ⟨.bool_none _, .bool_none _, .bool_none _⟩
  | bl b => cases q2; cases h; exact ⟨.bool_bool _ _, .bool_bool _ _, .bool_bool _ _⟩
  | str b => obtain ⟨t, rfl⟩ := q2; cases h; exact ⟨.bool_str _ _ _, .bool_str _ _ _, .bool_str _ _ _⟩
  | _ => cases h
 | int i =>
  obtain ⟨t0, rfl⟩ := q1
  cases e with
  | non => cases q2; cases h; exact ⟨.int_none _ _, .int_none _ _, .int_none _ _⟩
  | int b => obtain ⟨t, rfl⟩ := q2; cases h; exact ⟨.int_int _ _ _ _, .int_int _ _ _ _, .int_int _ _ _ _⟩
  | str b => obtain ⟨t, rfl⟩ := q2; cases h; exact ⟨.int_str _ _ _ _, .int_str _ _ _ _, .int_str _ _ _ _⟩
  | _ => cases h
 | str i =>
  obtain ⟨t0, rfl⟩ := q1
  cases e with
  | non => cases q2; cases h; exact ⟨.str_none _ _, .str_none _ _, .str_none _ _⟩
  | bl b => cases q2; cases h; exact ⟨.str_bool _ _ _, .str_bool _ _ _, .str_bool _ _ _⟩
  | int b => obtain ⟨t, rfl⟩ := q2; cases h; exact ⟨.str_int _ _ _ _, .str_int _ _ _ _, .str_int _ _ _ _⟩
  | str b => obtain ⟨t, rfl⟩ := q2; cases h; exact ⟨.str_str _ _ _ _, .str_str _ _ _ _, .str_str _ _ _ _⟩
  | _ => cases h
 | _ => cases h
theorem xu9 {n : Nat} {d e : D} {k : Bool} (h : eqF (n + 1) d e = some k) : eqS d e = some k \/ (∃ ds es, d = .lst ds /\ e = .lst es /\ (if ds.length = es.length then zipE (eqF n) ds es else some false) = some k) \/ ∃ ds es kk, d = .tup ds /\ e = .tup es /\ zipE (eqF n) ds es = some kk /\ (kk && ds.length == es.length) = k := by
 cases d with
 | lst ds =>
  cases e with
  | lst es => exact .inr (.inl ⟨ds, es, rfl, rfl, h⟩)
  | _ => exact .inl h
 | tup ds =>
  cases e with
  | tup es =>
   have h : ((zipE (eqF n) ds es).map fun b => b && ds.length == es.length) = some k := h
   cases hz : zipE (eqF n) ds es with
   | none => rw [hz] at h; cases h
   | some kk => rw [hz] at h; exact .inr (.inr ⟨ds, es, kk, rfl, rfl, hz, Option.some.inj h⟩)
  | _ => exact .inl h
 | _ => exact .inl h
theorem zg8 {K : W.Frag} {H : Hp} {A : Around} {s : Shared} {n : Nat} {xs ys : List V} {ds es : List D} {its its2 : List Value} {g : Nat -> Bool} (ih : ∀ {x y : V} {v u : Value} {d e : D} {k : Bool}, Rep K H x d -> Rep K H y e -> RelV x v -> RelV y u -> eqF n d e = some k -> PySem.SeqAt.EqAt A s v u k) (rs : Reps K H xs ds) (rs2 : Reps K H ys es) (vr : Vals xs its) (vr2 : Vals ys its2)
  (g1 : ∀ (j : Nat) d e, ds[j]? = some d -> es[j]? = some e -> eqF n d e = some (g j)) (j : Nat) (h1 : j < its.toArray.size) (h2 : j < its2.toArray.size) : PySem.SeqAt.EqAt A s its.toArray[j] its2.toArray[j] (g j) := by
 have z1 : its.length = ds.length := by rw [<- vr.length, rs.length]
 have z2 : its2.length = es.length := by rw [<- vr2.length, rs2.length]
 simp only [size_toArray] at h1 h2
 obtain ⟨d', hd'⟩ : ∃ d', ds[j]? = some d' := ⟨_, getElem?_eq_getElem (z1 ▸ h1)⟩
 obtain ⟨e', he'⟩ : ∃ e', es[j]? = some e' := ⟨_, getElem?_eq_getElem (z2 ▸ h2)⟩
 obtain ⟨v', hv', rv'⟩ := rs.get hd'
 obtain ⟨u', hu', ru'⟩ := rs2.get he'
 obtain ⟨p, hp, rp⟩ := vr.get hv'
 obtain ⟨p2, hp2, rp2⟩ := vr2.get hu'
 have e1 : its.toArray[j] = p := by
  rw [getElem?_eq_getElem h1] at hp
  simpa using hp
 have e2 : its2.toArray[j] = p2 := by
  rw [getElem?_eq_getElem h2] at hp2
  simpa using hp2
 rw [e1, e2]
 exact ih rv' ru' rp rp2 (g1 j d' e' hd' he')
open PySem.SeqAt in
theorem yg1 (I : Inv X pins σ H s) : ∀ (n : Nat) {A : Around} {x y : V} {v u : Value} {d e : D} {k : Bool}, A.units + n < cLine -> Rep X.K H x d -> Rep X.K H y e -> RelV x v -> RelV y u -> eqF n d e = some k -> EqAt A s v u k /\ RcAt A s v u k /\ RcNeAt A s v u (!k)
 | 0, A, x, y, v, u, d, e, k, hu, r1, r2, q1, q2, h => by simp [eqF] at h
 | n + 1, A, x, y, v, u, d, e, k, hu, r1, r2, q1, q2, h => by
  have hu0 : A.units < cLine := by omega
  have hu1 : A.in1.units + n < cLine := by show A.units + 1 + n < cLine; omega
  rcases xu9 h with h1 | ⟨ds, es, rfl, rfl, h1⟩ | ⟨ds, es, kk, rfl, rfl, hz, hk⟩
  ·exact xh9 r1 r2 q1 q2 h1
  ·obtain ⟨a, xs, rfl, sq, rs⟩ := r1.l'
   obtain ⟨b, ys, rfl, sq2, rs2⟩ := r2.l'
   cases q1; cases q2
   obtain ⟨its, vr, ⟨o, m, ho, hc, _, hd⟩, _⟩ := I.list sq
   obtain ⟨its2, vr2, ⟨o2, m2, ho2, hc2, _, hd2⟩, _⟩ := I.list sq2
   have L1 : s.heap.IsList a its.toArray := ⟨o, ho, hc, m, hd⟩
   have L2 : s.heap.IsList b its2.toArray := ⟨o2, ho2, hc2, m2, hd2⟩
   clear ho hc hd ho2 hc2 hd2
   have z1 : its.length = ds.length := by rw [<- vr.length, rs.length]
   have z2 : its2.length = es.length := by rw [<- vr2.length, rs2.length]
   have main : RcAt A s (.ref a) (.ref b) k /\ RcNeAt A s (.ref a) (.ref b) (!k) := by
    by_cases hl : ds.length = es.length
    ·rw [if_pos hl] at h1
     obtain ⟨g, g1, g2⟩ := A0 h1
     have he := zg8 (fun a b c d e => (yg1 I n hu1 a b c d e).1) rs rs2 vr vr2 g1
     have hz : its.toArray.size = its2.toArray.size := by simp only [size_toArray]; rw [z1, z2, hl]
     have hk : k = (List.range its.toArray.size).all g := by
      rw [g2]; simp only [size_toArray]; rw [z1, hl, Nat.min_self]
     rw [hk]
     exact ⟨.lists L1 L2 hz hu0 he, .lists L1 L2 hz hu0 he⟩
    ·rw [if_neg hl] at h1
     cases h1
     have hz : (its.toArray.size != its2.toArray.size) = true := by simp only [size_toArray]; rw [z1, z2]; exact bne_iff_ne.mpr hl
     exact ⟨.lists_lengths L1 L2 hz hu0, .lists_lengths L1 L2 hz hu0⟩
   refine ⟨?_, main⟩
   by_cases hab : a = b
   ·subst hab
    rw [Rep.eqT I (n + 1) (.lst sq rs) (.lst sq2 rs2) h]
    exact EqAt.same _
   ·exact .of_refs hab main.1
  ·obtain ⟨a, xs, rfl, sq, rs⟩ := r1.t'
   obtain ⟨b, ys, rfl, sq2, rs2⟩ := r2.t'
   cases q1; cases q2
   obtain ⟨its, vr, ⟨o, ho, hc, m, hd⟩, _⟩ := I.tuple sq
   obtain ⟨its2, vr2, ⟨o2, ho2, hc2, m2, hd2⟩, _⟩ := I.tuple sq2
   have L1 : s.heap.IsTuple a its.toArray := ⟨o, ho, hc, m, hd⟩
   have L2 : s.heap.IsTuple b its2.toArray := ⟨o2, ho2, hc2, m2, hd2⟩
   clear ho hc hd ho2 hc2 hd2
   have z1 : its.length = ds.length := by rw [<- vr.length, rs.length]
   have z2 : its2.length = es.length := by rw [<- vr2.length, rs2.length]
   have main : RcAt A s (.ref a) (.ref b) k /\ RcNeAt A s (.ref a) (.ref b) (!k) := by
    obtain ⟨g, g1, g2⟩ := A0 hz
    have he := zg8 (fun a b c d e => (yg1 I n hu1 a b c d e).1) rs rs2 vr vr2 g1
    have hk : k = ((List.range (min its.toArray.size its2.toArray.size)).all g && its.toArray.size == its2.toArray.size) := by
     rw [<- hk, g2]; simp only [size_toArray]; rw [z1, z2]
    rw [hk]
    exact ⟨.tuples L1 L2 hu0 he, .tuples L1 L2 hu0 he⟩
   refine ⟨?_, main⟩
   by_cases hab : a = b
   ·subst hab
    rw [Rep.eqT I (n + 1) (.tup sq rs) (.tup sq2 rs2) h]
    exact EqAt.same _
   ·exact .of_refs hab main.1
end
end
section
section
variable {X : Cx} {a b c e : Expr} {ma mb : ME} {la lb : ML} {pos : Pos}
def rEqF (K : W.Frag) (neg : Bool) : R2 := fun x y H Q => ∃ d e k, Rep K H x d /\ Rep K H y e /\ eqF 8 d e = some k /\ Q (.bl (if neg then !k else k)) H
theorem xm6 (hu : X.A.units + 64 < cLine) : OpR X (compareOp .NotEq) (rEqF X.K true) := by
 intro pins s σ H x y v u Q I rx ry h
 obtain ⟨d, e, k, r1, r2, h, q⟩ := h
 exact (yg1 I 8 (by omega) r1 r2 rx ry h).2.2 X.prog X.w _ _ ⟨.bl (!k), H, I, rfl, q⟩
def eqFD (neg : Bool) (d e : D) : Option D := (eqF 8 d e).map fun k => .bl (if neg then !k else k)
@[irreducible] def meqB (neg : Bool) (x y : ML) : ME := fun ρ => (x ρ).bind fun ds => (y ρ).bind fun es => eqFD neg (.lst ds) (.lst es)
theorem xa2 {neg : Bool} {σ : St} {H : Hp} {Q : VK} (h : TD X.K (meqB neg la lb) σ H Q) : tOp (rEqF X.K neg) (TB X.K la) (TB X.K lb) σ H Q := by
 obtain ⟨F0, H0, F, ρ, g, rl, e, q⟩ := h
 unfold meqB at e
 cases h1 : la ρ with
 | none => rw [h1] at e; cases e
 | some ds =>
  cases h2 : lb ρ with
  | none => rw [h1, h2] at e; cases e
  | some es =>
   rw [h1, h2] at e
   have e : eqFD neg (.lst ds) (.lst es) = some g := e
   refine ⟨F0, H0, F, ρ, ds, rl, h1, fun p xs F1 H1 x1 s1 r1 => ⟨F0, H0, F1, ρ, es, rl.go x1, h2, fun p2 xs2 F2 H2 x2 s2 r2 => ?_⟩⟩
   unfold eqFD at e
   cases hk : eqF 8 (.lst ds) (.lst es) with
   | none => rw [hk] at e; cases e
   | some k =>
    rw [hk] at e; cases e
    exact ⟨_, _, k, .lst (x2.hh.seq s1) (r1.mono (x2.ff.trans x2.fh)), .lst s2 (r2.mono x2.fh), hk, q _ F2 H2 (x1.trans x2) (.bl _)⟩
theorem xm2 {op : CmpOp} {neg : Bool} (ho : OpR X (compareOp op) (rEqF X.K neg)) (ha : PB X a la) (hb : PB X b lb) (hm : behindInMarks op b = false) : PC' X (.Compare a [op] [b] pos) (v7 (meqB neg la lb)) := (zo4 ho ha hb hm).imp fun σ H Q hpat => by
 obtain ⟨F0, H0, F, ρ, g, rl, e, q⟩ := hpat
 unfold v7 at e
 split at e
 ·rename_i k hk
  cases e
  refine xa2 ⟨F0, H0, F, ρ, .bl g, rl, hk, fun v F' H' x r => ?_⟩
  cases r
  exact ⟨_, rfl, q F' H' x⟩
 ·cases e
end
end
section
section
variable {X : Cx} {a b c e k : Expr} {te : TE} {ma mb : ME} {la lb : ML} {pos p2 : Pos} {st : Stmt}
end
end
section
section
variable {X : Cx} {a b c e : Expr} {ma mb : ME} {la lb : ML} {pos : Pos} {st : Stmt}
def gLst (K : W.Frag) (n : Nat) (t : TGs) : TG := fun v σ H Q => ∃ a xs, v = .ref a /\ SqL K H a xs /\ xs.length = n /\ t xs σ H Q
theorem yw6 {es : List Expr} {k : Nat} {t : TGs} {n : Nat} (hc : X.calm = true) (h : PGs X es t)
  (hn : (assignEach es X.env).length = n := by rfl) (hst : (assignEach es X.env).findIdx? (·.1) = none := by rfl) : PG X (.Tuple es k pos) (gLst X.K n t) := by
 intro pins s σ H v u Q I r hw
 obtain ⟨a, xs, e1, hq, hl, hw⟩ := hw
 subst e1
 cases r
 obtain ⟨its, rv, ht, hz⟩ := I.list hq
 have hsz : its.toArray.size = n := by rw [size_toArray, <- rv.length, hl]
 rw [arm_assign_Tuple]
 refine wpAny_bind (wpAny_standAt ?_)
 unfold unpack
 rw [hst, show (assignEach es X.env).length = its.toArray.size by rw [hn, hsz]]
 refine wpAny_bind (wpAny_holding (W.kun_itemsOf (I.ok.hd hc) ht.isList fun h' hx => ?_))
 have I1 : Inv X pins σ H { s with heap := h' } := I.kept (t' := s.toks) fun b o e => hx b o (Nat.ne_of_lt (Heap.lt_size e)) e
 exact h pins _ σ H xs _ Q I1 (by simpa using rv) hw
end
end
section
section
variable {K : W.Frag} {F0 H0 F H : Hp} {σ : St} {ρ : Ro}
end
def isSc : D -> Bool
 | .lst _ => false
 | .tup _ => false
 | .exc _ => false
 | .ptr _ => false
 | .obj _ _ _ => false
 | _ => true
theorem xo4 {K : W.Frag} {F G : Hp} {v : V} {d : D} (h : isSc d = true) (r : Rep K F v d) : Rep K G v d := by
 cases r with
 | non => exact .non
 | bl b => exact .bl b
 | int i => exact .int i
 | str x => exact .str x
 | lst _ _ => cases h
 | tup _ _ => cases h
 | exc _ _ => cases h
 | ptr _ => cases h
 | obj _ _ _ _ _ => cases h
end
section
section
variable {X : Cx} {a b c e : Expr} {ma mb mz : ME} {la lb : ML} {pos : Pos}
def isND (neg : Bool) : D -> D -> Option D
 | .non, .non => some (.bl (!neg))
 | _, .non => some (.bl neg)
 | _, _ => none
theorem xx7 {K : W.Frag} : OpD K (fun x y H Q => y = .non /\ Q (.bl (decide (x = .non))) H) (isND false) := by
 intro F H x y d e w Q s r1 r2 h q
 cases r2 with
 | non => cases r1 <;> cases h <;> exact ⟨rfl, q _ F H (.refl s) (.bl _)⟩
 | _ => cases d <;> cases h
def maxI : List Int -> Int
 | [] => 0
 | a :: r => r.foldl (fun x y => if y > x then y else x) a
theorem zk3 : ∀ (r : List Int) (a : Int), (r.foldl (fun x y => if y > x then y else x) a ∈ a :: r) /\ ∀ y ∈ a :: r, y <= r.foldl (fun x y => if y > x then y else x) a
 | [], a => ⟨by simp, fun y hy => by simp at hy; subst hy; exact Int.le_refl _⟩
 | b :: r, a => by
  obtain ⟨h1, h2⟩ := zk3 r (if b > a then b else a)
  rw [foldl_cons]
  refine ⟨?_, fun y hy => ?_⟩
  ·rcases List.mem_cons.mp h1 with h | h
   ·rw [h]; split <;> simp
   ·exact mem_cons_of_mem _ (mem_cons_of_mem _ h)
  ·have h0 := h2 _ mem_cons_self
   rcases List.mem_cons.mp hy with h | h
   ·subst h; refine Int.le_trans ?_ h0; split <;> omega
   ·rcases List.mem_cons.mp h with h | h
    ·subst h; refine Int.le_trans ?_ h0; split <;> omega
    ·exact h2 y (mem_cons_of_mem _ h)
theorem zg5 {ns : List Int} (h : ns ≠ []) : maxI ns ∈ ns := by
 cases ns with
 | nil => exact absurd rfl h
 | cons a r => exact (zk3 r a).1
theorem xv0 {ns : List Int} {y : Int} (h : y ∈ ns) : y <= maxI ns := by
 cases ns with
 | nil => cases h
 | cons a r => exact (zk3 r a).2 y h
theorem R1 : ∀ {ns : List Int} {its : List Value}, Vals (ns.map V.int) its -> ∃ xs : List (Int × Tok), its.toArray = intItems xs.toArray /\ xs.map (·.1) = ns
 | [], _, .nil => ⟨[], by unfold intItems; simp, rfl⟩
 | n :: ns, _, .cons r t => by
  obtain ⟨k, rfl⟩ := r
  obtain ⟨xs, h1, h2⟩ := R1 t
  refine ⟨(n, k) :: xs, ?_, by rw [map_cons, h2]⟩
  have := congrArg Array.toList h1
  unfold intItems at this ⊢
  simp at this ⊢
  exact this
theorem zt6 (xs : List (Int × Tok)) {i : Nat} (h : i < xs.length) : numAt xs.toArray i = (xs[i]).1 := by
 unfold numAt
 simp [h]
def xd5 (K : W.Frag) : List V -> Hp -> VK -> Prop := fun vs H Q => ∃ p ns, vs = [.ref p] /\ SqL K H p (ns.map V.int) /\ ns ≠ [] /\ Q (.int (maxI ns)) H
theorem yp3 (hc : X.calm = true) : zp7 X (.builtin "max") (xd5 X.K) := by
 intro pins s σ H xs us Q I r h
 obtain ⟨p, ns, rfl, sq, hne, q⟩ := h
 obtain ⟨u, rfl, rx⟩ := R3 r
 cases rx
 obtain ⟨its, vr, pl, hz⟩ := I.list sq
 obtain ⟨ts, h1, h2⟩ := R1 vr
 have hp := pl.isList
 rw [h1] at hp
 have hlen : 0 < ts.length := by
  cases ts with
  | nil => simp at h2; exact absurd h2.symm (by simpa using hne)
  | cons _ _ => simp
 refine max_intList (I.ok.hd hc) hp (by simpa using hlen) fun v h' tk e k => ?_
 obtain ⟨b1, b2⟩ := argBest_gt (numAt ts.toArray) (ts.toArray.size - 1)
 rw [size_toArray] at b1 b2 e
 generalize hi : argBest (fun i j => decide (numAt ts.toArray i > numAt ts.toArray j)) (ts.length - 1) = i at b1 b2 e
 have hil : i < ts.length := by omega
 have hv : v = Value.int (ts[i]).1 (ts[i]).2 := by
  unfold intItems at e
  simp [hil] at e
  exact e.symm
 have hm : (ts[i]).1 = maxI ns := by
  have m1 : (ts[i]).1 ∈ ns := by rw [<- h2]; exact mem_map_of_mem (getElem_mem hil)
  refine Int.le_antisymm (xv0 m1) ?_
  have m2 := zg5 hne
  rw [<- h2] at m2
  obtain ⟨t, ht, e2⟩ := List.mem_map.mp m2
  obtain ⟨j, hj, e3⟩ := getElem_of_mem ht
  have := b2 j (by omega)
  rw [zt6 ts hj, zt6 ts hil, e3, e2, h2] at this
  exact this
 subst hv
 exact ⟨.int (maxI ns), H, I.kept k, ⟨_, by rw [hm]⟩, q⟩
def zy8 : List D -> Option (List Int)
 | [] => some []
 | .int i :: r => match zy8 r with | some ns => some (i :: ns) | none => none
 | _ => none
theorem C8 {K : W.Frag} {F : Hp} : ∀ {vs : List V} {ds : List D} {ns : List Int}, Reps K F vs ds -> zy8 ds = some ns -> vs = ns.map V.int
 | _, _, _, .nil, h => by cases h; rfl
 | _, _, _, .cons (d := d) (ds := ds) r t, h => by
  cases r with
  | int i =>
   unfold zy8 at h
   cases h1 : zy8 ds with
   | none => simp only [h1] at h; cases h
   | some ns => simp only [h1] at h; cases h; rw [C8 t h1]; rfl
  | _ => cases h
theorem zr1 : ∀ ns : List Int, zy8 (ns.map D.int) = some ns
 | [] => rfl
 | n :: ns => by show (match zy8 (ns.map D.int) with | some ns => some (n :: ns) | none => none) = _; rw [zr1 ns]
@[irreducible] def zn7 (m : ML) : ME := fun ρ => match m ρ with | some ds => (match zy8 ds with | some (n :: ns) => some (.int (maxI (n :: ns))) | _ => none) | none => none
theorem yv2 {p : Pos} {m : ML} (hc : X.calm = true) (hg : Gl X "max") (hm : X.mg "max" = none) (ha : PB X e m) (hs : starEach (e :: []) X.env = (false, eval e X.env) :: starEach [] X.env := by rfl) (he : starEach [e] X.env = (false, eval e X.env) :: starEach [] X.env := by rfl) (hpl : (backTo pos (starEach [] X.env)).any (·.1) = false := by rfl) : PD X (.Call (.Name "max" p) [e] [] pos) (zn7 m) :=
 (zz7 (yp3 hc) hg hm PyProof.Rows.boot_max (k6 ha pa_nil hs) (by decide) (by decide) he hpl).imp fun σ H Q hpat => by
  obtain ⟨F0, H0, F, ρ, g, rl, e, q⟩ := hpat
  unfold zn7 at e
  cases h1 : m ρ with
  | none => rw [h1] at e; cases e
  | some ds =>
   rw [h1] at e
   cases h2 : zy8 ds with
   | none => simp only [h2] at e; cases e
   | some ns =>
    cases ns with
    | nil => simp only [h2] at e; cases e
    | cons n ns =>
     simp only [h2] at e; cases e
     refine ⟨F0, H0, F, ρ, ds, rl, h1, fun p xs F1 H1 x1 s1 r1 => ⟨p, n :: ns, rfl, ?_, by simp, q _ F1 H1 x1 (.int _)⟩⟩
     rw [<- C8 r1 h2]; exact s1
def yz6 : List (Str × Str) -> List DictEntry -> Prop
 | [], [] => True
 | (k, v) :: r, e :: es => (∃ t, e.key = .str k t) /\ (∃ t, e.val = .str v t) /\ yz6 r es
 | _, _ => False
structure KTab (w : World) (K : W.Frag) (a : Addr) (tab : List (Str × Str)) : Prop where
 ns : (a == sysModules) = false
 nd : (tab.map (·.1)).Nodup
 obj : ∃ es ep, K.lookup a = some ⟨.type "dict", none, .dict es ep, #[]⟩ /\ yz6 tab es.toList /\ ∀ e ∈ es.toList, ∀ k t, e.key = .str k t -> e.hash = hashStr w k
theorem zw9 {P : Program} {w : World} : ∀ {tab : List (Str × Str)} {es : List DictEntry}, yz6 tab es -> ∃ kvs : List (Key × Value), Pairs (J9 P w) es kvs /\ kvs.map (·.1) = tab.map (fun p => Sum.inr p.1) /\ ∀ k, (∀ v, tab.lookup k = some v -> ∃ t, valueAt kvs (Sum.inr k) = some (.str v t)) /\ (tab.lookup k = none -> valueAt kvs (Sum.inr k) = none)
 | [], [], _ => ⟨[], .nil, rfl, fun k => ⟨fun v h => by simp at h, fun _ => rfl⟩⟩
 | [], _ :: _, h => h.elim
 | _ :: _, [], h => h.elim
 | (k, v) :: r, e :: es, ⟨⟨t1, h1⟩, ⟨t2, h2⟩, h3⟩ => by
  obtain ⟨kvs, a1, a2, a3⟩ := zw9 (P := P) (w := w) h3
  refine ⟨(Sum.inr k, .str v t2) :: kvs, .cons (by rw [h1]; exact G6 k t1) h2 a1, by rw [map_cons, map_cons, a2], fun k' => ?_⟩
  unfold valueAt
  by_cases hk : k' = k
  ·subst hk
   refine ⟨fun v' h => ?_, fun h => ?_⟩
   ·rw [lookup_cons_self] at h; cases h
    exact ⟨t2, by simp⟩
   ·rw [lookup_cons_self] at h; cases h
  ·have hb : (k' == k) = false := by simpa using hk
   have hb2 : ¬ ((Sum.inr k : Key) = Sum.inr k') := fun z => hk (Sum.inr.inj z).symm
   obtain ⟨c1, c2⟩ := a3 k'
   refine ⟨fun v' h => ?_, fun h => ?_⟩
   ·rw [lookup_cons, hb] at h
    obtain ⟨t, ht⟩ := c1 v' h
    unfold valueAt at ht
    exact ⟨t, by simpa [hb2] using ht⟩
   ·rw [lookup_cons, hb] at h
    have := c2 h
    unfold valueAt at this
    simpa [hb2] using this
theorem KTab.dict {t : Addr} {tab : List (Str × Str)} {pins : List (Addr × Obj)} {σ : St} {H : Hp} {s : Shared} (T : KTab X.w X.K t tab) (I : Inv X pins σ H s) : ∃ kvs : List (Key × Value), s.heap.DictOf (J9 X.prog X.w) t kvs /\ ∀ k, (∀ v, tab.lookup k = some v -> ∃ t, valueAt kvs (Sum.inr k) = some (.str v t)) /\ (tab.lookup k = none -> valueAt kvs (Sum.inr k) = none) := by
 obtain ⟨es, ep, h1, h2, h3⟩ := T.obj
 obtain ⟨kvs, a1, a2, a3⟩ := zw9 (P := X.prog) (w := X.w) h2
 refine ⟨kvs, ⟨_, es, ep, I.kIn t _ h1, ⟨rfl, rfl, rfl⟩, rfl, fun e he => ?_, a1, ?_⟩, a3⟩
 ·have key : ∀ {tab : List (Str × Str)} {es : List DictEntry}, yz6 tab es -> ∀ e ∈ es, ∃ k t, e.key = .str k t := by
   intro tab
   induction tab with
   | nil => intro es h e he; cases es with
    | nil => cases he
    | cons _ _ => exact h.elim
   | cons p r ih =>
    intro es h e he
    cases es with
    | nil => cases he
    | cons e0 es =>
     obtain ⟨⟨t1, g1⟩, _, g3⟩ := h
     rcases List.mem_cons.mp he with z | z
     ·subst z; exact ⟨_, t1, g1⟩
     ·exact ih g3 e z
  obtain ⟨k, tk, hk⟩ := key h2 e (by simpa using he)
  exact ⟨Sum.inr k, by rw [hk]; exact G6 k tk, h3 e (by simpa using he) k tk hk⟩
 ·rw [a2]
  have := T.nd
  rw [show tab.map (fun p => (Sum.inr p.1 : Key)) = (tab.map (·.1)).map Sum.inr by rw [map_map]; rfl]
  exact List.Pairwise.map _ (fun _ _ h z => h (Sum.inr.inj z)) this
def rTab (t : Addr) (tab : List (Str × Str)) : R2 := fun x y H Q => ∃ k v, x = .ref t /\ y = .str k /\ tab.lookup k = some v /\ Q (.str v) H
theorem xi5 {t : Addr} {tab : List (Str × Str)} (T : KTab X.w X.K t tab) : IxR X (rTab t tab) := by
 intro value slice pins s σ H x y v u Q I rx ry h hs
 obtain ⟨k, z, rfl, rfl, hl, q⟩ := h
 cases rx
 obtain ⟨tk, rfl⟩ := ry
 obtain ⟨kvs, dd, hk⟩ := T.dict I
 obtain ⟨t2, hv⟩ := (hk k).1 z hl
 exact subscriptTail_builtinR (x := .str z t2) dd.typeIs slot_dict_getitem.lookup
  (wpAny_getItem_of (Q := fun r s' => r = .str z t2 /\ EP X pins σ Q r s') (G6 k tk) dd.mapOf hv ⟨rfl, .str z, H, I.tok _, ⟨_, rfl⟩, q⟩) hs
def tabD (tab : List (Str × Str)) : D -> Option D
 | .str k => (tab.lookup k).map .str
 | _ => none
theorem xm0 {x : Str} {t : Addr} {tab : List (Str × Str)} {p : Pos} (T : KTab X.w X.K t tab) (hg : Gl X x) (hm : X.mg x = some (.ref t)) (hb : PD X b mb) (hs : zw3 b := by exact fun _ _ => rfl) (hd : (x == ("__debug__" : Str)) = false := by decide) : PD X (.Subscript (.Name x p) b pos) (m1 (tabD tab) mb) :=
 (xy6 (xi5 T) (zz6 (v := .ref t) hg hm rfl hd) hb hs).imp fun σ H Q hpat => by
  obtain ⟨F0, H0, F, ρ, g, rl, e, q⟩ := hpat
  obtain ⟨d, h1, h2⟩ := ys3 e
  refine ⟨F0, H0, F, ρ, d, rl, h1, fun v F1 H1 x1 r1 => ?_⟩
  cases r1 with
  | str k =>
   have h2 : (tab.lookup k).map D.str = some g := h2
   cases h3 : tab.lookup k with
   | none => rw [h3] at h2; cases h2
   | some z => rw [h3] at h2; cases h2; exact ⟨k, z, rfl, rfl, h3, q _ F1 H1 x1 (.str _)⟩
  | _ => cases h2
end
end
section
section
variable {prog : Program} {w : World} {A : Around} {E : Value -> Shared -> Prop} {s : Shared}
structure ApT (z TO i1 i2 l : Addr) : Prop where
 lz : l ≠ z
 lTO : l ≠ TO
 l1 : l ≠ i1
 l2 : l ≠ i2
end
end
section
section
variable {prog : Program} {w : World} {A : Around} {E : Value -> Shared -> Prop} {s : Shared}
end
section
variable {X : Cx}
end
end
section
section
variable {X : Cx} {a b c e : Expr} {ma mb : ME} {la lb : ML} {pos : Pos}
end
section
variable {K : W.Frag} {F0 H0 F H H' : Hp} {σ : St} {ρ : Ro}
end
section
variable {X : Cx} {a b c e3 : Expr} {ma mb : ME} {la lb : ML} {pos : Pos} {E : XK} {es : List Expr} {mf : MF} {m : ML} {rb : List Stmt} {mx : MS} {cc : MB} {y : D}
end
end
section
abbrev MEm := Ro -> Option (D × Ro)
abbrev MLm := Ro -> Option (List D × Ro)
def TDm (K : W.Frag) (m : MEm) : TE := fun σ H Q => ∃ F0 H0 F ρ d ρ', Rl K F0 H0 F H σ ρ /\ m ρ = some (d, ρ') /\ ∀ v F' H', Rl K F0 H0 F' H' σ ρ' -> Same F F' -> Rep K F' v d -> Q v H'
def TAm (K : W.Frag) (m : MLm) : TA := fun σ H Q => ∃ F0 H0 F ρ ds ρ', Rl K F0 H0 F H σ ρ /\ m ρ = some (ds, ρ') /\ ∀ vs F' H', Rl K F0 H0 F' H' σ ρ' -> Same F F' -> Reps K F' vs ds -> Q vs H'
def PDm (X : Cx) (e : Expr) (m : MEm) : Prop := PE X e (TDm X.K m)
def PAm (X : Cx) (es : List Expr) (m : MLm) : Prop := PA X es (TAm X.K m)
section
variable {X : Cx} {a b c e : Expr} {ma mb : ME} {na nb : MEm} {pos : Pos} {es : List Expr}
@[irreducible] def mpu (m : ME) : MEm := fun ρ => match m ρ with | some d => some (d, ρ) | none => none
@[irreducible] def apu (m : ML) : MLm := fun ρ => match m ρ with | some d => some (d, ρ) | none => none
theorem t3 (h : PD X e ma) : PDm X e (mpu ma) := h.imp fun σ H Q hpat => by
 obtain ⟨F0, H0, F, ρ, d, ρ', rl, e, q⟩ := hpat
 unfold mpu at e
 split at e
 ·rename_i d' hm; cases e; exact ⟨F0, H0, F, ρ, d, rl, hm, fun v F' H' x r => q v F' H' (rl.go x) x.ff r⟩
 ·cases e
theorem m8 {m : ML} (h : PAs X es m) : PAm X es (apu m) := h.imp fun σ H Q hpat => by
 obtain ⟨F0, H0, F, ρ, d, ρ', rl, e, q⟩ := hpat
 unfold apu at e
 split at e
 ·rename_i d' hm; cases e; exact ⟨F0, H0, F, ρ, d, rl, hm, fun v F' H' x r => q v F' H' (rl.go x) x.ff r⟩
 ·cases e
@[irreducible] def m2m (f : D -> D -> Option D) (x y : MEm) : MEm := fun ρ => match x ρ with
 | some (d, ρ1) => (match y ρ1 with | some (e, ρ2) => (match f d e with | some g => some (g, ρ2) | none => none) | none => none)
 | none => none
theorem xx3 {r : R2} {f : D -> D -> Option D} (hf : OpD X.K r f) {σ : St} {H : Hp} {Q : VK} (h : TDm X.K (m2m f na nb) σ H Q) : tOp r (TDm X.K na) (TDm X.K nb) σ H Q := by
 obtain ⟨F0, H0, F, ρ, g, ρ', rl, e, q⟩ := h
 unfold m2m at e
 split at e
 ·rename_i d ρ1 h1
  split at e
  ·rename_i d2 ρ2 h2
   split at e
   ·rename_i g' h3
    cases e
    refine ⟨F0, H0, F, ρ, d, ρ1, rl, h1, fun x F1 H1 rl1 s1 r1 => ⟨F0, H0, F1, ρ1, d2, ρ', rl1, h2, fun y F2 H2 rl2 s2 r2 => ?_⟩⟩
    exact hf F2 H2 x y d d2 g Q rl2.fh (r1.mono s2) r2 h3 fun v F' H' x3 r3 => q v F' H' (rl2.go x3) (s1.trans (s2.trans x3.ff)) r3
   ·cases e
  ·cases e
 ·cases e
theorem O7 {op : Operator} {r : R2} {f : D -> D -> Option D} (ho : OpR X (binaryOp op) r) (hf : OpD X.K r f) (ha : PDm X a na) (hb : PDm X b nb) : PDm X (.BinOp a op b pos) (m2m f na nb) := (yk3 ho ha hb).imp fun _ _ _ h => xx3 hf h
def ixLD : D -> D -> Option D
 | .lst ds, .int k => atI ds k
 | _, _ => none
theorem xx6 {K : W.Frag} : OpD K (rIxL K) ixLD := by
 intro F H x y d e w Q s r1 r2 h q
 cases d with
 | lst ds =>
  cases e with
  | int k =>
   obtain ⟨a, xs, e1, sq, rs⟩ := r1.l'
   obtain ⟨v, h3, h4⟩ := ze6 rs (show atI _ k = some w from h)
   exact ⟨_, _, k, v, e1, r2.i', s.seq sq, h3, q v F H (.refl s) h4⟩
  | _ => cases h
 | _ => cases h
theorem yw9 (ha : PDm X a na) (hb : PDm X b nb) (hs : zw3 b := by exact fun _ _ => rfl) : PDm X (.Subscript a b pos) (m2m ixLD na nb) := (xy6 yr1 ha hb hs).imp fun σ H Q h => xx3 xx6 h
@[irreducible] def j4 (x : MEm) (r : MLm) : MLm := fun ρ => match x ρ with | some (d, ρ1) => (match r ρ1 with | some (ds, ρ2) => some (d :: ds, ρ2) | none => none) | none => none
theorem Z8 {m : MLm} (ha : PDm X a na) (hr : PAm X es m) (hs : starEach (a :: es) X.env = (false, eval a X.env) :: starEach es X.env := by rfl) : PAm X (a :: es) (j4 na m) := (k6 ha hr hs).imp fun σ H Q hpat => by
 obtain ⟨F0, H0, F, ρ, g, ρ', rl, e, q⟩ := hpat
 unfold j4 at e
 split at e
 ·rename_i d ρ1 h1
  split at e
  ·rename_i ds ρ2 h2
   cases e
   refine ⟨F0, H0, F, ρ, d, ρ1, rl, h1, fun x F1 H1 rl1 s1 r1 => ⟨F0, H0, F1, ρ1, ds, ρ', rl1, h2, fun xs F2 H2 rl2 s2 r2 => ?_⟩⟩
   exact q _ F2 H2 rl2 (s1.trans s2) (.cons (r1.mono s2) r2)
  ·cases e
 ·cases e
@[irreducible] def yt0 (m : MLm) : MEm := fun ρ => match m ρ with | some (ds, ρ1) => if ds.length <= sizeLine then some (.lst ds, ρ1) else none | none => none
theorem xy9 {m : MLm} (h : PAm X es m) : PDm X (.List es pos) (yt0 m) := (yw8 h).imp fun σ H Q hpat => by
 obtain ⟨F0, H0, F, ρ, g, ρ', rl, e, q⟩ := hpat
 unfold yt0 at e
 split at e
 ·rename_i ds ρ1 h1
  split at e
  ·rename_i hz
   cases e
   refine ⟨F0, H0, F, ρ, ds, ρ', rl, h1, fun vs F1 H1 rl1 s1 r1 => ⟨by rw [r1.length]; exact hz, fun p hp => ?_⟩⟩
   have x := Ext.laid (o := .lst vs) rl1.fh hp
   exact q _ _ _ (rl1.go x) (s1.trans x.ff) (.lst (SqL.of y6) (r1.mono x.ff))
  ·cases e
 ·cases e
variable {st : Stmt}
@[irreducible] def zt8 (i : Nat) (x : MEm) : MS := fun ρ => match x ρ with | some (d, ρ1) => some (.nx (ρ1.set i (some (.sh d)))) | none => none
theorem M9 {i : Nat} {x : Str} {pos' : Pos} (hN : X.N.Nodup) (hi : X.N[i]? = some x) (hx : Loc X.env.scope x) (he : PDm X e na) (hs : swapsWith e (some (.Name x pos')) pos.line X.env = pure false := by rfl) (hf : X.fn x = true \/ X.env.scope.names.lookup x = some .local := by first | exact .inl rfl | exact .inr rfl | assumption) :
  PSd X (.Assign [.Name x pos'] e pos) (zt8 i na) := (zh2 hN hi hx he hs hf).imp fun D σ H hpat => by
 obtain ⟨F0, H0, F, ρ, o, rl, e, ok⟩ := hpat
 unfold zt8 at e
 split at e
 ·rename_i d ρ1 h1
  cases e
  exact ⟨F0, H0, F, ρ, d, ρ1, rl, h1, fun v F1 H1 rl1 s1 r1 => ok F1 H1 _ (rl1.set r1) s1⟩
 ·cases e
@[irreducible] def D3 (i : Nat) (x : MEm) : MS := fun ρ => match x ρ with
 | some (d, ρ1) => (match ρ1[i]? with | some (some (.ob p r)) => some (.rg d p r) | _ => none)
 | none => none
theorem zz0 (i : Nat) (he : PDm X e na) : PSd X (.Return (some e) pos) (D3 i na) := (R7 he).imp fun D σ H hpat => by
 obtain ⟨F0, H0, F, ρ, o, rl, e, ok⟩ := hpat
 unfold D3 at e
 split at e
 ·rename_i d ρ1 h1
  split at e
  ·rename_i p r h2
   cases e
   refine ⟨F0, H0, F, ρ, d, ρ1, rl, h1, fun v F1 H1 rl1 s1 r1 => ?_⟩
   obtain ⟨o1, o2, o3, xs, o4, o5⟩ := rl1.ob i p r h2
   exact ok v F1 H1 xs rl1.ext r1 o2 o4 o5
  ·cases e
 ·cases e
end
abbrev MG := Addr -> List D -> List D -> Option (Rt × List D)
def del (H : Hp) (p : Addr) : Hp := fun b => if b = p then none else H b
theorem zf3 {H : Hp} {p : Addr} : del H p p = none := by unfold del; rw [if_pos rfl]
theorem T6 {H : Hp} {p b : Addr} (h : b ≠ p) : del H p b = H b := by unfold del; rw [if_neg h]
def okG (K : W.Frag) (F H : Hp) (p : Addr) (Q : VK) (r' : List D) : Rt -> Prop
 | .sh d => ∀ v F' H' xs, Ext F (del H p) F' H' -> Rep K F' v d -> F' p = none -> H' p = some (.lst xs) -> Reps K F' xs r' -> Q v H'
 | .fr ds => ∀ q ys F' H' xs, Ext F (del H p) F' H' -> H q = none -> F' q = none -> H' q = some (.lst ys) -> Reps K F' ys ds -> F' p = none -> H' p = some (.lst xs) -> Reps K F' xs r' -> Q (.ref q) H'
 | .pr _ _ => False
def spG (K : W.Frag) (n : Nat) (m : MG) : Sp := fun vs H Q _ => vs.length = n /\ ∃ p ws F r0 ds r r1 xs, vs = .ref p :: ws /\ H p = some (.lst xs) /\ F p = none /\ Same F H /\ Reps K F xs r0 /\ Reps K F ws ds /\ m p r0 ds = some (r, r1) /\ okG K F H p Q r1 r
def T3 (n : Nat) (p : Addr) (r : List D) (ds : List D) : Ro := some (.ob p r) :: v3 (n - 1) ds
def runG (n : Nat) (m : MS) : MG := fun p r ds => match m (T3 n p r ds) with
 | some (.rg d q r') => if q = p then some (.sh d, r') else none
 | some (.rgf es q r') => if q = p then some (.fr es, r') else none
 | _ => none
theorem yy8 {K : W.Frag} {F H : Hp} {N : List Str} {p : Addr} {xs ws : List V} {r ds : List D} (hn : 0 < N.length) (s : Same F H) (hF : F p = none) (hH : H p = some (.lst xs)) (hr : Reps K F xs r) (rs : Reps K F ws ds) : Rl K F (del H p) F H (start N (.ref p :: ws)) (T3 N.length p r ds) := by
 have e0 : start N (.ref p :: ws) = some (.ref p) :: start N.tail ws := by
  unfold start
  rw [map_cons, cons_append, length_cons, length_tail]
  congr 2
  congr 1
  omega
 have e1 : T3 N.length p r ds = some (.ob p r) :: v3 N.tail.length ds := by unfold T3; rw [length_tail]
 have base := M5 (N := N.tail) s rs
 have only : ∀ (j : Nat) x, (v3 N.tail.length ds)[j]? = some (some x) -> ∃ d, x = S.sh d := fun j x e => by
  unfold v3 at e
  by_cases hi : j < ds.length
  ·rw [getElem?_append_left (by simpa using hi), getElem?_map] at e
   cases q : ds[j]? with
   | none => rw [q] at e; cases e
   | some d => rw [q] at e; cases e; exact ⟨d, rfl⟩
  ·rw [getElem?_append_right (by simpa using hi), getElem?_replicate] at e
   split at e <;> cases e
 rw [e0, e1]
 refine ⟨⟨Same.refl F, fun b o e => ?_, s, fun b e n => absurd e n, fun _ _ _ z => z⟩, by rw [length_cons, length_cons, base.len], fun i d e => ?_, fun i es e => ?_, fun i j q es es' _ e => ?_, fun i q es e => ?_, fun i j q es es' e e2 => ?_, fun i j q q' es es' e e2 => ?_⟩
 ·by_cases hb : b = p
  ·subst hb; rw [zf3] at e; cases e
  ·rw [T6 hb] at e; exact e
 ·cases i with
  | zero => cases e
  | succ i => exact base.sh i d e
 ·cases i with
  | zero => cases e
  | succ i => obtain ⟨d, z⟩ := only i _ e; cases z
 ·cases i with
  | zero => cases e
  | succ i => obtain ⟨d, z⟩ := only i _ e; cases z
 ·cases i with
  | zero => cases e; exact ⟨rfl, hF, zf3, xs, hH, hr⟩
  | succ i => obtain ⟨d, z⟩ := only i _ e; cases z
 ·cases j with
  | zero => cases e2
  | succ j => obtain ⟨d, z⟩ := only j _ e2; cases z
 ·cases i with
  | zero =>
   cases j with
   | zero => rfl
   | succ j => obtain ⟨d, z⟩ := only j _ e2; cases z
  | succ i => obtain ⟨d, z⟩ := only i _ e; cases z
theorem Fun.okGl {P : Program} {w : World} {K : W.Frag} {mg : Str -> Option Value} {base : Heap} {x qual : Str} {st : Stmt} {f : Addr} {fd : FuncData} {N ps : List Str} {k : Nat} {m : MS} (Fn : Fun K x qual st f fd) (Sc : FnScope N ps (y0 st)) (hn : 0 < N.length)
  (hbody : ∀ (cdv : Value) (A : Around) (outer : List Env) (s : Shared) (H : Hp) (E : XK), Room k (A.deeper (envOfC qual (y0 st) s.heap.objs.size f cdv)) -> PSsd (cxOf CX0 P w K mg base N qual (y0 st) f cdv A outer s H E).nox (i7 st) m) :
  FnOk P w K mg base CX0 (k + 1) f fd ps (spG K ps.length (runG N.length m)) := by
 refine Fn.ok Sc (fun vs H Q E h => h.1) fun cdv A outer s H vs Q E hr h => ?_
 obtain ⟨hl, p, ws, F, r0, ds, r, r1, xs, rfl, hH, hF, sf, rx, rs, e, ok⟩ := h
 unfold runG at e
 cases h1 : m (T3 N.length p r0 ds) with
 | none => rw [h1] at e; cases e
 | some o =>
  rw [h1] at e
  refine ⟨_, hbody cdv A outer s H E hr, F, del H p, F, T3 N.length p r0 ds, o, yy8 hn sf hF hH rx rs, h1, ?_⟩
  cases o with
  | rg d q r' =>
   have e : (if q = p then some (Rt.sh d, r') else none) = some (r, r1) := e
   by_cases hq : q = p
   ·rw [if_pos hq] at e
    cases e
    subst hq
    exact fun v F' H' xs' x rv f1 h1 rr => ok v F' H' xs' x rv f1 h1 rr
   ·rw [if_neg hq] at e; cases e
  | rgf es q r' =>
   have e : (if q = p then some (Rt.fr es, r') else none) = some (r, r1) := e
   by_cases hq : q = p
   ·rw [if_pos hq] at e
    cases e
    subst hq
    exact fun q' ys F' H' xs' x h0 f0 hne hq' rq f1 h1 rr => ok q' ys F' H' xs' x (by rw [T6 hne] at h0; exact h0) f0 hq' rq f1 h1 rr
   ·rw [if_neg hq] at e; cases e
  | nx _ => cases e
  | bk _ => cases e
  | ct _ => cases e
  | rt _ => cases e
  | rf _ => cases e
  | rp _ _ => cases e
end
section
section
variable {K : W.Frag} {F0 H0 F H F' H' : Hp} {σ : St} {ρ : Ro}
theorem Ext.lent (a : Ext F0 H0 F H) {p : Addr} (h0 : H0 p = none) (x : Ext F (del H p) F' H') : Ext F0 H0 F' H' :=
 ⟨a.ff.trans x.ff, fun b o e => by
  have hb : b ≠ p := fun z => by rw [z, h0] at e; cases e
  exact x.hh b o (by rw [T6 hb]; exact a.hh b o e), x.fh, fun b e n => by
  by_cases hf : F b = none
  ·by_cases hb : b = p
   ·rw [hb]; exact h0
   ·have := x.new b hf n
    rw [T6 hb] at this
    exact a.hh.free this
  ·exact a.new b e hf, fun b o u z => a.nf b o u (x.nf b o u z)⟩
theorem Rl.lent (r : Rl K F0 H0 F H σ ρ) {i : Nat} {p : Addr} {xs : List V} {r0 r1 : List D} (h : ρ[i]? = some (some (.own r0))) (hp : σ[i]? = some (some (.ref p))) (x : Ext F (del H p) F' H') (hF : F' p = none) (hH : H' p = some (.lst xs)) (hr : Reps K F' xs r1) : Rl K F0 H0 F' H' σ (ρ.set i (some (.own r1))) := by
 obtain ⟨p', xs', a, b, c, d, z⟩ := r.own i r0 h
 rw [hp] at a; cases a
 have hl : i < ρ.length := (List.getElem?_eq_some_iff.mp h).1
 have keepF : ∀ q, q ≠ p -> F q = none -> (∃ o, H q = some o) -> F' q = none := fun q hq f hpat => by
  obtain ⟨o, ho⟩ := hpat
  cases w : F' q with
  | none => rfl
  | some u => have := x.new q f (by rw [w]; simp); rw [T6 hq, ho] at this; cases this
 have keepH : ∀ q o, q ≠ p -> H q = some o -> H' q = some o := fun q o hq ho => x.hh q o (by rw [T6 hq]; exact ho)
 have back : ∀ (j : Nat) fs, (ρ.set i (some (S.own r1)))[j]? = some (some (.own fs)) -> (j = i /\ fs = r1) \/ (i ≠ j /\ ρ[j]? = some (some (.own fs))) := fun j fs e => by
  by_cases hj : i = j
  ·subst hj; rw [getElem?_set_self hl] at e; cases e; exact .inl ⟨rfl, rfl⟩
  ·rw [getElem?_set_ne hj] at e; exact .inr ⟨hj, e⟩
 refine ⟨r.ext.lent z x, by simp [r.len], fun j d' q => ?_, fun j fs q => ?_, fun j k q fs fs' hjk e1 e2 e3 e4 => ?_, fun j q fs e1 => ?_, fun j k q fs fs' e1 e2 e3 => ?_, fun j k q q' es es' e1 e2 => r.ob1 j k q q' es es' (o0 e1).2 (o0 e2).2⟩
 ·by_cases hj : i = j
  ·subst hj; rw [getElem?_set_self hl] at q; cases q
  ·rw [getElem?_set_ne hj] at q
   obtain ⟨v, v1, v2⟩ := r.sh j d' q
   exact ⟨v, v1, v2.mono x.ff⟩
 ·rcases back j fs q with ⟨rfl, rfl⟩ | ⟨n, e⟩
  ·exact ⟨p, xs, hp, hF, hH, hr, z⟩
  ·obtain ⟨p2, xs2, a2, b2, c2, d2, z2⟩ := r.own j fs e
   have hpp : p2 ≠ p := fun w => r.inj i j p r0 fs n h e hp (by rw [<- w]; exact a2)
   exact ⟨p2, xs2, a2, keepF p2 hpp b2 ⟨_, c2⟩, keepH _ _ hpp c2, d2.mono x.ff, z2⟩
 ·have b1 : ∃ g, ρ[j]? = some (some (.own g)) := by
   rcases back j fs e1 with ⟨rfl, _⟩ | ⟨_, w⟩
   ·exact ⟨_, h⟩
   ·exact ⟨_, w⟩
  have b2 : ∃ g, ρ[k]? = some (some (.own g)) := by
   rcases back k fs' e2 with ⟨rfl, _⟩ | ⟨_, w⟩
   ·exact ⟨_, h⟩
   ·exact ⟨_, w⟩
  obtain ⟨g1, w1⟩ := b1
  obtain ⟨g2, w2⟩ := b2
  exact r.inj j k q g1 g2 hjk w1 w2 e3 e4
 ·obtain ⟨n, e1⟩ := o0 e1
  obtain ⟨o1, o2, o3, zs, o4, o5⟩ := r.ob j q fs e1
  have hpp : q ≠ p := fun w => r.obn j i q fs r0 e1 h (by rw [w]; exact hp)
  exact ⟨o1, keepF q hpp o2 ⟨_, o4⟩, o3, zs, keepH _ _ hpp o4, o5.mono x.ff⟩
 ·obtain ⟨n, e5⟩ := o0 e1
  rcases back k fs' e2 with ⟨e6, _⟩ | ⟨_, w⟩
  ·rw [e6] at e3; exact r.obn j i q fs r0 e5 h e3
  ·exact r.obn j k q fs fs' e5 w e3
theorem Rl.lentB (r : Rl K F0 H0 F H σ ρ) {i : Nat} {p : Addr} {xs : List V} {r0 r1 : List D} (h : ρ[i]? = some (some (.ob p r0))) (x : Ext F (del H p) F' H') (hF : F' p = none) (hH : H' p = some (.lst xs)) (hr : Reps K F' xs r1) : Rl K F0 H0 F' H' σ (ρ.set i (some (.ob p r1))) := by
 obtain ⟨a, b, z, xs', c, d⟩ := r.ob i p r0 h
 have hl : i < ρ.length := (List.getElem?_eq_some_iff.mp h).1
 have keepF : ∀ q, q ≠ p -> F q = none -> (∃ o, H q = some o) -> F' q = none := fun q hq f hpat => by
  obtain ⟨o, ho⟩ := hpat
  cases w : F' q with
  | none => rfl
  | some u => have := x.new q f (by rw [w]; simp); rw [T6 hq, ho] at this; cases this
 have keepH : ∀ q o, q ≠ p -> H q = some o -> H' q = some o := fun q o hq ho => x.hh q o (by rw [T6 hq]; exact ho)
 have back : ∀ (j : Nat) q fs, (ρ.set i (some (S.ob p r1)))[j]? = some (some (.ob q fs)) -> j = i /\ q = p /\ fs = r1 := fun j q fs e => by
  by_cases hj : i = j
  ·subst hj; rw [getElem?_set_self hl] at e; cases e; exact ⟨rfl, rfl, rfl⟩
  ·rw [getElem?_set_ne hj] at e; exact absurd (r.ob1 i j p q r0 fs h e) hj
 have other : ∀ (j : Nat) fs, (ρ.set i (some (S.ob p r1)))[j]? = some (some (.own fs)) -> i ≠ j /\ ρ[j]? = some (some (.own fs)) := fun j fs e => by
  by_cases hj : i = j
  ·subst hj; rw [getElem?_set_self hl] at e; cases e
  ·rw [getElem?_set_ne hj] at e; exact ⟨hj, e⟩
 refine ⟨r.ext.lent z x, by simp [r.len], fun j d' q => ?_, fun j fs q => ?_, fun j k q fs fs' hjk e1 e2 e3 e4 => r.inj j k q fs fs' hjk (other j fs e1).2 (other k fs' e2).2 e3 e4, fun j q fs e1 => ?_, fun j k q fs fs' e1 e2 e3 => ?_, fun j k q q' fs fs' e1 e2 => ?_⟩
 ·by_cases hj : i = j
  ·subst hj; rw [getElem?_set_self hl] at q; cases q
  ·rw [getElem?_set_ne hj] at q
   obtain ⟨v, v1, v2⟩ := r.sh j d' q
   exact ⟨v, v1, v2.mono x.ff⟩
 ·obtain ⟨n, e⟩ := other j fs q
  obtain ⟨p2, xs2, a2, b2, c2, d2, z2⟩ := r.own j fs e
  have hpp : p2 ≠ p := fun w => r.obn i j p r0 fs h e (by rw [<- w]; exact a2)
  exact ⟨p2, xs2, a2, keepF p2 hpp b2 ⟨_, c2⟩, keepH _ _ hpp c2, d2.mono x.ff, z2⟩
 ·obtain ⟨e2, e3, e4⟩ := back j q fs e1
  subst e2 e3 e4
  exact ⟨a, hF, z, xs, hH, hr⟩
 ·obtain ⟨e4, e5, _⟩ := back j q fs e1
  subst e4 e5
  exact r.obn j k q r0 fs' h (other k fs' e2).2 e3
 ·rw [(back j q fs e1).1, (back k q' fs' e2).1]
end
open Classical in
noncomputable def anyP {α : Type} (f : Addr -> Option α) : Option α := if h : ∃ x, ∀ p, f p = some x then some (Classical.choose h) else none
theorem yo1 {α : Type} {f : Addr -> Option α} {x : α} (h : anyP f = some x) : ∀ p, f p = some x := by
 unfold anyP at h
 split at h
 ·rename_i hx
  cases h
  exact Classical.choose_spec hx
 ·cases h
theorem xr4 {α : Type} {f : Addr -> Option α} {x : α} (h : ∀ p, f p = some x) : anyP f = some x := by
 unfold anyP
 have hx : ∃ x, ∀ p, f p = some x := ⟨x, h⟩
 rw [dif_pos hx]
 have := Classical.choose_spec hx 0
 rw [h 0] at this
 exact this.symm
def rtD : Rt -> Option D
 | .sh d => some d
 | .fr es => some (.lst es)
 | .pr _ _ => none
@[irreducible] noncomputable def t6 (f : MG) (i : Nat) (m : MLm) : MEm := fun ρ => match ρ[i]? with
 | some (some (.own _)) => (match m ρ with
  | some (ds, ρ1) => (match ρ1[i]? with
   | some (some (.own r0)) => (match anyP (fun p => f p r0 ds) with
    | some (t, r1) => (match rtD t with | some d => some (d, ρ1.set i (some (.own r1))) | none => none)
    | none => none)
   | _ => none)
  | none => none)
 | some (some (.ob _ _)) => (match m ρ with
  | some (ds, ρ1) => (match ρ1[i]? with
   | some (some (.ob p r0)) => (match f p r0 ds with
    | some (t, r1) => (match rtD t with | some d => some (d, ρ1.set i (some (.ob p r1))) | none => none)
    | none => none)
   | _ => none)
  | none => none)
 | _ => none
theorem c6 {m : ML} {n : Nat} (h : ∀ ρ ds, m ρ = some ds -> ds.length = n) (ρ : Ro) (ds : List D) (ρ' : Ro) (e : apu m ρ = some (ds, ρ')) : ds.length = n := by
 unfold apu at e
 split at e
 ·rename_i d hm; cases e; exact h ρ _ hm
 ·cases e
theorem X1 {x : MEm} {r : MLm} {n : Nat} (hr : ∀ ρ ds ρ', r ρ = some (ds, ρ') -> ds.length = n) (ρ : Ro) (ds : List D) (ρ' : Ro) (h : j4 x r ρ = some (ds, ρ')) : ds.length = n + 1 := by
 unfold j4 at h
 split at h
 ·rename_i d ρ1 h1
  split at h
  ·rename_i ds' ρ2 h2; cases h; rw [length_cons, hr ρ1 ds' _ h2]
  ·cases h
 ·cases h
section
variable {X : Cx} {e : Expr} {pos : Pos} {es : List Expr} {E : XK} {mf : MG} {m : MLm}
theorem n4 {n i : Nat} {x : Str} {px : Pos} (h : ∀ t, PA X (.Name x px :: es) t -> PE X e (yz7 (spG X.K n mf) [] E t)) (hl : es.length + 1 = n) (hv : PE X (.Name x px) (tVar i)) (ha : PAm X es m) (hm : ∀ ρ ds ρ', m ρ = some (ds, ρ') -> ds.length = es.length)
  (hs : starEach (.Name x px :: es) X.env = (false, eval (.Name x px) X.env) :: starEach es X.env := by rfl) : PDm X e (t6 mf i m) := (h _ (k6 hv ha hs)).imp fun σ H Q hpat => by
 obtain ⟨F0, H0, F, ρ, d, ρ', rl, e, q⟩ := hpat
 unfold t6 at e
 split at e
 ·rename_i r00 h0
  obtain ⟨p, xs, a1, a2, a3, a4, a5⟩ := rl.own i r00 h0
  split at e
  ·rename_i ds ρ1 h1
   split at e
   ·rename_i r0 h2
    split at e
    ·rename_i t r1 h3
     split at e
     ·rename_i d' h4
      cases e
      have h3 := yo1 h3
      refine ⟨_, a1, F0, H0, F, ρ, ds, ρ1, rl, h1, fun vs F1 H1 rl1 s1 rv => ?_⟩
      obtain ⟨p', ys, b1, b2, b3, b4, b5⟩ := rl1.own i r0 h2
      rw [a1] at b1; cases b1
      show spG X.K n mf ((.ref p :: vs) ++ []) H1 Q E
      rw [append_nil]
      refine ⟨by rw [length_cons, rv.length, hm ρ ds ρ1 h1, hl], p, vs, F1, r0, ds, t, r1, ys, rfl, b3, b2, rl1.fh, b4, rv, h3 p, ?_⟩
      cases t with
      | sh g =>
       cases h4
       exact fun v F' H' zs x rg f1 g1 rz => q v F' H' (rl1.lent h2 a1 x f1 g1 rz) (s1.trans x.ff) rg
      | fr gs =>
       cases h4
       intro w zs F' H' us x hw fw hw' rw' f1 g1 rz
       have hne : w ≠ p := fun z => by rw [z, b3] at hw; cases hw
       have rl2 := rl1.lent h2 a1 x f1 g1 rz
       have fz : Ext F' H' (upd F' w (.lst zs)) H' -> True := fun _ => True.intro
       have x2 : Ext F1 (del H1 p) (upd F' w (.lst zs)) H' := x.freeze fw (by rw [T6 hne]; exact hw) hw'
       have s2 : Same F' (upd F' w (.lst zs)) := (Same.refl F').put fw
       exact q _ (upd F' w (.lst zs)) H' (rl1.lent h2 a1 x2 (by rw [y9 (Ne.symm hne)]; exact f1) g1 (rz.mono s2)) (s1.trans x2.ff) (.lst (SqL.of y6) (rw'.mono s2))
      | pr _ _ => cases h4
     ·cases e
    ·cases e
   ·cases e
  ·cases e
 ·rename_i p00 r00 h0
  obtain ⟨a1, a2, a5, xs, a3, a4⟩ := rl.ob i p00 r00 h0
  split at e
  ·rename_i ds ρ1 h1
   split at e
   ·rename_i p r0 h2
    split at e
    ·rename_i t r1 h3
     split at e
     ·rename_i d' h4
      cases e
      refine ⟨_, a1, F0, H0, F, ρ, ds, ρ1, rl, h1, fun vs F1 H1 rl1 s1 rv => ?_⟩
      obtain ⟨b1, b2, b5, ys, b3, b4⟩ := rl1.ob i p r0 h2
      rw [a1] at b1; cases b1
      show spG X.K n mf ((.ref p00 :: vs) ++ []) H1 Q E
      rw [append_nil]
      refine ⟨by rw [length_cons, rv.length, hm ρ ds ρ1 h1, hl], p00, vs, F1, r0, ds, t, r1, ys, rfl, b3, b2, rl1.fh, b4, rv, h3, ?_⟩
      cases t with
      | sh g =>
       cases h4
       exact fun v F' H' zs x rg f1 g1 rz => q v F' H' (rl1.lentB h2 x f1 g1 rz) (s1.trans x.ff) rg
      | fr gs =>
       cases h4
       intro w zs F' H' us x hw fw hw' rw' f1 g1 rz
       have hne : w ≠ p00 := fun z => by rw [z, b3] at hw; cases hw
       have x2 : Ext F1 (del H1 p00) (upd F' w (.lst zs)) H' := x.freeze fw (by rw [T6 hne]; exact hw) hw'
       have s2 : Same F' (upd F' w (.lst zs)) := (Same.refl F').put fw
       exact q _ (upd F' w (.lst zs)) H' (rl1.lentB h2 x2 (by rw [y9 (Ne.symm hne)]; exact f1) g1 (rz.mono s2)) (s1.trans x2.ff) (.lst (SqL.of y6) (rw'.mono s2))
      | pr _ _ => cases h4
     ·cases e
    ·cases e
   ·cases e
  ·cases e
 ·cases e
end
end
section
section
variable {X : Cx} {a b c e : Expr} {ma mb : ME} {pos : Pos}
end
end
section
def LtAt (A : Around) (s : Shared) (v u : Value) (k : Bool) : Prop := ∀ (prog : Program) (w : World) (E : Value -> Shared -> Prop) (Q : Value -> Shared -> Prop), Q (.bool k) s -> wpAny (model prog w) A (richCompare .Lt v u) Q E s
def za2 (A : Around) (s : Shared) : List Value -> List Value -> Bool -> Prop
 | [], [], k => k = false
 | [], _ :: _, k => k = true
 | _ :: _, [], k => k = false
 | y :: ys, x :: xs, k => ∃ e, SeqAt.EqAt A s y x e /\ ((e = true /\ za2 A s ys xs k) \/ (e = false /\ LtAt A s y x k))
section
open PySem.SeqAt
open PySem.AutoSeq1 (wpAny_loadPart')
open PySem.MeetsSeq PySem.MeetsSeq2 PySem.MeetsSeq3
set_option maxHeartbeats 4000000 in
theorem xq6 (l b : Addr) (items items2 : Array Value) (n n2 : Nat) (dd dd2 : Option Addr) (sl sl2 : Array (Option Value)) (k : Bool) :
  Meets (Builtin.«tuple.__lt__» ⟨[.ref l, .ref b], []⟩)
   (fun A R s => s.heap.get? l = some { cls := .type "tuple", dict := dd, data := .seq items n, slots := sl } /\ s.heap.get? b = some { cls := .type "tuple", dict := dd2, data := .seq items2 n2, slots := sl2 } /\
    za2 A.in1 s items.toList items2.toList k /\ R (.ok (.ret (.bool k))) s) :=
 .of_wp fun prog w A R s h => by
  obtain ⟨hp, g, d, tk, os⟩ := s; obtain ⟨hl, hb, hx, h⟩ := h
  have f2 := AutoSeq1.sub_tuple_tuple
  wp_walk using wpAny_loadPart' hl, wpAny_loadPart' hb, wpAny_forIn_list _ (fun rest b s' => b.1 = none /\ s' = ⟨hp, g, d, tk, os⟩ /\ ∃ (vs ws : List Value), rest = vs.zip ws /\
   vs.length + items2.size = ws.length + items.size /\ za2 A.in1 ⟨hp, g, d, tk, os⟩ vs ws k) _
  case turn =>
   rintro ⟨y, x⟩ rest b s' ⟨hb', rfl, vs, ws, hz, hlen, hL⟩
   cases vs with
   | nil => rw [zip_nil_left] at hz; cases hz
   | cons a vs =>
    cases ws with
    | nil => rw [zip_nil_right] at hz; cases hz
    | cons c ws =>
     rw [zip_cons_cons] at hz
     injection hz with hyx hrest
     injection hyx with hy hx'
     subst hy hx'
     simp only [length_cons] at hlen
     obtain ⟨e, he, hL⟩ := hL
     refine wpAny_bind (he prog w _ _ ?_)
     rcases hL with ⟨rfl, hL⟩ | ⟨rfl, hL⟩
     ·wp_walk
      exact ⟨rfl, rfl, vs, ws, hrest, by omega, hL⟩
     ·have hri := hL prog w
      wp_walk using hri
      exact ⟨_, rfl, by simpa using h⟩
  case fin =>
   rintro ⟨b1, b2⟩ s' ⟨hb', rfl, vs, ws, hz, hlen, hL⟩
   simp only at hb'
   subst hb'
   have hv : k = decide (items.size < items2.size) := by
    cases vs with
    | nil =>
     cases ws with
     | nil =>
      simp only [length_nil] at hlen
      rw [show k = false from hL]
      exact (decide_eq_false (by omega)).symm
     | cons c ws =>
      simp only [length_nil, length_cons] at hlen
      rw [show k = true from hL]
      exact (decide_eq_true (by omega)).symm
    | cons a vs =>
     cases ws with
     | nil =>
      simp only [length_nil, length_cons] at hlen
      rw [show k = false from hL]
      exact (decide_eq_false (by omega)).symm
     | cons c ws =>
      rw [zip_cons_cons] at hz
      cases hz
   rw [hv] at h
   wp_walk
   exact ⟨_, rfl, by simpa [Builtin.Tuple.tupleCompareSizes] using h⟩
  case h =>
   exact ⟨rfl, rfl, items.toList, items2.toList, rfl, by simp; omega, hx⟩
set_option maxHeartbeats 4000000 in
theorem zm7 (l b : Addr) (items items2 : Array Value) (n n2 : Nat) (dd dd2 : Option Addr) (sl sl2 : Array (Option Value)) (r : Bool) (k : Nat) :
  ∀ i : Nat, items.size - i = k -> i <= items.size -> i <= items2.size -> Meets (Builtin.«list.__eq__.loop» ⟨[.ref l, .ref b, rawInt i, rawInt 0], []⟩)
   (fun A R s => s.heap.get? l = some { cls := .type "list", dict := dd, data := .seq items n, slots := sl } /\ s.heap.get? b = some { cls := .type "list", dict := dd2, data := .seq items2 n2, slots := sl2 } /\
    za2 A.in1 s (items.toList.drop i) (items2.toList.drop i) r /\ R (.ok (.ret (.bool r))) s) := by
 induction k with
 | zero =>
  intro i hk h1 h2 prog w A R s h
  obtain ⟨hp, g, d, tk, os⟩ := s; obtain ⟨hl, hb, hx, h⟩ := h
  wp_walk using wpAny_loadPart' hl, wpAny_loadPart' hb
  have hi1 : items[((i : Nat) : Int).toNat]? = none := by simp; omega
  have e1 : items.toList.drop i = [] := drop_eq_nil_of_le (by simp; omega)
  rw [e1] at hx
  have hr : r = decide (items.size < items2.size) := by
   cases e2 : items2.toList.drop i with
   | nil =>
    rw [e2] at hx
    have : items2.size <= i := by simpa using e2
    rw [show r = false from hx]
    exact (decide_eq_false (by omega)).symm
   | cons c ws =>
    rw [e2] at hx
    have : i < items2.size := by
     rcases Nat.lt_or_ge i items2.size with z | z
     ·exact z
     ·rw [drop_eq_nil_of_le (by simpa using z)] at e2; cases e2
    rw [show r = true from hx]
    exact (decide_eq_true (by omega)).symm
  rw [hi1]
  wp_walk using wpAny_loadPart' hl, wpAny_loadPart' hb
  rw [hr] at h
  exact h
 | succ k ih =>
  intro i hk h1 h2 prog w A R s h
  obtain ⟨hp, g, d, tk, os⟩ := s; obtain ⟨hl, hb, hx, h⟩ := h
  have hlt : i < items.size := by omega
  have hi1 : items[((i : Nat) : Int).toNat]? = some items[i] := by simp [hlt]
  have e1 : items.toList.drop i = items[i] :: items.toList.drop (i + 1) := by rw [drop_eq_getElem_cons (by simpa using hlt)]; simp
  have hc : ((i : Int) + 1) = ((i + 1 : Nat) : Int) := by push_cast; rfl
  rw [e1] at hx
  by_cases hlt2 : i < items2.size
  ·have hi2 : items2[((i : Nat) : Int).toNat]? = some items2[i] := by simp [hlt2]
   have e2 : items2.toList.drop i = items2[i] :: items2.toList.drop (i + 1) := by rw [drop_eq_getElem_cons (by simpa using hlt2)]; simp
   rw [e2] at hx
   obtain ⟨e, he, hx⟩ := hx
   wp_walk using wpAny_loadPart' hl, wpAny_loadPart' hb
   rw [hi1, hi2]
   refine wpAny_bind (he prog w _ _ ?_)
   rcases hx with ⟨rfl, hx⟩ | ⟨rfl, hx⟩
   ·wp_walk
    rw [hc]
    exact ⟨plainId_quiet plain_eq_loop _, codeAny_builtin entry_eq_loop (by
     rw [Around.under_plainId plain_eq_loop _]
     exact ih (i + 1) (by omega) (by omega) (by omega) prog w A R _ ⟨hl, hb, hx, h⟩)⟩
   ·have hri := hx prog w
    wp_walk using wpAny_loadPart' hl, wpAny_loadPart' hb
    rw [hi1, hi2]
    wp_walk using hri
    exact h
  ·have hi2 : items2[((i : Nat) : Int).toNat]? = none := by simp; omega
   have e2 : items2.toList.drop i = [] := drop_eq_nil_of_le (by simp; omega)
   rw [e2] at hx
   have hr : r = decide (items.size < items2.size) := by
    rw [show r = false from hx]
    exact (decide_eq_false (by omega)).symm
   wp_walk using wpAny_loadPart' hl, wpAny_loadPart' hb
   rw [hi1, hi2]
   wp_walk using wpAny_loadPart' hl, wpAny_loadPart' hb
   rw [hr] at h
   exact h
set_option maxHeartbeats 4000000 in
theorem xj8 (l b : Addr) (items items2 : Array Value) (n n2 : Nat) (dd dd2 : Option Addr) (sl sl2 : Array (Option Value)) (r : Bool) :
  Meets (Builtin.«list.__lt__» ⟨[.ref l, .ref b], []⟩)
   (fun A R s => s.heap.get? l = some { cls := .type "list", dict := dd, data := .seq items n, slots := sl } /\ s.heap.get? b = some { cls := .type "list", dict := dd2, data := .seq items2 n2, slots := sl2 } /\
    za2 A.in1 s items.toList items2.toList r /\ R (.ok (.ret (.bool r))) s) := by
 intro prog w A R s h
 obtain ⟨hp, g, d, tk, os⟩ := s; obtain ⟨hl, hb, hx, h⟩ := h
 have f3 := AutoSeq1.sub_list_list
 wp_walk using wpAny_loadPart' hl, wpAny_loadPart' hb
 exact ⟨plainId_quiet plain_eq_loop _, codeAny_builtin entry_eq_loop (by
  rw [Around.under_plainId plain_eq_loop _]
  exact zm7 l b items items2 n n2 dd dd2 sl sl2 r _ 0 rfl (Nat.zero_le _) (Nat.zero_le _) prog w A R _ ⟨hl, hb, by simpa using hx, h⟩)⟩
end
def lexF (eq lt : D -> D -> Option Bool) : List D -> List D -> Option Bool
 | [], [] => some false
 | [], _ :: _ => some true
 | _ :: _, [] => some false
 | d :: ds, e :: es => match eq d e with
  | some true => lexF eq lt ds es
  | some false => lt d e
  | none => none
def ltF : Nat -> D -> D -> Option Bool
 | 0, _, _ => none
 | n + 1, .lst ds, .lst es => lexF (eqF n) (ltF n) ds es
 | n + 1, .tup ds, .tup es => lexF (eqF n) (ltF n) ds es
 | _ + 1, .int i, .int j => some (decide (i < j))
 | _ + 1, _, _ => none
section
variable {X : Cx} {pins : List (Addr × Obj)} {σ : St} {H : Hp} {s : Shared}
theorem ys7 (I : Inv X pins σ H s) (n : Nat) {A : Around} (hu : A.units + n < cLine) (ih : ∀ {x y : V} {v u : Value} {d e : D} {k : Bool}, Rep X.K H x d -> Rep X.K H y e -> RelV x v -> RelV y u -> ltF n d e = some k -> LtAt A s v u k) :
  ∀ {xs ys : List V} {vs us : List Value} {ds es : List D} {k : Bool}, Reps X.K H xs ds -> Reps X.K H ys es -> Vals xs vs -> Vals ys us -> lexF (eqF n) (ltF n) ds es = some k -> za2 A s vs us k
 | _, _, _, _, _, _, k, .nil, .nil, .nil, .nil, h => by cases h; exact rfl
 | _, _, _, _, _, _, k, .nil, .cons _ _, .nil, .cons _ _, h => by cases h; exact rfl
 | _, _, _, _, _, _, k, .cons _ _, .nil, .cons _ _, .nil, h => by cases h; exact rfl
 | _, _, _, _, _, _, k, .cons (d := d) r1 t1, .cons (d := e) r2 t2, .cons q1 p1, .cons q2 p2, h => by
  unfold lexF at h
  cases hq : eqF n d e with
  | none => rw [hq] at h; cases h
  | some b =>
   rw [hq] at h
   refine ⟨b, (yg1 I n hu r1 r2 q1 q2 hq).1, ?_⟩
   cases b with
   | true => exact .inl ⟨rfl, ys7 I n hu ih t1 t2 p1 p2 h⟩
   | false => exact .inr ⟨rfl, ih r1 r2 q1 q2 h⟩
theorem yi9 (I : Inv X pins σ H s) : ∀ (n : Nat) {A : Around} {x y : V} {v u : Value} {d e : D} {k : Bool}, A.units + n < cLine -> Rep X.K H x d -> Rep X.K H y e -> RelV x v -> RelV y u -> ltF n d e = some k -> LtAt A s v u k
 | 0, A, x, y, v, u, d, e, k, hu, r1, r2, q1, q2, h => by simp [ltF] at h
 | n + 1, A, x, y, v, u, d, e, k, hu, r1, r2, q1, q2, h => by
  have hu0 : A.units < cLine := by omega
  have hu1 : A.in1.units + n < cLine := by show A.units + 1 + n < cLine; omega
  cases d with
  | int i =>
   cases e with
   | int j =>
    obtain rfl := r1.i'
    obtain rfl := r2.i'
    obtain ⟨t, rfl⟩ := q1
    obtain ⟨t', rfl⟩ := q2
    cases h
    exact fun prog w E Q hQ => HT.rcLt_int A s i t j t' prog w E Q hQ
   | _ => cases h
  | lst ds1 =>
   cases e with
   | lst ds2 =>
    obtain ⟨a1, xs1, rfl, sq, rs⟩ := r1.l'
    obtain ⟨a2, xs2, rfl, sq2, rs2⟩ := r2.l'
    cases q1; cases q2
    obtain ⟨its, vr, ⟨⟨cls, dd, data, sl⟩, m, ho, hc, hdd, hd⟩, _⟩ := I.list sq
    obtain ⟨its2, vr2, ⟨⟨cls2, dd2, data2, sl2⟩, m2, ho2, hc2, hdd2, hd2⟩, _⟩ := I.list sq2
    simp only at hc hd hc2 hd2
    subst hc hd hc2 hd2
    have L := ys7 I n hu1 (fun a b c d e => yi9 I n hu1 a b c d e) rs rs2 vr vr2 (show lexF (eqF n) (ltF n) _ _ = some k from h)
    intro prog w E Q hQ
    exact richCompare_meets_room (op := .Lt) ⟨_, ho, rfl⟩ ⟨_, ho2, rfl⟩ PySem.F.slot_list_lt PySem.F.entry_list_lt (PySem.F.args_list_lt_2 _ _) (xj8 _ _ its.toArray its2.toArray m m2 dd dd2 sl sl2 k)
     ⟨ho, ho2, by simpa using L, show Value.bool k ≠ Value.notImplemented /\ Q (.bool k) s from ⟨(fun x => nomatch x), hQ⟩⟩ hu0
   | _ => cases h
  | tup ds1 =>
   cases e with
   | tup ds2 =>
    obtain ⟨a1, xs1, rfl, sq, rs⟩ := r1.t'
    obtain ⟨a2, xs2, rfl, sq2, rs2⟩ := r2.t'
    cases q1; cases q2
    obtain ⟨its, vr, ⟨⟨cls, dd, data, sl⟩, ho, hc, m, hd⟩, _⟩ := I.tuple sq
    obtain ⟨its2, vr2, ⟨⟨cls2, dd2, data2, sl2⟩, ho2, hc2, m2, hd2⟩, _⟩ := I.tuple sq2
    simp only at hc hd hc2 hd2
    subst hc hd hc2 hd2
    have L := ys7 I n hu1 (fun a b c d e => yi9 I n hu1 a b c d e) rs rs2 vr vr2 (show lexF (eqF n) (ltF n) _ _ = some k from h)
    intro prog w E Q hQ
    exact richCompare_meets_room (op := .Lt) ⟨_, ho, rfl⟩ ⟨_, ho2, rfl⟩ PySem.F.slot_tuple_lt PySem.F.entry_tuple_lt (PySem.F.args_tuple_lt_2 _ _) (xq6 _ _ its.toArray its2.toArray m m2 dd dd2 sl sl2 k)
     ⟨ho, ho2, by simpa using L, show Value.bool k ≠ Value.notImplemented /\ Q (.bool k) s from ⟨(fun x => nomatch x), hQ⟩⟩ hu0
   | _ => cases h
  | _ => cases h
end
end
section
def zw4 (X : Cx) (kv : Value) (mk : D -> Option D) : Prop := ∀ (pins : List (Addr × Obj)) (σ : St) (H F : Hp) (s : Shared) (x : V) (u : Value) (d kd : D), Inv X pins σ H s -> Same F H -> Rep X.K F x d -> RelV x u -> mk d = some kd ->
 wpAny (model X.prog X.w) X.A.in1 (call kv [u]) (fun w s' => ∃ y F' H', Inv X pins σ H' s' /\ RelV y w /\ Ext F H F' H' /\ Rep X.K F' y kd) (fun _ _ => False) s
def shOf : Option Rt -> Option D
 | some (.sh d) => some d
 | some (.fr es) => some (.lst es)
 | _ => none
theorem L7 {X : Cx} {k : Nat} {f : Addr} {fd : FuncData} {p : Str} {m : MF} (F : FnOk X.prog X.w X.K X.mg X.base CX0 k f fd [p] (spR X.K 1 m)) (hr : Room k X.A.in1) (hb : Binds X.K fd [p] []) : zw4 X (.ref f) (fun d => shOf (m [d])) := by
 intro pins σ H Fh s x u d kd I sf r rx hm
 have hm : shOf (m [d]) = some kd := hm
 have sp : spR X.K 1 m [x] H (fun v H' => ∃ F', Ext Fh H F' H' /\ Rep X.K F' v kd) E0 := by
  cases h : m [d] with
  | none => rw [h] at hm; cases hm
  | some t =>
   rw [h] at hm
   cases t with
   | sh g => cases hm; exact ⟨rfl, Fh, [d], _, sf, .cons r .nil, h, fun v F' H' x' r' => ⟨F', x', r'⟩⟩
   | fr gs => cases hm; exact ⟨rfl, Fh, [d], _, sf, .cons r .nil, h, fun q xs F' H' x' hp hF hH rs => ⟨upd F' q (.lst xs), x'.freeze hF hp hH, .lst (SqL.of y6) (rs.mono ((Same.refl F').put hF))⟩⟩
   | pr _ _ => cases hm
 have e0 := I.env0
 have env : Env0 X.prog X.w X.K X.mg X.base X.A.in1 X.stack s H := ⟨e0.frames, e0.mod, e0.bs, e0.bsz, e0.funs, e0.frf, e0.hok, e0.bare⟩
 refine wpAny_call (codeAny_mono (F.run X.A.in1 X.stack s H ⟨[u], []⟩ [u] [x] _ E0 hr env (hb s [u] I.kIn rfl) (.cons rx .nil) sp) fun r s' hq => ?_)
 cases r with
 | error e => exact hq.elim
 | ok fl =>
  cases fl with
  | ret v =>
   obtain ⟨y, H', I', ry, F', x', r'⟩ := I.after hq
   exact ⟨y, F', H', I', ry, x', r'⟩
  | next => exact hq.elim
  | brk => exact hq.elim
  | cont => exact hq.elim
def minF (mk : D -> Option D) : List D -> D -> D -> Option D
 | [], b, _ => some b
 | d :: ds, b, kb => match mk d with
  | some kd => (match ltF 8 kd kb with | some true => minF mk ds d kd | some false => minF mk ds b kb | none => none)
  | none => none
section
variable {X : Cx} {pins : List (Addr × Obj)} {σ : St}
theorem FpOk.now {H H' : Hp} {b : Addr} (h : FpOk X pins H b) (hn : H' b = none) : FpOk X pins H' b := ⟨hn, h.2⟩
theorem Inv.pin2 {H : Hp} {s : Shared} {a b : Addr} {oa ob : Obj} (I : Inv X pins σ H s) (ha : FpOk X pins H a) (hb : FpOk X pins H b) (ea : s.heap.get? a = some oa) (eb : s.heap.get? b = some ob) (da : ∀ v, oa.data ≠ .cell v) (db : ∀ v, ob.data ≠ .cell v) : Inv X (pins ++ [(a, oa), (b, ob)]) σ H s :=
 I.pins_of fun p hp => by
  rcases List.mem_append.mp hp with hp | hp
  ·exact I.pin p (mem_append_right _ hp)
  ·simp only [mem_cons, not_mem_nil, or_false] at hp
   rcases hp with rfl | rfl
   ·exact ⟨ea, ha.1, ha.2.1, ha.2.2.1, da⟩
   ·exact ⟨eb, hb.1, hb.2.1, hb.2.2.1, db⟩
set_option maxHeartbeats 8000000 in
theorem zg0 {q : Addr} {mk : D -> Option D} (hk : zw4 X (.ref q) mk) (hc : X.calm = true) (hu : X.A.units + 64 < cLine) {l I S : Addr} {xs : List V} {ds : List D} {kw : List (Str × Value)} {dm : D} (hIS : I ≠ S) (hlI : l ≠ I) (hlS : l ≠ S) :
  ∀ (r j : Nat) (H F H0 F0 : Hp) (s : Shared) (xb yb : V) (vb kb : Value) (db kdb : D) (c : Nat) (R : Result -> Shared -> Prop),
   ds.length - (j + 1) = r -> j + 1 <= ds.length -> Inv X pins σ H s -> Ext F0 H0 F H -> SqL X.K H l xs -> Reps X.K F xs ds -> s.heap.IsListIter I l (j + 1) -> s.heap.get? S = some (seqObj "list" #[vb, kb] c) -> FpOk X pins H I -> FpOk X pins H S ->
   RelV xb vb -> Rep X.K F xb db -> RelV yb kb -> Rep X.K F yb kdb -> minF mk (ds.drop (j + 1)) db kdb = some dm ->
   (∀ x v F' H' s', Inv X pins σ H' s' -> RelV x v -> Ext F0 H0 F' H' -> Rep X.K F' x dm -> R (.ok (.ret v)) s') ->
   codeAny (model X.prog X.w) X.A (.builtin "min.loop" ⟨[.ref I, .ref q, .ref S], kw⟩) R s := by
 have hname : (toString "min" ++ toString ".loop" : String) = "min.loop" := by decide
 intro r
 induction r with
 | zero =>
  intro j H F H0 F0 s xb yb vb kb db kdb c R hr hj I' ext sq rs hit hS fI fS rb pb ry py hm hR
  have hin : j + 1 = ds.length := by omega
  obtain ⟨its, vr, pl, _⟩ := I'.list sq
  have zl : its.length = ds.length := by rw [<- vr.length, rs.length]
  rw [hin, drop_length] at hm
  have hm : some db = some dm := hm
  cases hm
  refine codeAny_builtin PySem.F.entry_min_loop ?_
  rw [Around.under_plainId PySem.F.plain_min_loop _]
  show wpAny _ X.A.in1 (seqItems? (.ref S) >>= _) _ _ _
  refine wpAny_bind (wpAny_seqItems hS rfl ?_)
  show wpAny _ X.A.in1 (tryCatch (pyNext (.ref I)) _ >>= _) _ _ _
  refine wpAny_bind (wpAny_tryCatch (wpAny_pyNext_list_end (I'.ok.hd hc) hit pl.isList (by simp; omega) fun h' hk' => ?_))
  have hS' : h'.get? S = some (seqObj "list" #[vb, kb] c) := hk' S _ (Ne.symm hIS) hS
  have s1 := Heap.SameBut.update h' S (Obj.mapSeq fun _ => (#[] : Array Value))
  show wpAny _ X.A.in1 (updateSeq S (fun _ => #[]) >>= _) _ _ _
  refine wpAny_bind ?_
  refine wpAny_updateSeq hS' rfl (wpAny_bind (wpAny_letGo (wpAny_pure ?_)))
  have I9 : Inv X pins σ H { s with heap := h'.update S (Obj.mapSeq fun _ => (#[] : Array Value)), toks := s.toks } := I'.turnedL (fp := [I, S]) (t' := s.toks) (fun b o hb e => by
   simp only [mem_cons, not_mem_nil, or_false, not_or] at hb
   exact (s1.2 b hb.2).trans (hk' b o hb.1 e)) (fun b hb => by
   simp only [mem_cons, not_mem_nil, or_false] at hb
   rcases hb with rfl | rfl <;> assumption)
  exact hR xb vb F H _ I9 rb ext pb
 | succ r ih =>
  intro j H F H0 F0 s xb yb vb kb db kdb c R hr hj I' ext sq rs hit hS fI fS rb pb ry py hm hR
  have hlt : j + 1 < ds.length := by omega
  obtain ⟨its, vr, pl, _⟩ := I'.list sq
  have zl : its.length = ds.length := by rw [<- vr.length, rs.length]
  obtain ⟨d, hd⟩ : ∃ d, ds[j + 1]? = some d := ⟨_, getElem?_eq_getElem hlt⟩
  obtain ⟨x, hx, px⟩ := rs.get hd
  obtain ⟨v, hv, rx⟩ := vr.get hx
  rw [g6 hd] at hm
  unfold minF at hm
  cases hkd : mk d with
  | none => rw [hkd] at hm; cases hm
  | some kd =>
   rw [hkd] at hm
   dsimp only at hm
   refine codeAny_builtin PySem.F.entry_min_loop ?_
   rw [Around.under_plainId PySem.F.plain_min_loop _]
   show wpAny _ X.A.in1 (seqItems? (.ref S) >>= _) _ _ _
   refine wpAny_bind (wpAny_seqItems hS rfl ?_)
   show wpAny _ X.A.in1 (tryCatch (pyNext (.ref I)) _ >>= _) _ _ _
   refine wpAny_bind (wpAny_tryCatch (wpAny_pyNext_list_item hit pl.isList (by simpa using hv) fun h1 hit1 s1 => ?_))
   have I1 : Inv X pins σ H { s with heap := h1, toks := s.toks } := I'.turnedL (fp := [I]) (fun b o hb e => s1.extBut b o (by simpa using hb) e) (fun b hb => by rw [List.mem_singleton.mp hb]; exact fI)
   have hS1 : h1.get? S = some (seqObj "list" #[vb, kb] c) := s1.extBut _ _ (Ne.symm hIS) hS
   obtain ⟨oI, eI, cI, dI⟩ := id hit1
   have Ip := I1.pin2 fI fS eI hS1 (fun v z => by rw [dI] at z; cases z) (fun v z => by cases z)
   show wpAny _ X.A.in1 (tryCatch (holding [v] (call (.ref q) [v])) _ >>= _) _ _ _
   refine wpAny_bind (wpAny_tryCatch (wpAny_holding (wpAny_mono (hk (pins ++ [(I, oI), (S, seqObj "list" #[vb, kb] c)]) σ H F _ x v d kd Ip ext.fh px rx hkd) (fun w s2 hw => ?_) fun _ _ z => z.elim)))
   obtain ⟨y, F2, H2, I2, rw2, x2, py2⟩ := hw
   have pI := I2.pin (I, oI) (by simp)
   have pS := I2.pin (S, seqObj "list" #[vb, kb] c) (by simp)
   have I2' : Inv X pins σ H2 s2 := I2.unpinned
   have fI2 : FpOk X pins H2 I := fI.now pI.2.1
   have fS2 : FpOk X pins H2 S := fS.now pS.2.1
   have hit2 : s2.heap.IsListIter I l (j + 1 + 1) := ⟨oI, pI.1, cI, dI⟩
   cases hlt8 : ltF 8 kd kdb with
   | none => rw [hlt8] at hm; cases hm
   | some bt =>
    rw [hlt8] at hm
    have hcmp := yi9 I2' 8 (A := X.A.in1) (by show X.A.units + 1 + 8 < cLine; omega) (py2.mono x2.fh) ((py.mono x2.ff).mono x2.fh) rw2 ry hlt8
    show wpAny _ X.A.in1 (tryCatch (holding [v, w] (richCompare .Lt w kb >>= _)) _ >>= _) _ _ _
    refine wpAny_bind (wpAny_tryCatch (wpAny_holding (wpAny_bind (hcmp X.prog X.w _ _ ?_))))
    refine wpAny_bind (wpAny_holding (wpAny_truthy_bool ?_))
    refine wpAny_bind (wpAny_letGo (wpAny_pure ?_))
    cases bt with
    | true =>
     have s3 := Heap.SameBut.update s2.heap S (Obj.mapSeq fun _ => #[v, w])
     obtain ⟨c2, hc2⟩ : ∃ c2, (s2.heap.update S (Obj.mapSeq fun _ => #[v, w])).get? S = some (seqObj "list" #[v, w] c2) := ⟨_, get?_update_seq pS.1 fun _ => #[v, w]⟩
     simp only [if_true]
     refine wpAny_bind ?_
     refine wpAny_updateSeq pS.1 rfl (wpAny_bind (wpAny_letGo ?_))
     rw [hname]
     have I3 : Inv X pins σ H2 { s2 with heap := s2.heap.update S (Obj.mapSeq fun _ => #[v, w]), toks := s2.toks } := I2'.turnedL (fp := [S]) (fun b o hb e => (s3.2 b (by simpa using hb)).trans e) (fun b hb => by rw [List.mem_singleton.mp hb]; exact fS2)
     refine wpAny_pure ⟨plainId_quiet PySem.F.plain_min_loop _, ih (j + 1) H2 F2 H0 F0 _ x y v w d kd c2 R (by omega) hlt I3 (ext.trans x2) (x2.hh.seq sq) (rs.mono x2.ff) ⟨oI, (s3.2 I hIS).trans pI.1, cI, dI⟩ hc2 fI2 fS2 rx (px.mono x2.ff) rw2 py2 hm hR⟩
    | false =>
     simp only [Bool.false_eq_true, if_false]
     refine wpAny_bind (wpAny_letGo ?_)
     rw [hname]
     refine wpAny_pure ⟨plainId_quiet PySem.F.plain_min_loop _, ih (j + 1) H2 F2 H0 F0 _ xb yb vb kb db kdb c R (by omega) hlt I2' (ext.trans x2) (x2.hh.seq sq) (rs.mono x2.ff) hit2 pS.1 fI2 fS2 rb (pb.mono x2.ff) ry (py.mono x2.ff) hm hR⟩
end
end
section
theorem zj8 (a v u : Value) : argsOk "min" ⟨[a], [(Str.ofString "key", v), (Str.ofString "default", u)]⟩ := by unfold argsOk; kernel_rfl
def minD (mk : D -> Option D) (ds : List D) (d0 : D) : Option D := match ds with
 | [] => some d0
 | d :: ds => (match mk d with | some kd => minF mk ds d kd | none => none)
section
variable {X : Cx} {pins : List (Addr × Obj)} {σ : St}
set_option maxHeartbeats 8000000 in
theorem xw7 {q : Addr} {mk : D -> Option D} (hk : zw4 X (.ref q) mk) (hc : X.calm = true) (hu : X.A.units + 64 < cLine) {l : Addr} {xs : List V} {ds : List D} {dm d0 : D} {H F : Hp} {s : Shared} {x0 : V} {v0 : Value} {E : Value -> Shared -> Prop} {Q : Value -> Shared -> Prop}
  (I : Inv X pins σ H s) (sf : Same F H) (sq : SqL X.K H l xs) (rs : Reps X.K F xs ds) (r0 : RelV x0 v0) (p0 : Rep X.K F x0 d0) (hm : minD mk ds d0 = some dm)
  (hQ : ∀ x v F' H' s', Inv X pins σ H' s' -> RelV x v -> Ext F H F' H' -> Rep X.K F' x dm -> Q v s') :
  wpAny (model X.prog X.w) X.A (call (.builtin "min") [.ref l] [(Str.ofString "key", .ref q), (Str.ofString "default", v0)]) Q E s := by
 have hname : (toString "min" ++ toString ".loop" : String) = "min.loop" := by decide
 obtain ⟨its, vr, pl, _⟩ := I.list sq
 have hls := pl.isList
 obtain ⟨ol, hol, _⟩ := id hls
 have hll : l < s.heap.objs.size := Heap.lt_size hol
 refine kmk_tree PySem.F.kind_min PySem.F.plain_min PySem.F.entry_min (zj8 _ _ _) ?_
 show wpAny _ X.A.in1 (Builtin.Builtins.bindParams "min" ["key", "default"] 0 ⟨[], [(Str.ofString "key", .ref q), (Str.ofString "default", v0)]⟩ >>= _) _ _ s
 refine wpAny_bind (wpAny_of_eq (show Builtin.Builtins.bindParams "min" ["key", "default"] 0 ⟨[], [(Str.ofString "key", .ref q), (Str.ofString "default", v0)]⟩ = pure [some (.ref q), some v0] from rfl) ?_)
 refine wpAny_bind (wpAny_pure ?_)
 refine wpAny_bind (wpAny_pyIter_list hls ?_)
 refine wpAny_bind (wpAny_newList ?_ (Nat.zero_le _))
 rw [hname]
 refine wpAny_pure ⟨plainId_quiet PySem.F.plain_min_loop _, ?_⟩
 generalize hIo : ({ cls := .type "list_iterator", data := .fields #[.ref l, .int 0 0] } : Obj) = oI0
 have hS : (s.heap.push oI0).objs.size = s.heap.objs.size + 1 := size_push' ..
 have hlI : l ≠ s.heap.objs.size := Nat.ne_of_lt hll
 have hlS : l ≠ (s.heap.push oI0).objs.size := by rw [hS]; exact Nat.ne_of_lt (Nat.lt_succ_of_lt hll)
 have hIS : s.heap.objs.size ≠ (s.heap.push oI0).objs.size := by rw [hS]; exact Nat.ne_of_lt (Nat.lt_succ_self _)
 have gI : ((s.heap.push oI0).push (seqObj "list" #[] 0)).get? s.heap.objs.size = some oI0 := Heap.get?_push_of_some _ (Heap.get?_push_size _ (by rw [<- hIo]; rfl))
 have gS : ((s.heap.push oI0).push (seqObj "list" #[] 0)).get? (s.heap.push oI0).objs.size = some (seqObj "list" #[] 0) := Heap.get?_push_size _ rfl
 have fI : FpOk X pins H s.heap.objs.size := I.fpOk (Nat.le_refl _) (I.hok.fresh (Nat.le_refl _))
 have fS : FpOk X pins H (s.heap.push oI0).objs.size := I.fpOk (by rw [hS]; exact Nat.le_succ _) (I.hok.fresh (by rw [hS]; exact Nat.le_succ _))
 have I0 : Inv X pins σ H { s with heap := (s.heap.push oI0).push (seqObj "list" #[] 0), toks := s.toks } := I.turnedL (fp := []) (fun b o _ e => Heap.get?_push_of_some _ (Heap.get?_push_of_some _ e)) (fun b hb => by cases hb)
 generalize (s.heap.push oI0).objs.size = S at *
 generalize hI : s.heap.objs.size = J at *
 generalize (s.heap.push oI0).push (seqObj "list" #[] 0) = h0 at *
 have hit : h0.IsListIter J l 0 := ⟨_, gI, by rw [<- hIo], by rw [<- hIo]; rfl⟩
 have zl : its.length = ds.length := by rw [<- vr.length, rs.length]
 obtain ⟨its', vr', pl', _⟩ := I0.list sq
 have zl' : its'.length = ds.length := by rw [<- vr'.length, rs.length]
 refine codeAny_builtin PySem.F.entry_min_loop ?_
 rw [Around.under_plainId PySem.F.plain_min_loop _]
 show wpAny _ X.A.in1 (seqItems? (.ref S) >>= _) _ _ _
 refine wpAny_bind (wpAny_seqItems gS rfl ?_)
 show wpAny _ X.A.in1 (tryCatch (pyNext (.ref J)) _ >>= _) _ _ _
 cases ds with
 | nil =>
  have hm : some d0 = some dm := hm
  cases hm
  refine wpAny_bind (wpAny_tryCatch (wpAny_pyNext_list_end (I.ok.hd hc) hit pl'.isList (by simp at zl' ⊢; simp [zl']) fun h' hk' => ?_))
  refine wpAny_bind (wpAny_rule (wpAny_pure ?_))
  have I9 := I0.turnedL (h' := h') (fp := [J]) (t' := s.toks) (fun b o hb e => hk' b o (by simpa using hb) e) (fun b hb => by rw [List.mem_singleton.mp hb]; exact fI)
  exact hQ x0 v0 F H _ I9 r0 (Ext.refl sf) p0
 | cons d ds =>
  obtain ⟨x, hx, px⟩ := rs.get (i := 0) (d := d) rfl
  obtain ⟨v, hv, rx⟩ := vr'.get hx
  unfold minD at hm
  dsimp only at hm
  cases hkd : mk d with
  | none => rw [hkd] at hm; cases hm
  | some kd =>
   rw [hkd] at hm
   dsimp only at hm
   refine wpAny_bind (wpAny_tryCatch (wpAny_pyNext_list_item hit pl'.isList (by simpa using hv) fun h1 hit1 s1 => ?_))
   have I1 := I0.turnedL (h' := h1) (t' := s.toks) (fp := [J]) (fun b o hb e => s1.extBut b o (by simpa using hb) e) (fun b hb => by rw [List.mem_singleton.mp hb]; exact fI)
   have hS1 : h1.get? S = some (seqObj "list" #[] 0) := s1.extBut _ _ (Ne.symm hIS) gS
   obtain ⟨oI, eI, cI, dI⟩ := id hit1
   have Ip := I1.pin2 fI fS eI hS1 (fun v z => by rw [dI] at z; cases z) (fun v z => by cases z)
   show wpAny _ X.A.in1 (tryCatch (holding [v] (call (.ref q) [v])) _ >>= _) _ _ _
   refine wpAny_bind (wpAny_tryCatch (wpAny_holding (wpAny_mono (hk (pins ++ [(J, oI), (S, seqObj "list" #[] 0)]) σ H F _ x v d kd Ip sf px rx hkd) (fun w s2 hw => ?_) fun _ _ z => z.elim)))
   obtain ⟨y, F2, H2, I2, rw2, x2, py2⟩ := hw
   have pI := I2.pin (J, oI) (by simp)
   have pS := I2.pin (S, seqObj "list" #[] 0) (by simp)
   have I2' : Inv X pins σ H2 s2 := I2.unpinned
   have fI2 : FpOk X pins H2 J := fI.now pI.2.1
   have fS2 : FpOk X pins H2 S := fS.now pS.2.1
   have s3 := Heap.SameBut.update s2.heap S (Obj.mapSeq fun _ => #[v, w])
   obtain ⟨c2, hc2⟩ : ∃ c2, (s2.heap.update S (Obj.mapSeq fun _ => #[v, w])).get? S = some (seqObj "list" #[v, w] c2) := ⟨_, get?_update_seq pS.1 fun _ => #[v, w]⟩
   show wpAny _ X.A.in1 (updateSeq S (fun _ => #[v, w]) >>= _) _ _ _
   refine wpAny_bind (wpAny_updateSeq pS.1 rfl ?_)
   rw [hname]
   have I3 : Inv X pins σ H2 { s2 with heap := s2.heap.update S (Obj.mapSeq fun _ => #[v, w]), toks := s2.toks } := I2'.turnedL (fp := [S]) (fun b o hb e => (s3.2 b (by simpa using hb)).trans e) (fun b hb => by rw [List.mem_singleton.mp hb]; exact fS2)
   refine wpAny_pure ⟨plainId_quiet PySem.F.plain_min_loop _, zg0 hk hc hu (ds := d :: ds) (dm := dm) hIS hlI hlS _ 0 H2 F2 H F _ x y v w d kd c2 _ rfl (by simp) I3 x2 (x2.hh.seq sq) (rs.mono x2.ff) ⟨oI, (s3.2 J hIS).trans pI.1, cI, dI⟩ hc2 fI2 fS2 rx (px.mono x2.ff) rw2 py2 hm fun x v F' H' s' a b c d => hQ x v F' H' s' a b c d⟩
@[irreducible] def zc2 (mk : D -> Option D) (m : ML) (md : ME) : ME := fun ρ => (m ρ).bind fun ds => (md ρ).bind fun d0 => minD mk ds d0
theorem zc1 {mk : D -> Option D} {m : ML} {md : ME} {ρ : Ro} {g : D} (h : zc2 mk m md ρ = some g) : ∃ ds d0, m ρ = some ds /\ md ρ = some d0 /\ minD mk ds d0 = some g := by
 unfold zc2 at h
 cases h1 : m ρ with
 | none => rw [h1] at h; cases h
 | some d =>
  cases h2 : md ρ with
  | none => rw [h1, h2] at h; cases h
  | some e => rw [h1, h2] at h; exact ⟨d, e, rfl, rfl, h⟩
theorem yj8 {mk : D -> Option D} {m : ML} {md : ME} {ρ : Ro} {ds : List D} {d0 : D} (h1 : m ρ = some ds) (h2 : md ρ = some d0) : zc2 mk m md ρ = minD mk ds d0 := by
 unfold zc2
 rw [h1, h2]; rfl
theorem xx1 {q : Addr} {mk : D -> Option D} {x : Str} {p pf kp kp2 pos : Pos} {e ed : Expr} {m : ML} {md : ME} (hk : zw4 X (.ref q) mk) (hc : X.calm = true) (hu : X.A.units + 64 < cLine) (hg : Gl X "min") (hm : X.mg "min" = none) (hgf : Gl X x) (hmf : X.mg x = some (.ref q)) (ha : PB X e m) (hd : PD X ed md)
  (hdb : (x == ("__debug__" : Str)) = false := by decide) (hs : starEach (e :: []) X.env = (false, eval e X.env) :: starEach [] X.env := by rfl) :
  PD X (.Call (.Name "min" p) [e] [⟨some "key", .Name x pf, kp⟩, ⟨some "default", ed, kp2⟩] pos) (zc2 mk m md) := by
 intro pins s σ H Q I h
 obtain ⟨F0, H0, F, ρ, g, rl, em, q0⟩ := h
 obtain ⟨ds, d0, h1, h2, h3⟩ := zc1 em
 refine wpAny_Call_Name_kw (Y8 I hg hm PyProof.Rows.boot_min ?_ (by decide) (by decide))
 have A := k6 ha pa_nil hs pos pins s σ H (fun vs H1 => ∃ p xs F1, vs = [.ref p] /\ Ext F H F1 H1 /\ SqL X.K H1 p xs /\ Reps X.K F1 xs ds) I ⟨F0, H0, F, ρ, ds, rl, h1, fun p xs F1 H1 x1 s1 r1 => ⟨p, xs, F1, rfl, x1, s1, r1⟩⟩
 refine callWith_kw (thn A fun us s1 hpat => ?_) (by rw [hs]; rfl) (by rw [hs]; rfl)
 obtain ⟨vs, H1, I1, r1, p, xs, F1, ev, x1, sq, rs⟩ := hpat
 subst ev
 obtain ⟨u, rfl, ru⟩ := R3 r1
 cases ru
 have B := P7 (nm := some "key") (kpos := kp) (zz6 (v := .ref q) (pos := pf) hgf hmf rfl hdb) (P7 (nm := some "default") (kpos := kp2) hd zu4) pos pins s1 σ H1 (fun vs H2 => ∃ y F2, vs = [.ref q, y] /\ Ext F1 H1 F2 H2 /\ Rep X.K F2 y d0) I1 ⟨F0, H0, F1, ρ, d0, rl.go x1, h2, fun y F2 H2 x2 r2 => ⟨y, F2, rfl, x2, r2⟩⟩
 refine thn B fun us s2 hpat => ?_
 obtain ⟨vs, H2, I2, r2, y, F2, ev, x2, p0⟩ := hpat
 subst ev
 obtain ⟨u1, u2, rfl, ru1, ru2⟩ := xq3 r2
 cases ru1
 exact xw7 hk hc hu I2 x2.fh (x2.hh.seq sq) (rs.mono x2.ff) ru2 p0 h3 fun x v F' H' s' I' rx x3 px => ⟨x, H', I', rx, q0 x F' H' ((x1.trans x2).trans x3) px⟩
end
end
section
section
variable {prog : Program} {w : World} {A : Around} {E : Value -> Shared -> Prop} {s : Shared}
theorem N7 : isSubtype (.type "range_iterator") (.type "reversed") = pure false := by rw [isSubtype_type]; kernel_rfl
def zv5 (x left step : Int) : Obj := { cls := .type "range_iterator", dict := none, data := .fields #[rawInt x, rawInt left, rawInt step], slots := #[] }
theorem S8 {l : Addr} {j : Int} {t u v : Tok} {Q : Value -> Shared -> Prop} (hl : IsRange s.heap l 0 j 1 t u v) (h1 : -(2 ^ 62) <= j) (h2 : j < 2 ^ 62)
  (h : Q (.ref s.heap.objs.size) { s with heap := s.heap.push (zv5 ((j.toNat : Int) - 1) j.toNat (-1)) }) : wpAny (model prog w) A (call (.builtin "range.__reversed__") [.ref l]) Q E s := by
 have hT : s.TypeIs (.ref l) "range" := ⟨_, hl, rfl⟩
 refine wpAny_call_entry F.slot_range_reversed hT F.entry_range_reversed ?_ (F.args_range_reversed_1 _)
 have hsz : Builtin.Range.rangeSize 0 j 1 = (j.toNat : Int) := by rw [rangeSize_one]; split <;> omega
 unfold Builtin.«range.__reversed__»
 refine wpAny_bind (wpAny_of_eq (a := Value.ref l) rfl ?_)
 unfold Builtin.Range.rangeFields
 refine wpAny_bind ?_
 refine wpAny_bind (wpAny_field hl rfl (x := .int 0 t) rfl ?_)
 refine wpAny_bind (wpAny_of_eq (a := some (0 : Int)) rfl ?_)
 refine wpAny_bind (wpAny_field hl rfl (x := .int j u) rfl ?_)
 refine wpAny_bind (wpAny_of_eq (a := some j) rfl ?_)
 refine wpAny_bind (wpAny_field hl rfl (x := .int 1 v) rfl ?_)
 refine wpAny_bind (wpAny_of_eq (a := some (1 : Int)) rfl ?_)
 refine wpAny_pure ?_
 dsimp only
 rw [hsz]
 have hsm : (Builtin.Range.rangeFitsLong 0 && Builtin.Range.rangeFitsLong j && Builtin.Range.rangeFitsLong 1 && Builtin.Range.rangeFitsLong (-1) && Builtin.Range.rangeFitsLong (0 - 1) && Builtin.Range.rangeFitsLong (j.toNat : Int)) = true := by
  simp only [Builtin.Range.rangeFitsLong, Bool.and_eq_true, decide_eq_true_eq]
  omega
 simp only [hsm, Bool.not_true, Bool.false_eq_true, if_false, if_true]
 have e : (0 : Int) + ((j.toNat : Int) - 1) * 1 = (j.toNat : Int) - 1 := by omega
 rw [e]
 exact wpAny_bind (wpAny_newObj_type (wpAny_pure ⟨_, rfl, h⟩))
theorem Q8 {l : Addr} {j : Int} {t u v : Tok} {Q₁ : Value -> Shared -> Prop} (hl : IsRange s.heap l 0 j 1 t u v) (h1 : -(2 ^ 62) <= j) (h2 : j < 2 ^ 62)
  (h : Q₁ (.ref s.heap.objs.size) { s with heap := s.heap.push (zv5 ((j.toNat : Int) - 1) j.toNat (-1)) }) :
  codeAny (model prog w) A (.call (.builtin "reversed.__new__") ⟨[.type "reversed", .ref l], []⟩) (wants Q₁ E) s := by
 have hT : s.TypeIs (.ref l) "range" := ⟨_, hl, rfl⟩
 refine codeAny_of_tree ?_
 show wpAny _ A.in1 (do checkBuiltinCall "reversed.__new__" ⟨[.type "reversed", .ref l], []⟩; again (.builtin "reversed.__new__" ⟨[.type "reversed", .ref l], []⟩)) _ _ s
 refine wpAny_bind (wpAny_of_eq (F.newCall_reversed_1 _) (wpAny_pure ⟨plainId_quiet F.plain_reversed_new _, codeAny_builtin F.entry_reversed_new ?_⟩))
 rw [Around.under_plainId F.plain_reversed_new _]
 unfold Builtin.«reversed.__new__»
 refine wpAny_bind (wpAny_of_eq (newClass_reversed _) ?_)
 try dsimp only
 refine wpAny_bind (wpAny_of_eq (a := ()) (by first | rfl | kernel_rfl) ?_)
 refine wpAny_bind (wpAny_of_eq (a := ()) (by first | rfl | kernel_rfl) ?_)
 try dsimp only
 refine wpAny_bind (wpAny_specialOf hT F.slot_range_reversed.lookup ?_)
 try dsimp only
 refine wpAny_bind (wpAny_of_eq (F.slot_range_reversed.bind _) ?_)
 try dsimp only
 first
 | rw [if_neg (show ¬ ((Value.builtin "range.__reversed__" == Value.none) = true) from Bool.false_ne_true)]
 | (show wpAny _ _ (if (Value.builtin "range.__reversed__" == Value.none) = true then _ else _) _ _ _; rw [if_neg (show ¬ ((Value.builtin "range.__reversed__" == Value.none) = true) from Bool.false_ne_true)])
 refine wpAny_bind (wpAny_rule ?_)
 refine wpAny_bind (m := runValue (.call (.builtin "range.__reversed__") ⟨[.ref l], []⟩)) (show wpAny _ _ (call (.builtin "range.__reversed__") [.ref l]) _ _ _ from S8 hl h1 h2 ?_)
 first
 | exact wpAny_pure h
 | exact wpAny_bind (wpAny_pure (wpAny_pure h))
theorem S7 {l : Addr} {j : Int} {t u v : Tok} {Q : Value -> Shared -> Prop} (hl : IsRange s.heap l 0 j 1 t u v) (h1 : -(2 ^ 62) <= j) (h2 : j < 2 ^ 62)
  (h : Q (.ref s.heap.objs.size) { s with heap := s.heap.push (zv5 ((j.toNat : Int) - 1) j.toNat (-1)) }) : wpAny (model prog w) A (call (.type "reversed") [.ref l]) Q E s := by
 refine callType_other (U := "range_iterator") (Q₁ := fun obj s₁ => obj = .ref s.heap.objs.size /\ s₁ = { s with heap := s.heap.push (zv5 ((j.toNat : Int) - 1) j.toNat (-1)) }) (by decide +kernel) F.create_reversed ⟨_, _, F.mro_reversed⟩ F.made_reversed N7 (F.typeCall_reversed_1 _) (Q8 hl h1 h2 ⟨rfl, rfl⟩) ?_
 rintro obj s₁ ⟨rfl, rfl⟩
 exact ⟨⟨_, Heap.get?_push_size _ rfl, rfl⟩, h⟩
end
def Itdn (hi : Int) (n : Nat) : It := ⟨fun i _ => i < n, fun i H x H' => H' = H /\ x = .int (hi - i), fun i _ => n <= i⟩
theorem yz1 {P : Program} {w : World} {K : PySem.W.Frag} {tg : Expr} (it : Addr) (lo : Int) (n : Nat) : Turn P w K tg (Itdn lo n) [it] it (fun i h => IsRangeIter h it (lo + (i : Nat) * (-1)) ((n : Int) - (i : Nat)) (-1)) where
 mem := by simp
 obj := fun i h st b hb => by
  have e : b = it := by simpa using hb
  subst e
  exact ⟨_, st, fun v z => by
   have z' : Data.fields _ = Data.cell v := z
   cases z'⟩
 keep := fun i h h' st k => k it (by simp) _ st
 item := by
  intro X hP hw hK hc i pins s σ H E I hf st hg
  subst hP hw hK
  obtain ⟨f0, f1, f2, f3, f4, f5⟩ := hf it (by simp)
  have W := Walks.range (prog := X.prog) (w := X.w) (I.ok.hd hc) it lo (-1) n
  refine W.item i s _ _ hg st fun v h' tk hv st' kk => ?_
  obtain ⟨t, rfl⟩ := hv
  have I1 : Inv X pins σ H { s with heap := h', toks := tk } := I.turned (fun b o hb e => kk b o (by simpa using hb) e) f0 f1 f3 f4 f5
  refine ⟨_, rfl, xu0 (s := { s with heap := h', toks := tk }) (n := "range_iterator") st' rfl rfl (by decide) ⟨.int (lo - i), H, I1, ⟨t, ?_⟩, ⟨rfl, rfl⟩, st', fun b hb => (hf b hb).1⟩⟩
  rw [show lo + (i : Int) * (-1) = lo - i by omega]
 done := by
  intro X hP hw hK hc i pins s σ H E I hf st hg
  subst hP hw hK
  obtain ⟨f0, f1, f2, f3, f4, f5⟩ := hf it (by simp)
  exact wpAny_pyNext_range_end (I.ok.hd hc) st (by have : n <= i := hg; omega) fun h' eb => ⟨rfl, I.turned (t' := s.toks) (fun b o hb e => eb b o hb e) f0 f1 f3 f4 f5⟩
 self := fun _ _ _ _ _ st h => wpAny_pyIter_rangeiter st h
section
variable {X : Cx}
def D5 (n : Nat) : List D := (List.range n).map fun (i : Nat) => D.int ((n : Int) - 1 - (i : Int))
theorem N4 (n : Nat) : (D5 n).length = n := by unfold D5; simp
theorem yh6 {K : W.Frag} {F : Hp} {n : Nat} : ItD K F (Itdn ((n : Int) - 1) n) (D5 n) where
 go := fun i F1 H1 a b hi => by rw [N4] at hi; exact hi
 yld := fun i F1 H1 x H2 d a b e y => by
  obtain ⟨rfl, rfl⟩ := y
  unfold D5 at e
  rw [getElem?_map] at e
  have hi : i < n := by
   rcases Nat.lt_or_ge i n with h | h
   ·exact h
   ·rw [getElem?_eq_none (by simpa using h)] at e; cases e
  rw [getElem?_range hi] at e
  cases e
  exact ⟨F1, .refl b, .int _⟩
 stop := fun F1 H1 a b => by rw [N4]; exact Nat.le_refl n
def rngD : List D -> Option (List D)
 | [.int j] => if okR j = true then some (D5 j.toNat) else none
 | _ => none
theorem K6 {tg a : Expr} {m : ML} {p p2 pos pos2 : Pos} (hg : Gl X "reversed") (hm : X.mg "reversed" = none) (hg' : Gl X "range") (hm' : X.mg "range" = none) (ha : PAs X [a] m) (he : starEach [a] X.env = (false, eval a X.env) :: starEach [] X.env := by rfl)
  (hpl : ∀ pos, (backTo pos (starEach [] X.env)).any (·.1) = false := by intro _; rfl)
  (hs : starEach (Expr.Call (.Name "range" p2) [a] [] pos2 :: []) X.env = (false, eval (Expr.Call (.Name "range" p2) [a] [] pos2) X.env) :: starEach [] X.env := by rfl) :
  PId X tg (.Call (.Name "reversed" p) [.Call (.Name "range" p2) [a] [] pos2] [] pos) (r6 rngD m) := by
 intro pins s σ H R I h
 obtain ⟨F0, H0, F, ρ, its, rl, e, q⟩ := h
 obtain ⟨ds, h1, h2⟩ := b9 e
 have A := k6 (Q0 zq5 hg' hm' boot_range ha (by decide) (by decide) he (hpl _)) pa_nil hs pos pins s σ H (fun vs H1 => ∃ p j F1 H2, vs = [.ref p] /\ ds = [.int j] /\ H2 p = none /\ H1 = upd H2 p (.rng 0 j) /\ Ext F H F1 H2) I ⟨F0, H0, F, ρ, ds, rl, h1, fun vs F1 H1 x1 r1 => by
  unfold rngD at h2
  split at h2
  ·rename_i j
   cases r1 with
   | cons r rr =>
    cases rr; cases r
    exact ⟨j, rfl, fun p hp => ⟨p, j, F1, H1, rfl, rfl, hp, rfl, x1⟩⟩
  ·cases h2⟩
 refine Call_ (Y8 I hg hm boot_reversed (PyProof.Rows.callWith_type1 (thn A fun us s1 hpat => ?_) hs (hpl _)))
 obtain ⟨vs, H1, I1, r1, q1⟩ := hpat
 obtain ⟨l, j, F1, H2, ev, ed, hn, eH, x1⟩ := q1
 subst ev ed eH
 obtain ⟨u, rfl, ru⟩ := R3 r1
 cases ru
 have h2 : (if okR j = true then some (D5 j.toNat) else none) = some its := h2
 split at h2
 case isFalse => cases h2
 rename_i hk
 cases h2
 unfold okR at hk
 simp only [Bool.and_eq_true, decide_eq_true_eq] at hk
 obtain ⟨t, u, v, eo⟩ := I1.hok l _ y6
 refine S7 (j := j) eo hk.1 hk.2 ?_
 have hit : IsRangeIter (s1.heap.push (zv5 ((j.toNat : Int) - 1) j.toNat (-1))) s1.heap.objs.size ((j.toNat : Int) - 1) j.toNat (-1) := Heap.get?_push_size _ rfl
 refine wpAny_pyIter_rangeiter hit ?_
 have x2 : Ext F H F1 (upd H2 l (.rng 0 j)) := x1.trans (Ext.own x1.fh hn)
 refine ⟨s1.heap.objs.size, [s1.heap.objs.size], _, _, _, rfl, I1.kept (t' := s1.toks) fun b o e => Heap.get?_push_of_some _ e, yz1 _ ((j.toNat : Int) - 1) j.toNat, ?_, fun b hb => ?_, q _ F1 _ x2 yh6⟩
 ·have e1 : ((j.toNat : Int) - 1) + ((0 : Nat) : Int) * (-1) = (j.toNat : Int) - 1 := by simp
  have e2 : ((j.toNat : Nat) : Int) - ((0 : Nat) : Int) = j.toNat := by simp
  show IsRangeIter _ _ (((j.toNat : Int) - 1) + ((0 : Nat) : Int) * (-1)) (((j.toNat : Nat) : Int) - ((0 : Nat) : Int)) (-1)
  rw [e1, e2]
  exact hit
 ·have e : b = s1.heap.objs.size := by simpa using hb
  subst e
  exact I1.fpOk (Nat.le_refl _) (I1.hok.fresh (Nat.le_refl _))
end
end
section
section
variable {X : Cx} {a b : Expr} {pos : Pos}
end
end
section
section
variable {X : Cx} {e : Expr} {pos : Pos} {es : List Expr} {E : XK} {mf : MG} {st : Stmt} {na : MEm}
end
section
variable {X : Cx} {a b : Expr} {pos : Pos}
def zv9 (n : Nat) (k : Int) : Bool := decide (-(2 ^ 62) <= k) && decide (k < 2 ^ 62) && decide (n * k.toNat <= sizeLine)
@[irreducible] def mrep (x : ML) (y : ME) : ML := fun ρ => (x ρ).bind fun ds => match y ρ with
 | some (.int k) => if zv9 ds.length k = true then some (List.replicate k.toNat ds).flatten else none
 | _ => none
theorem yu5 {x : ML} {y : ME} {ρ : Ro} {gs : List D} (h : mrep x y ρ = some gs) : ∃ ds k, x ρ = some ds /\ y ρ = some (.int k) /\ zv9 ds.length k = true /\ gs = (List.replicate k.toNat ds).flatten := by
 unfold mrep at h
 cases h1 : x ρ with
 | none => rw [h1] at h; cases h
 | some ds =>
  rw [h1, Option.bind_some] at h
  split at h
  ·rename_i k h2
   split at h
   ·rename_i hk
    exact ⟨ds, k, rfl, h2, hk, (Option.some.inj h).symm⟩
   ·cases h
  ·cases h
theorem zn5 {x : ML} {y : ME} {ρ : Ro} {ds : List D} {k : Int} (h1 : x ρ = some ds) (h2 : y ρ = some (.int k)) (hk : zv9 ds.length k = true) : mrep x y ρ = some (List.replicate k.toNat ds).flatten := by
 unfold mrep
 rw [h1, Option.bind_some, h2]
 simp only [hk, if_true]
theorem zv8 {K : W.Frag} {F : Hp} {xs : List V} {ds : List D} (r : Reps K F xs ds) : ∀ k : Nat, Reps K F (List.replicate k xs).flatten (List.replicate k ds).flatten
 | 0 => .nil
 | k + 1 => by
  rw [replicate_succ, replicate_succ, flatten_cons, flatten_cons]
  exact r.append (zv8 r k)
theorem R9 {x : ML} {y : ME} (ha : PF X a x) (hb : PD X b y) : PF X (.BinOp a .Mult b pos) (mrep x y) := (yk3 xm4 ha hb).imp fun σ H Q hpat => by
 obtain ⟨F0, H0, F, ρ, g, rl, e, q⟩ := hpat
 obtain ⟨ds, k, h1, h2, hk, rfl⟩ := yu5 e
 unfold zv9 at hk
 simp only [Bool.and_eq_true, decide_eq_true_eq] at hk
 refine ⟨F0, H0, F, ρ, ds, rl, h1, fun p xs F1 H1 x1 n1 f1 g1 r1 => ⟨F0, H0, F1, ρ, .int k, rl.go x1, h2, fun v F2 H2 x2 r2 => ?_⟩⟩
 cases r2
 refine ⟨p, k, xs, rfl, rfl, x2.hh _ _ g1, by omega, by omega, by rw [r1.length]; exact hk.2, fun w hw => ?_⟩
 have xx := x1.trans x2
 exact q w _ F2 _ (xx.trans (Ext.own x2.fh hw)) (xx.hh.free hw) (x2.fh.free hw) y6 (zv8 (r1.mono x2.ff) k.toNat)
end
end
section
def minN (mk : D -> Option D) (ds : List D) : Option D := match ds with
 | [] => none
 | d :: ds => (match mk d with | some kd => minF mk ds d kd | none => none)
section
variable {X : Cx} {pins : List (Addr × Obj)} {σ : St}
set_option maxHeartbeats 8000000 in
theorem yi1 {q : Addr} {mk : D -> Option D} (hk : zw4 X (.ref q) mk) (hc : X.calm = true) (hu : X.A.units + 64 < cLine) {l : Addr} {xs : List V} {ds : List D} {dm : D} {H F : Hp} {s : Shared} {E : Value -> Shared -> Prop} {Q : Value -> Shared -> Prop}
  (I : Inv X pins σ H s) (sf : Same F H) (sq : SqL X.K H l xs) (rs : Reps X.K F xs ds) (hm : minN mk ds = some dm)
  (hQ : ∀ x v F' H' s', Inv X pins σ H' s' -> RelV x v -> Ext F H F' H' -> Rep X.K F' x dm -> Q v s') :
  wpAny (model X.prog X.w) X.A (call (.builtin "min") [.ref l] [(Str.ofString "key", .ref q)]) Q E s := by
 have hname : (toString "min" ++ toString ".loop" : String) = "min.loop" := by decide
 obtain ⟨its, vr, pl, _⟩ := I.list sq
 have hls := pl.isList
 obtain ⟨ol, hol, _⟩ := id hls
 have hll : l < s.heap.objs.size := Heap.lt_size hol
 refine kmk_tree PySem.F.kind_min PySem.F.plain_min PySem.F.entry_min (kmk_min_key _ _) ?_
 show wpAny _ X.A.in1 (Builtin.Builtins.bindParams "min" ["key", "default"] 0 ⟨[], [(Str.ofString "key", .ref q)]⟩ >>= _) _ _ s
 refine wpAny_bind (wpAny_of_eq (show Builtin.Builtins.bindParams "min" ["key", "default"] 0 ⟨[], [(Str.ofString "key", .ref q)]⟩ = pure [some (.ref q), none] from rfl) ?_)
 refine wpAny_bind (wpAny_pure ?_)
 refine wpAny_bind (wpAny_pyIter_list hls ?_)
 refine wpAny_bind (wpAny_newList ?_ (Nat.zero_le _))
 rw [hname]
 refine wpAny_pure ⟨plainId_quiet PySem.F.plain_min_loop _, ?_⟩
 generalize hIo : ({ cls := .type "list_iterator", data := .fields #[.ref l, .int 0 0] } : Obj) = oI0
 have hS : (s.heap.push oI0).objs.size = s.heap.objs.size + 1 := size_push' ..
 have hlI : l ≠ s.heap.objs.size := Nat.ne_of_lt hll
 have hlS : l ≠ (s.heap.push oI0).objs.size := by rw [hS]; exact Nat.ne_of_lt (Nat.lt_succ_of_lt hll)
 have hIS : s.heap.objs.size ≠ (s.heap.push oI0).objs.size := by rw [hS]; exact Nat.ne_of_lt (Nat.lt_succ_self _)
 have gI : ((s.heap.push oI0).push (seqObj "list" #[] 0)).get? s.heap.objs.size = some oI0 := Heap.get?_push_of_some _ (Heap.get?_push_size _ (by rw [<- hIo]; rfl))
 have gS : ((s.heap.push oI0).push (seqObj "list" #[] 0)).get? (s.heap.push oI0).objs.size = some (seqObj "list" #[] 0) := Heap.get?_push_size _ rfl
 have fI : FpOk X pins H s.heap.objs.size := I.fpOk (Nat.le_refl _) (I.hok.fresh (Nat.le_refl _))
 have fS : FpOk X pins H (s.heap.push oI0).objs.size := I.fpOk (by rw [hS]; exact Nat.le_succ _) (I.hok.fresh (by rw [hS]; exact Nat.le_succ _))
 have I0 : Inv X pins σ H { s with heap := (s.heap.push oI0).push (seqObj "list" #[] 0), toks := s.toks } := I.turnedL (fp := []) (fun b o _ e => Heap.get?_push_of_some _ (Heap.get?_push_of_some _ e)) (fun b hb => by cases hb)
 generalize (s.heap.push oI0).objs.size = S at *
 generalize hI : s.heap.objs.size = J at *
 generalize (s.heap.push oI0).push (seqObj "list" #[] 0) = h0 at *
 have hit : h0.IsListIter J l 0 := ⟨_, gI, by rw [<- hIo], by rw [<- hIo]; rfl⟩
 have zl : its.length = ds.length := by rw [<- vr.length, rs.length]
 obtain ⟨its', vr', pl', _⟩ := I0.list sq
 have zl' : its'.length = ds.length := by rw [<- vr'.length, rs.length]
 refine codeAny_builtin PySem.F.entry_min_loop ?_
 rw [Around.under_plainId PySem.F.plain_min_loop _]
 show wpAny _ X.A.in1 (seqItems? (.ref S) >>= _) _ _ _
 refine wpAny_bind (wpAny_seqItems gS rfl ?_)
 show wpAny _ X.A.in1 (tryCatch (pyNext (.ref J)) _ >>= _) _ _ _
 cases ds with
 | nil => cases hm
 | cons d ds =>
  obtain ⟨x, hx, px⟩ := rs.get (i := 0) (d := d) rfl
  obtain ⟨v, hv, rx⟩ := vr'.get hx
  unfold minN at hm
  dsimp only at hm
  cases hkd : mk d with
  | none => rw [hkd] at hm; cases hm
  | some kd =>
   rw [hkd] at hm
   dsimp only at hm
   refine wpAny_bind (wpAny_tryCatch (wpAny_pyNext_list_item hit pl'.isList (by simpa using hv) fun h1 hit1 s1 => ?_))
   have I1 := I0.turnedL (h' := h1) (t' := s.toks) (fp := [J]) (fun b o hb e => s1.extBut b o (by simpa using hb) e) (fun b hb => by rw [List.mem_singleton.mp hb]; exact fI)
   have hS1 : h1.get? S = some (seqObj "list" #[] 0) := s1.extBut _ _ (Ne.symm hIS) gS
   obtain ⟨oI, eI, cI, dI⟩ := id hit1
   have Ip := I1.pin2 fI fS eI hS1 (fun v z => by rw [dI] at z; cases z) (fun v z => by cases z)
   show wpAny _ X.A.in1 (tryCatch (holding [v] (call (.ref q) [v])) _ >>= _) _ _ _
   refine wpAny_bind (wpAny_tryCatch (wpAny_holding (wpAny_mono (hk (pins ++ [(J, oI), (S, seqObj "list" #[] 0)]) σ H F _ x v d kd Ip sf px rx hkd) (fun w s2 hw => ?_) fun _ _ z => z.elim)))
   obtain ⟨y, F2, H2, I2, rw2, x2, py2⟩ := hw
   have pI := I2.pin (J, oI) (by simp)
   have pS := I2.pin (S, seqObj "list" #[] 0) (by simp)
   have I2' : Inv X pins σ H2 s2 := I2.unpinned
   have fI2 : FpOk X pins H2 J := fI.now pI.2.1
   have fS2 : FpOk X pins H2 S := fS.now pS.2.1
   have s3 := Heap.SameBut.update s2.heap S (Obj.mapSeq fun _ => #[v, w])
   obtain ⟨c2, hc2⟩ : ∃ c2, (s2.heap.update S (Obj.mapSeq fun _ => #[v, w])).get? S = some (seqObj "list" #[v, w] c2) := ⟨_, get?_update_seq pS.1 fun _ => #[v, w]⟩
   show wpAny _ X.A.in1 (updateSeq S (fun _ => #[v, w]) >>= _) _ _ _
   refine wpAny_bind (wpAny_updateSeq pS.1 rfl ?_)
   rw [hname]
   have I3 : Inv X pins σ H2 { s2 with heap := s2.heap.update S (Obj.mapSeq fun _ => #[v, w]), toks := s2.toks } := I2'.turnedL (fp := [S]) (fun b o hb e => (s3.2 b (by simpa using hb)).trans e) (fun b hb => by rw [List.mem_singleton.mp hb]; exact fS2)
   refine wpAny_pure ⟨plainId_quiet PySem.F.plain_min_loop _, zg0 hk hc hu (ds := d :: ds) (dm := dm) hIS hlI hlS _ 0 H2 F2 H F _ x y v w d kd c2 _ rfl (by simp) I3 x2 (x2.hh.seq sq) (rs.mono x2.ff) ⟨oI, (s3.2 J hIS).trans pI.1, cI, dI⟩ hc2 fI2 fS2 rx (px.mono x2.ff) rw2 py2 hm fun x v F' H' s' a b c d => hQ x v F' H' s' a b c d⟩
@[irreducible] def yu8 (mk : D -> Option D) (m : ML) : ME := fun ρ => (m ρ).bind fun ds => minN mk ds
theorem yj7 {mk : D -> Option D} {m : ML} {ρ : Ro} {ds : List D} (h1 : m ρ = some ds) : yu8 mk m ρ = minN mk ds := by
 unfold yu8
 rw [h1]; rfl
theorem xx0 {q : Addr} {mk : D -> Option D} {x : Str} {p pf kp pos : Pos} {e : Expr} {m : ML} (hk : zw4 X (.ref q) mk) (hc : X.calm = true) (hu : X.A.units + 64 < cLine) (hg : Gl X "min") (hm : X.mg "min" = none) (hgf : Gl X x) (hmf : X.mg x = some (.ref q)) (ha : PB X e m)
  (hdb : (x == ("__debug__" : Str)) = false := by decide) (hs : starEach (e :: []) X.env = (false, eval e X.env) :: starEach [] X.env := by rfl) :
  PD X (.Call (.Name "min" p) [e] [⟨some "key", .Name x pf, kp⟩] pos) (yu8 mk m) := by
 intro pins s σ H Q I h
 obtain ⟨F0, H0, F, ρ, g, rl, em, q0⟩ := h
 unfold yu8 at em
 cases h1 : m ρ with
 | none => rw [h1] at em; cases em
 | some ds =>
  rw [h1, Option.bind_some] at em
  refine wpAny_Call_Name_kw (Y8 I hg hm PyProof.Rows.boot_min ?_ (by decide) (by decide))
  have A := k6 ha pa_nil hs pos pins s σ H (fun vs H1 => ∃ p xs F1, vs = [.ref p] /\ Ext F H F1 H1 /\ SqL X.K H1 p xs /\ Reps X.K F1 xs ds) I ⟨F0, H0, F, ρ, ds, rl, h1, fun p xs F1 H1 x1 s1 r1 => ⟨p, xs, F1, rfl, x1, s1, r1⟩⟩
  refine callWith_kw (thn A fun us s1 hpat => ?_) (by rw [hs]; rfl) (by rw [hs]; rfl)
  obtain ⟨vs, H1, I1, r1, p, xs, F1, ev, x1, sq, rs⟩ := hpat
  subst ev
  obtain ⟨u, rfl, ru⟩ := R3 r1
  cases ru
  have B := P7 (nm := some "key") (kpos := kp) (zz6 (v := .ref q) (pos := pf) hgf hmf rfl hdb) zu4 pos pins s1 σ H1 (fun vs H2 => vs = [.ref q] /\ H2 = H1) I1 ⟨rfl, rfl⟩
  refine thn B fun us s2 hpat => ?_
  obtain ⟨vs, H2, I2, r2, ev, eH⟩ := hpat
  subst ev eH
  obtain ⟨u1, rfl, ru1⟩ := R3 r2
  cases ru1
  exact yi1 hk hc hu I2 x1.fh sq rs em fun x v F' H' s' I' rx x3 px => ⟨x, H', I', rx, q0 x F' H' (x1.trans x3) px⟩
end
end
section
theorem zi0 (a v u : Value) : argsOk "max" ⟨[a], [(Str.ofString "key", v), (Str.ofString "default", u)]⟩ := by unfold argsOk; kernel_rfl
def N1 : D -> Option D
 | .lst ds => some (.int ds.length)
 | _ => none
def gtI : D -> D -> Option Bool
 | .int i, .int j => some (decide (i > j))
 | _, _ => none
def maxF : List D -> D -> D -> Option D
 | [], b, _ => some b
 | d :: ds, b, kb => match N1 d with
  | some kd => (match gtI kd kb with | some true => maxF ds d kd | some false => maxF ds b kb | none => none)
  | none => none
def maxD (ds : List D) (d0 : D) : Option D := match ds with
 | [] => some d0
 | d :: ds => (match N1 d with | some kd => maxF ds d kd | none => none)
theorem xv9 {d e : D} {k : Bool} (h : gtI d e = some k) : ∃ i j, d = .int i /\ e = .int j /\ k = decide (i > j) := by
 cases d with
 | int i =>
  cases e with
  | int j => cases h; exact ⟨i, j, rfl, rfl, rfl⟩
  | _ => cases h
 | _ => cases h
theorem xi6 {K : W.Frag} {F F' : Hp} {A : Around} {s : Shared} {x y : V} {v u : Value} {d e : D} {k : Bool} (r1 : Rep K F x d) (r2 : Rep K F' y e) (q1 : RelV x v) (q2 : RelV y u) (h : gtI d e = some k) (prog : Program) (w : World) (E : Value -> Shared -> Prop) (Q : Value -> Shared -> Prop) (hQ : Q (.bool k) s) : wpAny (model prog w) A (richCompare .Gt v u) Q E s := by
 obtain ⟨i, j, rfl, rfl, rfl⟩ := xv9 h
 obtain rfl := r1.i'
 obtain rfl := r2.i'
 obtain ⟨t, rfl⟩ := q1
 obtain ⟨t', rfl⟩ := q2
 exact CmpOf.ints_gt (prog := prog) (w := w) (A := A) (P := fun n v => ∃ t, v = .int (if n = 1 then i else j) t) (fun n => if n = 1 then i else j) (fun i v h => h) 1 0 _ _ _ _ _ ⟨t, rfl⟩ ⟨t', rfl⟩ hQ
section
variable {X : Cx} {pins : List (Addr × Obj)} {σ : St}
theorem yr0 (pins : List (Addr × Obj)) (σ : St) (H F : Hp) (s : Shared) (x : V) (u : Value) (d kd : D) (I : Inv X pins σ H s) (sf : Same F H) (r : Rep X.K F x d) (rx : RelV x u) (hm : N1 d = some kd) :
  wpAny (model X.prog X.w) X.A.in1 (call (.builtin "len") [u]) (fun w s' => ∃ y F' H', Inv X pins σ H' s' /\ RelV y w /\ Ext F H F' H' /\ Rep X.K F' y kd) (fun _ _ => False) s := by
 cases r <;> first | (cases hm; done) | skip
 rename_i a xs ds sq rs
 cases hm
 cases rx
 have hn := zs8
 obtain ⟨its, r', pl, hz⟩ := I.list (sf.seq sq)
 have hlen := r'.length
 refine Calls.call_len_list pl.isList (by simp only [size_toArray] <;> omega) ⟨.int ds.length, F, H, I.tok _, ⟨s.toks + 1, by rw [size_toArray, <- hlen, rs.length]⟩, .refl sf, .int _⟩
set_option maxHeartbeats 8000000 in
theorem yi4 (hc : X.calm = true) (hu : X.A.units + 64 < cLine) {l I S : Addr} {xs : List V} {ds : List D} {kw : List (Str × Value)} {dm : D} (hIS : I ≠ S) (hlI : l ≠ I) (hlS : l ≠ S) :
  ∀ (r j : Nat) (H F H0 F0 : Hp) (s : Shared) (xb yb : V) (vb kb : Value) (db kdb : D) (c : Nat) (R : Result -> Shared -> Prop),
   ds.length - (j + 1) = r -> j + 1 <= ds.length -> Inv X pins σ H s -> Ext F0 H0 F H -> SqL X.K H l xs -> Reps X.K F xs ds -> s.heap.IsListIter I l (j + 1) -> s.heap.get? S = some (seqObj "list" #[vb, kb] c) -> FpOk X pins H I -> FpOk X pins H S ->
   RelV xb vb -> Rep X.K F xb db -> RelV yb kb -> Rep X.K F yb kdb -> maxF (ds.drop (j + 1)) db kdb = some dm ->
   (∀ x v F' H' s', Inv X pins σ H' s' -> RelV x v -> Ext F0 H0 F' H' -> Rep X.K F' x dm -> R (.ok (.ret v)) s') ->
   codeAny (model X.prog X.w) X.A (.builtin "max.loop" ⟨[.ref I, .builtin "len", .ref S], kw⟩) R s := by
 have hname : (toString "max" ++ toString ".loop" : String) = "max.loop" := by decide
 intro r
 induction r with
 | zero =>
  intro j H F H0 F0 s xb yb vb kb db kdb c R hr hj I' ext sq rs hit hS fI fS rb pb ry py hm hR
  have hin : j + 1 = ds.length := by omega
  obtain ⟨its, vr, pl, _⟩ := I'.list sq
  have zl : its.length = ds.length := by rw [<- vr.length, rs.length]
  rw [hin, drop_length] at hm
  have hm : some db = some dm := hm
  cases hm
  refine codeAny_builtin PySem.F.entry_max_loop ?_
  rw [Around.under_plainId PySem.F.plain_max_loop _]
  show wpAny _ X.A.in1 (seqItems? (.ref S) >>= _) _ _ _
  refine wpAny_bind (wpAny_seqItems hS rfl ?_)
  show wpAny _ X.A.in1 (tryCatch (pyNext (.ref I)) _ >>= _) _ _ _
  refine wpAny_bind (wpAny_tryCatch (wpAny_pyNext_list_end (I'.ok.hd hc) hit pl.isList (by simp; omega) fun h' hk' => ?_))
  have hS' : h'.get? S = some (seqObj "list" #[vb, kb] c) := hk' S _ (Ne.symm hIS) hS
  have s1 := Heap.SameBut.update h' S (Obj.mapSeq fun _ => (#[] : Array Value))
  show wpAny _ X.A.in1 (updateSeq S (fun _ => #[]) >>= _) _ _ _
  refine wpAny_bind ?_
  refine wpAny_updateSeq hS' rfl (wpAny_bind (wpAny_letGo (wpAny_pure ?_)))
  have I9 : Inv X pins σ H { s with heap := h'.update S (Obj.mapSeq fun _ => (#[] : Array Value)), toks := s.toks } := I'.turnedL (fp := [I, S]) (t' := s.toks) (fun b o hb e => by
   simp only [mem_cons, not_mem_nil, or_false, not_or] at hb
   exact (s1.2 b hb.2).trans (hk' b o hb.1 e)) (fun b hb => by
   simp only [mem_cons, not_mem_nil, or_false] at hb
   rcases hb with rfl | rfl <;> assumption)
  exact hR xb vb F H _ I9 rb ext pb
 | succ r ih =>
  intro j H F H0 F0 s xb yb vb kb db kdb c R hr hj I' ext sq rs hit hS fI fS rb pb ry py hm hR
  have hlt : j + 1 < ds.length := by omega
  obtain ⟨its, vr, pl, _⟩ := I'.list sq
  have zl : its.length = ds.length := by rw [<- vr.length, rs.length]
  obtain ⟨d, hd⟩ : ∃ d, ds[j + 1]? = some d := ⟨_, getElem?_eq_getElem hlt⟩
  obtain ⟨x, hx, px⟩ := rs.get hd
  obtain ⟨v, hv, rx⟩ := vr.get hx
  rw [g6 hd] at hm
  unfold maxF at hm
  cases hkd : N1 d with
  | none => rw [hkd] at hm; cases hm
  | some kd =>
   rw [hkd] at hm
   dsimp only at hm
   refine codeAny_builtin PySem.F.entry_max_loop ?_
   rw [Around.under_plainId PySem.F.plain_max_loop _]
   show wpAny _ X.A.in1 (seqItems? (.ref S) >>= _) _ _ _
   refine wpAny_bind (wpAny_seqItems hS rfl ?_)
   show wpAny _ X.A.in1 (tryCatch (pyNext (.ref I)) _ >>= _) _ _ _
   refine wpAny_bind (wpAny_tryCatch (wpAny_pyNext_list_item hit pl.isList (by simpa using hv) fun h1 hit1 s1 => ?_))
   have I1 : Inv X pins σ H { s with heap := h1, toks := s.toks } := I'.turnedL (fp := [I]) (fun b o hb e => s1.extBut b o (by simpa using hb) e) (fun b hb => by rw [List.mem_singleton.mp hb]; exact fI)
   have hS1 : h1.get? S = some (seqObj "list" #[vb, kb] c) := s1.extBut _ _ (Ne.symm hIS) hS
   obtain ⟨oI, eI, cI, dI⟩ := id hit1
   have Ip := I1.pin2 fI fS eI hS1 (fun v z => by rw [dI] at z; cases z) (fun v z => by cases z)
   show wpAny _ X.A.in1 (tryCatch (holding [v] (call (.builtin "len") [v])) _ >>= _) _ _ _
   refine wpAny_bind (wpAny_tryCatch (wpAny_holding (wpAny_mono (yr0 (pins ++ [(I, oI), (S, seqObj "list" #[vb, kb] c)]) σ H F _ x v d kd Ip ext.fh px rx hkd) (fun w s2 hw => ?_) fun _ _ z => z.elim)))
   obtain ⟨y, F2, H2, I2, rw2, x2, py2⟩ := hw
   have pI := I2.pin (I, oI) (by simp)
   have pS := I2.pin (S, seqObj "list" #[vb, kb] c) (by simp)
   have I2' : Inv X pins σ H2 s2 := I2.unpinned
   have fI2 : FpOk X pins H2 I := fI.now pI.2.1
   have fS2 : FpOk X pins H2 S := fS.now pS.2.1
   have hit2 : s2.heap.IsListIter I l (j + 1 + 1) := ⟨oI, pI.1, cI, dI⟩
   cases hlt8 : gtI kd kdb with
   | none => rw [hlt8] at hm; cases hm
   | some bt =>
    rw [hlt8] at hm
    have hcmp := xi6 (A := X.A.in1) (s := s2) py2 py rw2 ry hlt8
    show wpAny _ X.A.in1 (tryCatch (holding [v, w] (richCompare .Gt w kb >>= _)) _ >>= _) _ _ _
    refine wpAny_bind (wpAny_tryCatch (wpAny_holding (wpAny_bind (hcmp X.prog X.w _ _ ?_))))
    refine wpAny_bind (wpAny_holding (wpAny_truthy_bool ?_))
    refine wpAny_bind (wpAny_letGo (wpAny_pure ?_))
    cases bt with
    | true =>
     have s3 := Heap.SameBut.update s2.heap S (Obj.mapSeq fun _ => #[v, w])
     obtain ⟨c2, hc2⟩ : ∃ c2, (s2.heap.update S (Obj.mapSeq fun _ => #[v, w])).get? S = some (seqObj "list" #[v, w] c2) := ⟨_, get?_update_seq pS.1 fun _ => #[v, w]⟩
     simp only [if_true]
     refine wpAny_bind ?_
     refine wpAny_updateSeq pS.1 rfl (wpAny_bind (wpAny_letGo ?_))
     rw [hname]
     have I3 : Inv X pins σ H2 { s2 with heap := s2.heap.update S (Obj.mapSeq fun _ => #[v, w]), toks := s2.toks } := I2'.turnedL (fp := [S]) (fun b o hb e => (s3.2 b (by simpa using hb)).trans e) (fun b hb => by rw [List.mem_singleton.mp hb]; exact fS2)
     refine wpAny_pure ⟨plainId_quiet PySem.F.plain_max_loop _, ih (j + 1) H2 F2 H0 F0 _ x y v w d kd c2 R (by omega) hlt I3 (ext.trans x2) (x2.hh.seq sq) (rs.mono x2.ff) ⟨oI, (s3.2 I hIS).trans pI.1, cI, dI⟩ hc2 fI2 fS2 rx (px.mono x2.ff) rw2 py2 hm hR⟩
    | false =>
     simp only [Bool.false_eq_true, if_false]
     refine wpAny_bind (wpAny_letGo ?_)
     rw [hname]
     refine wpAny_pure ⟨plainId_quiet PySem.F.plain_max_loop _, ih (j + 1) H2 F2 H0 F0 _ xb yb vb kb db kdb c R (by omega) hlt I2' (ext.trans x2) (x2.hh.seq sq) (rs.mono x2.ff) hit2 pS.1 fI2 fS2 rb (pb.mono x2.ff) ry (py.mono x2.ff) hm hR⟩
set_option maxHeartbeats 8000000 in
theorem xw9 (hc : X.calm = true) (hu : X.A.units + 64 < cLine) {l : Addr} {xs : List V} {ds : List D} {dm d0 : D} {H F : Hp} {s : Shared} {x0 : V} {v0 : Value} {E : Value -> Shared -> Prop} {Q : Value -> Shared -> Prop}
  (I : Inv X pins σ H s) (sf : Same F H) (sq : SqL X.K H l xs) (rs : Reps X.K F xs ds) (r0 : RelV x0 v0) (p0 : Rep X.K F x0 d0) (hm : maxD ds d0 = some dm)
  (hQ : ∀ x v F' H' s', Inv X pins σ H' s' -> RelV x v -> Ext F H F' H' -> Rep X.K F' x dm -> Q v s') :
  wpAny (model X.prog X.w) X.A (call (.builtin "max") [.ref l] [(Str.ofString "key", .builtin "len"), (Str.ofString "default", v0)]) Q E s := by
 have hname : (toString "max" ++ toString ".loop" : String) = "max.loop" := by decide
 obtain ⟨its, vr, pl, _⟩ := I.list sq
 have hls := pl.isList
 obtain ⟨ol, hol, _⟩ := id hls
 have hll : l < s.heap.objs.size := Heap.lt_size hol
 refine kmk_tree PySem.F.kind_max PySem.F.plain_max PySem.F.entry_max (zi0 _ _ _) ?_
 show wpAny _ X.A.in1 (Builtin.Builtins.bindParams "max" ["key", "default"] 0 ⟨[], [(Str.ofString "key", .builtin "len"), (Str.ofString "default", v0)]⟩ >>= _) _ _ s
 refine wpAny_bind (wpAny_of_eq (show Builtin.Builtins.bindParams "max" ["key", "default"] 0 ⟨[], [(Str.ofString "key", .builtin "len"), (Str.ofString "default", v0)]⟩ = pure [some (.builtin "len"), some v0] from rfl) ?_)
 refine wpAny_bind (wpAny_pure ?_)
 refine wpAny_bind (wpAny_pyIter_list hls ?_)
 refine wpAny_bind (wpAny_newList ?_ (Nat.zero_le _))
 rw [hname]
 refine wpAny_pure ⟨plainId_quiet PySem.F.plain_max_loop _, ?_⟩
 generalize hIo : ({ cls := .type "list_iterator", data := .fields #[.ref l, .int 0 0] } : Obj) = oI0
 have hS : (s.heap.push oI0).objs.size = s.heap.objs.size + 1 := size_push' ..
 have hlI : l ≠ s.heap.objs.size := Nat.ne_of_lt hll
 have hlS : l ≠ (s.heap.push oI0).objs.size := by rw [hS]; exact Nat.ne_of_lt (Nat.lt_succ_of_lt hll)
 have hIS : s.heap.objs.size ≠ (s.heap.push oI0).objs.size := by rw [hS]; exact Nat.ne_of_lt (Nat.lt_succ_self _)
 have gI : ((s.heap.push oI0).push (seqObj "list" #[] 0)).get? s.heap.objs.size = some oI0 := Heap.get?_push_of_some _ (Heap.get?_push_size _ (by rw [<- hIo]; rfl))
 have gS : ((s.heap.push oI0).push (seqObj "list" #[] 0)).get? (s.heap.push oI0).objs.size = some (seqObj "list" #[] 0) := Heap.get?_push_size _ rfl
 have fI : FpOk X pins H s.heap.objs.size := I.fpOk (Nat.le_refl _) (I.hok.fresh (Nat.le_refl _))
 have fS : FpOk X pins H (s.heap.push oI0).objs.size := I.fpOk (by rw [hS]; exact Nat.le_succ _) (I.hok.fresh (by rw [hS]; exact Nat.le_succ _))
 have I0 : Inv X pins σ H { s with heap := (s.heap.push oI0).push (seqObj "list" #[] 0), toks := s.toks } := I.turnedL (fp := []) (fun b o _ e => Heap.get?_push_of_some _ (Heap.get?_push_of_some _ e)) (fun b hb => by cases hb)
 generalize (s.heap.push oI0).objs.size = S at *
 generalize hI : s.heap.objs.size = J at *
 generalize (s.heap.push oI0).push (seqObj "list" #[] 0) = h0 at *
 have hit : h0.IsListIter J l 0 := ⟨_, gI, by rw [<- hIo], by rw [<- hIo]; rfl⟩
 have zl : its.length = ds.length := by rw [<- vr.length, rs.length]
 obtain ⟨its', vr', pl', _⟩ := I0.list sq
 have zl' : its'.length = ds.length := by rw [<- vr'.length, rs.length]
 refine codeAny_builtin PySem.F.entry_max_loop ?_
 rw [Around.under_plainId PySem.F.plain_max_loop _]
 show wpAny _ X.A.in1 (seqItems? (.ref S) >>= _) _ _ _
 refine wpAny_bind (wpAny_seqItems gS rfl ?_)
 show wpAny _ X.A.in1 (tryCatch (pyNext (.ref J)) _ >>= _) _ _ _
 cases ds with
 | nil =>
  have hm : some d0 = some dm := hm
  cases hm
  refine wpAny_bind (wpAny_tryCatch (wpAny_pyNext_list_end (I.ok.hd hc) hit pl'.isList (by simp at zl' ⊢; simp [zl']) fun h' hk' => ?_))
  refine wpAny_bind (wpAny_rule (wpAny_pure ?_))
  have I9 := I0.turnedL (h' := h') (fp := [J]) (t' := s.toks) (fun b o hb e => hk' b o (by simpa using hb) e) (fun b hb => by rw [List.mem_singleton.mp hb]; exact fI)
  exact hQ x0 v0 F H _ I9 r0 (Ext.refl sf) p0
 | cons d ds =>
  obtain ⟨x, hx, px⟩ := rs.get (i := 0) (d := d) rfl
  obtain ⟨v, hv, rx⟩ := vr'.get hx
  unfold maxD at hm
  dsimp only at hm
  cases hkd : N1 d with
  | none => rw [hkd] at hm; cases hm
  | some kd =>
   rw [hkd] at hm
   dsimp only at hm
   refine wpAny_bind (wpAny_tryCatch (wpAny_pyNext_list_item hit pl'.isList (by simpa using hv) fun h1 hit1 s1 => ?_))
   have I1 := I0.turnedL (h' := h1) (t' := s.toks) (fp := [J]) (fun b o hb e => s1.extBut b o (by simpa using hb) e) (fun b hb => by rw [List.mem_singleton.mp hb]; exact fI)
   have hS1 : h1.get? S = some (seqObj "list" #[] 0) := s1.extBut _ _ (Ne.symm hIS) gS
   obtain ⟨oI, eI, cI, dI⟩ := id hit1
   have Ip := I1.pin2 fI fS eI hS1 (fun v z => by rw [dI] at z; cases z) (fun v z => by cases z)
   show wpAny _ X.A.in1 (tryCatch (holding [v] (call (.builtin "len") [v])) _ >>= _) _ _ _
   refine wpAny_bind (wpAny_tryCatch (wpAny_holding (wpAny_mono (yr0 (pins ++ [(J, oI), (S, seqObj "list" #[] 0)]) σ H F _ x v d kd Ip sf px rx hkd) (fun w s2 hw => ?_) fun _ _ z => z.elim)))
   obtain ⟨y, F2, H2, I2, rw2, x2, py2⟩ := hw
   have pI := I2.pin (J, oI) (by simp)
   have pS := I2.pin (S, seqObj "list" #[] 0) (by simp)
   have I2' : Inv X pins σ H2 s2 := I2.unpinned
   have fI2 : FpOk X pins H2 J := fI.now pI.2.1
   have fS2 : FpOk X pins H2 S := fS.now pS.2.1
   have s3 := Heap.SameBut.update s2.heap S (Obj.mapSeq fun _ => #[v, w])
   obtain ⟨c2, hc2⟩ : ∃ c2, (s2.heap.update S (Obj.mapSeq fun _ => #[v, w])).get? S = some (seqObj "list" #[v, w] c2) := ⟨_, get?_update_seq pS.1 fun _ => #[v, w]⟩
   show wpAny _ X.A.in1 (updateSeq S (fun _ => #[v, w]) >>= _) _ _ _
   refine wpAny_bind (wpAny_updateSeq pS.1 rfl ?_)
   rw [hname]
   have I3 : Inv X pins σ H2 { s2 with heap := s2.heap.update S (Obj.mapSeq fun _ => #[v, w]), toks := s2.toks } := I2'.turnedL (fp := [S]) (fun b o hb e => (s3.2 b (by simpa using hb)).trans e) (fun b hb => by rw [List.mem_singleton.mp hb]; exact fS2)
   refine wpAny_pure ⟨plainId_quiet PySem.F.plain_max_loop _, yi4 hc hu (ds := d :: ds) (dm := dm) hIS hlI hlS _ 0 H2 F2 H F _ x y v w d kd c2 _ rfl (by simp) I3 x2 (x2.hh.seq sq) (rs.mono x2.ff) ⟨oI, (s3.2 J hIS).trans pI.1, cI, dI⟩ hc2 fI2 fS2 rx (px.mono x2.ff) rw2 py2 hm fun x v F' H' s' a b c d => hQ x v F' H' s' a b c d⟩
@[irreducible] def O3 (m : ML) (md : ME) : ME := fun ρ => (m ρ).bind fun ds => (md ρ).bind fun d0 => maxD ds d0
theorem zs1 {m : ML} {md : ME} {ρ : Ro} {g : D} (h : O3 m md ρ = some g) : ∃ ds d0, m ρ = some ds /\ md ρ = some d0 /\ maxD ds d0 = some g := by
 unfold O3 at h
 cases h1 : m ρ with
 | none => rw [h1] at h; cases h
 | some d =>
  cases h2 : md ρ with
  | none => rw [h1, h2] at h; cases h
  | some e => rw [h1, h2] at h; exact ⟨d, e, rfl, rfl, h⟩
theorem zc3 {m : ML} {md : ME} {ρ : Ro} {ds : List D} {d0 : D} (h1 : m ρ = some ds) (h2 : md ρ = some d0) : O3 m md ρ = maxD ds d0 := by
 unfold O3
 rw [h1, h2]; rfl
theorem yv1 {p pf kp kp2 pos : Pos} {e ed : Expr} {m : ML} {md : ME} (hc : X.calm = true) (hu : X.A.units + 64 < cLine) (hg : Gl X "max") (hm : X.mg "max" = none) (hgf : Gl X "len") (hmf : X.mg "len" = none) (ha : PB X e m) (hd : PD X ed md)
  (hs : starEach (e :: []) X.env = (false, eval e X.env) :: starEach [] X.env := by rfl) :
  PD X (.Call (.Name "max" p) [e] [⟨some "key", .Name "len" pf, kp⟩, ⟨some "default", ed, kp2⟩] pos) (O3 m md) := by
 intro pins s σ H Q I h
 obtain ⟨F0, H0, F, ρ, g, rl, em, q0⟩ := h
 obtain ⟨ds, d0, h1, h2, h3⟩ := zs1 em
 refine wpAny_Call_Name_kw (Y8 I hg hm PyProof.Rows.boot_max ?_ (by decide) (by decide))
 have A := k6 ha pa_nil hs pos pins s σ H (fun vs H1 => ∃ p xs F1, vs = [.ref p] /\ Ext F H F1 H1 /\ SqL X.K H1 p xs /\ Reps X.K F1 xs ds) I ⟨F0, H0, F, ρ, ds, rl, h1, fun p xs F1 H1 x1 s1 r1 => ⟨p, xs, F1, rfl, x1, s1, r1⟩⟩
 refine callWith_kw (thn A fun us s1 hpat => ?_) (by rw [hs]; rfl) (by rw [hs]; rfl)
 obtain ⟨vs, H1, I1, r1, p, xs, F1, ev, x1, sq, rs⟩ := hpat
 subst ev
 obtain ⟨u, rfl, ru⟩ := R3 r1
 cases ru
 show wpAny _ _ (evalAll ((do let v ← eval (.Name "len" pf) X.env; standAt pos; pure v) :: (backToKw pos (keywordEach [⟨some "default", ed, kp2⟩] X.env)).map (·.2))) _ _ s1
 refine wpAny_evalAll_cons (wpAny_bind (Y8 I1 hgf hmf boot_len (wpAny_bind (wpAny_standAt (wpAny_pure ?_))) (by decide) (by decide)))
 have B := P7 (nm := some "default") (kpos := kp2) hd zu4 pos pins s1 σ H1 (fun vs H2 => ∃ y F2, vs = [y] /\ Ext F1 H1 F2 H2 /\ Rep X.K F2 y d0) I1 ⟨F0, H0, F1, ρ, d0, rl.go x1, h2, fun y F2 H2 x2 r2 => ⟨y, F2, rfl, x2, r2⟩⟩
 refine thn B fun us s2 hpat => ?_
 obtain ⟨vs, H2, I2, r2, y, F2, ev, x2, p0⟩ := hpat
 subst ev
 obtain ⟨u2, rfl, ru2⟩ := R3 r2
 exact xw9 hc hu I2 x2.fh (x2.hh.seq sq) (rs.mono x2.ff) ru2 p0 h3 fun x v F' H' s' I' rx x3 px => ⟨x, H', I', rx, q0 x F' H' ((x1.trans x2).trans x3) px⟩
end
end
section
section
variable {X : Cx} {pins : List (Addr × Obj)} {σ : St}
end
section
variable {X : Cx}
end
end
section
theorem zb9 (a u : Value) : argsOk "max" ⟨[a], [(Str.ofString "default", u)]⟩ := by unfold argsOk; kernel_rfl
def maxP : List D -> D -> Option D
 | [], b => some b
 | d :: ds, b => (match gtI d b with | some true => maxP ds d | some false => maxP ds b | none => none)
def maxE (ds : List D) (d0 : D) : Option D := match ds with
 | [] => some d0
 | d :: ds => maxP ds d
section
variable {X : Cx} {pins : List (Addr × Obj)} {σ : St}
set_option maxHeartbeats 8000000 in
theorem yt5 (hc : X.calm = true) (hu : X.A.units + 64 < cLine) {l I S : Addr} {xs : List V} {ds : List D} {kw : List (Str × Value)} {dm : D} (hIS : I ≠ S) (hlI : l ≠ I) (hlS : l ≠ S) :
  ∀ (r j : Nat) (H F H0 F0 : Hp) (s : Shared) (xb : V) (vb : Value) (db : D) (c : Nat) (R : Result -> Shared -> Prop),
   ds.length - (j + 1) = r -> j + 1 <= ds.length -> Inv X pins σ H s -> Ext F0 H0 F H -> SqL X.K H l xs -> Reps X.K F xs ds -> s.heap.IsListIter I l (j + 1) -> s.heap.get? S = some (seqObj "list" #[vb, vb] c) -> FpOk X pins H I -> FpOk X pins H S ->
   RelV xb vb -> Rep X.K F xb db -> maxP (ds.drop (j + 1)) db = some dm ->
   (∀ x v F' H' s', Inv X pins σ H' s' -> RelV x v -> Ext F0 H0 F' H' -> Rep X.K F' x dm -> R (.ok (.ret v)) s') ->
   codeAny (model X.prog X.w) X.A (.builtin "max.loop" ⟨[.ref I, .none, .ref S], kw⟩) R s := by
 have hname : (toString "max" ++ toString ".loop" : String) = "max.loop" := by decide
 intro r
 induction r with
 | zero =>
  intro j H F H0 F0 s xb vb db c R hr hj I' ext sq rs hit hS fI fS rb pb hm hR
  have hin : j + 1 = ds.length := by omega
  obtain ⟨its, vr, pl, _⟩ := I'.list sq
  have zl : its.length = ds.length := by rw [<- vr.length, rs.length]
  rw [hin, drop_length] at hm
  have hm : some db = some dm := hm
  cases hm
  refine codeAny_builtin PySem.F.entry_max_loop ?_
  rw [Around.under_plainId PySem.F.plain_max_loop _]
  show wpAny _ X.A.in1 (seqItems? (.ref S) >>= _) _ _ _
  refine wpAny_bind (wpAny_seqItems hS rfl ?_)
  show wpAny _ X.A.in1 (tryCatch (pyNext (.ref I)) _ >>= _) _ _ _
  refine wpAny_bind (wpAny_tryCatch (wpAny_pyNext_list_end (I'.ok.hd hc) hit pl.isList (by simp; omega) fun h' hk' => ?_))
  have hS' : h'.get? S = some (seqObj "list" #[vb, vb] c) := hk' S _ (Ne.symm hIS) hS
  have s1 := Heap.SameBut.update h' S (Obj.mapSeq fun _ => (#[] : Array Value))
  show wpAny _ X.A.in1 (updateSeq S (fun _ => #[]) >>= _) _ _ _
  refine wpAny_bind ?_
  refine wpAny_updateSeq hS' rfl (wpAny_bind (wpAny_letGo (wpAny_pure ?_)))
  have I9 : Inv X pins σ H { s with heap := h'.update S (Obj.mapSeq fun _ => (#[] : Array Value)), toks := s.toks } := I'.turnedL (fp := [I, S]) (t' := s.toks) (fun b o hb e => by
   simp only [mem_cons, not_mem_nil, or_false, not_or] at hb
   exact (s1.2 b hb.2).trans (hk' b o hb.1 e)) (fun b hb => by
   simp only [mem_cons, not_mem_nil, or_false] at hb
   rcases hb with rfl | rfl <;> assumption)
  exact hR xb vb F H _ I9 rb ext pb
 | succ r ih =>
  intro j H F H0 F0 s xb vb db c R hr hj I' ext sq rs hit hS fI fS rb pb hm hR
  have hlt : j + 1 < ds.length := by omega
  obtain ⟨its, vr, pl, _⟩ := I'.list sq
  have zl : its.length = ds.length := by rw [<- vr.length, rs.length]
  obtain ⟨d, hd⟩ : ∃ d, ds[j + 1]? = some d := ⟨_, getElem?_eq_getElem hlt⟩
  obtain ⟨x, hx, px⟩ := rs.get hd
  obtain ⟨v, hv, rx⟩ := vr.get hx
  rw [g6 hd] at hm
  unfold maxP at hm
  refine codeAny_builtin PySem.F.entry_max_loop ?_
  rw [Around.under_plainId PySem.F.plain_max_loop _]
  show wpAny _ X.A.in1 (seqItems? (.ref S) >>= _) _ _ _
  refine wpAny_bind (wpAny_seqItems hS rfl ?_)
  show wpAny _ X.A.in1 (tryCatch (pyNext (.ref I)) _ >>= _) _ _ _
  refine wpAny_bind (wpAny_tryCatch (wpAny_pyNext_list_item hit pl.isList (by simpa using hv) fun h1 hit1 s1 => ?_))
  have I1 : Inv X pins σ H { s with heap := h1, toks := s.toks } := I'.turnedL (fp := [I]) (fun b o hb e => s1.extBut b o (by simpa using hb) e) (fun b hb => by rw [List.mem_singleton.mp hb]; exact fI)
  have hS1 : h1.get? S = some (seqObj "list" #[vb, vb] c) := s1.extBut _ _ (Ne.symm hIS) hS
  cases hlt8 : gtI d db with
  | none => rw [hlt8] at hm; cases hm
  | some bt =>
   rw [hlt8] at hm
   have hcmp := xi6 (A := X.A.in1) (s := { s with heap := h1, toks := s.toks }) px pb rx rb hlt8
   refine wpAny_bind (wpAny_pure ?_)
   show wpAny _ X.A.in1 (tryCatch (holding [v, v] (richCompare .Gt v vb >>= _)) _ >>= _) _ _ _
   refine wpAny_bind (wpAny_tryCatch (wpAny_holding (wpAny_bind (hcmp X.prog X.w _ _ ?_))))
   refine wpAny_bind (wpAny_holding (wpAny_truthy_bool ?_))
   refine wpAny_bind (wpAny_letGo (wpAny_pure ?_))
   cases bt with
   | true =>
    have s3 := Heap.SameBut.update h1 S (Obj.mapSeq fun _ => #[v, v])
    obtain ⟨c2, hc2⟩ : ∃ c2, (h1.update S (Obj.mapSeq fun _ => #[v, v])).get? S = some (seqObj "list" #[v, v] c2) := ⟨_, get?_update_seq hS1 fun _ => #[v, v]⟩
    simp only [if_true]
    refine wpAny_bind ?_
    refine wpAny_updateSeq hS1 rfl (wpAny_bind (wpAny_letGo ?_))
    rw [hname]
    have I3 := I1.turnedL (h' := h1.update S (Obj.mapSeq fun _ => #[v, v])) (t' := s.toks) (fp := [S]) (fun b o hb e => (s3.2 b (by simpa using hb)).trans e) (fun b hb => by rw [List.mem_singleton.mp hb]; exact fS)
    refine wpAny_pure ⟨plainId_quiet PySem.F.plain_max_loop _, ih (j + 1) H F H0 F0 _ x v d c2 R (by omega) hlt I3 ext sq rs (hit1.at fun o e => (s3.2 I hIS).trans e) hc2 fI fS rx px hm hR⟩
   | false =>
    simp only [Bool.false_eq_true, if_false]
    refine wpAny_bind (wpAny_letGo ?_)
    rw [hname]
    refine wpAny_pure ⟨plainId_quiet PySem.F.plain_max_loop _, ih (j + 1) H F H0 F0 _ xb vb db c R (by omega) hlt I1 ext sq rs hit1 hS1 fI fS rb pb hm hR⟩
set_option maxHeartbeats 8000000 in
theorem yi3 (hc : X.calm = true) (hu : X.A.units + 64 < cLine) {l : Addr} {xs : List V} {ds : List D} {dm d0 : D} {H F : Hp} {s : Shared} {x0 : V} {v0 : Value} {E : Value -> Shared -> Prop} {Q : Value -> Shared -> Prop}
  (I : Inv X pins σ H s) (sf : Same F H) (sq : SqL X.K H l xs) (rs : Reps X.K F xs ds) (r0 : RelV x0 v0) (p0 : Rep X.K F x0 d0) (hm : maxE ds d0 = some dm)
  (hQ : ∀ x v F' H' s', Inv X pins σ H' s' -> RelV x v -> Ext F H F' H' -> Rep X.K F' x dm -> Q v s') :
  wpAny (model X.prog X.w) X.A (call (.builtin "max") [.ref l] [(Str.ofString "default", v0)]) Q E s := by
 have hname : (toString "max" ++ toString ".loop" : String) = "max.loop" := by decide
 obtain ⟨its, vr, pl, _⟩ := I.list sq
 have hls := pl.isList
 obtain ⟨ol, hol, _⟩ := id hls
 have hll : l < s.heap.objs.size := Heap.lt_size hol
 refine kmk_tree PySem.F.kind_max PySem.F.plain_max PySem.F.entry_max (zb9 _ _) ?_
 show wpAny _ X.A.in1 (Builtin.Builtins.bindParams "max" ["key", "default"] 0 ⟨[], [(Str.ofString "default", v0)]⟩ >>= _) _ _ s
 refine wpAny_bind (wpAny_of_eq (show Builtin.Builtins.bindParams "max" ["key", "default"] 0 ⟨[], [(Str.ofString "default", v0)]⟩ = pure [none, some v0] from rfl) ?_)
 refine wpAny_bind (wpAny_pure ?_)
 refine wpAny_bind (wpAny_pyIter_list hls ?_)
 refine wpAny_bind (wpAny_newList ?_ (Nat.zero_le _))
 rw [hname]
 refine wpAny_pure ⟨plainId_quiet PySem.F.plain_max_loop _, ?_⟩
 generalize hIo : ({ cls := .type "list_iterator", data := .fields #[.ref l, .int 0 0] } : Obj) = oI0
 have hS : (s.heap.push oI0).objs.size = s.heap.objs.size + 1 := size_push' ..
 have hlI : l ≠ s.heap.objs.size := Nat.ne_of_lt hll
 have hlS : l ≠ (s.heap.push oI0).objs.size := by rw [hS]; exact Nat.ne_of_lt (Nat.lt_succ_of_lt hll)
 have hIS : s.heap.objs.size ≠ (s.heap.push oI0).objs.size := by rw [hS]; exact Nat.ne_of_lt (Nat.lt_succ_self _)
 have gI : ((s.heap.push oI0).push (seqObj "list" #[] 0)).get? s.heap.objs.size = some oI0 := Heap.get?_push_of_some _ (Heap.get?_push_size _ (by rw [<- hIo]; rfl))
 have gS : ((s.heap.push oI0).push (seqObj "list" #[] 0)).get? (s.heap.push oI0).objs.size = some (seqObj "list" #[] 0) := Heap.get?_push_size _ rfl
 have fI : FpOk X pins H s.heap.objs.size := I.fpOk (Nat.le_refl _) (I.hok.fresh (Nat.le_refl _))
 have fS : FpOk X pins H (s.heap.push oI0).objs.size := I.fpOk (by rw [hS]; exact Nat.le_succ _) (I.hok.fresh (by rw [hS]; exact Nat.le_succ _))
 have I0 : Inv X pins σ H { s with heap := (s.heap.push oI0).push (seqObj "list" #[] 0), toks := s.toks } := I.turnedL (fp := []) (fun b o _ e => Heap.get?_push_of_some _ (Heap.get?_push_of_some _ e)) (fun b hb => by cases hb)
 generalize (s.heap.push oI0).objs.size = S at *
 generalize hI : s.heap.objs.size = J at *
 generalize (s.heap.push oI0).push (seqObj "list" #[] 0) = h0 at *
 have hit : h0.IsListIter J l 0 := ⟨_, gI, by rw [<- hIo], by rw [<- hIo]; rfl⟩
 have zl : its.length = ds.length := by rw [<- vr.length, rs.length]
 obtain ⟨its', vr', pl', _⟩ := I0.list sq
 have zl' : its'.length = ds.length := by rw [<- vr'.length, rs.length]
 refine codeAny_builtin PySem.F.entry_max_loop ?_
 rw [Around.under_plainId PySem.F.plain_max_loop _]
 show wpAny _ X.A.in1 (seqItems? (.ref S) >>= _) _ _ _
 refine wpAny_bind (wpAny_seqItems gS rfl ?_)
 show wpAny _ X.A.in1 (tryCatch (pyNext (.ref J)) _ >>= _) _ _ _
 cases ds with
 | nil =>
  have hm : some d0 = some dm := hm
  cases hm
  refine wpAny_bind (wpAny_tryCatch (wpAny_pyNext_list_end (I.ok.hd hc) hit pl'.isList (by simp at zl' ⊢; simp [zl']) fun h' hk' => ?_))
  refine wpAny_bind (wpAny_rule (wpAny_pure ?_))
  have I9 := I0.turnedL (h' := h') (fp := [J]) (t' := s.toks) (fun b o hb e => hk' b o (by simpa using hb) e) (fun b hb => by rw [List.mem_singleton.mp hb]; exact fI)
  exact hQ x0 v0 F H _ I9 r0 (Ext.refl sf) p0
 | cons d ds =>
  obtain ⟨x, hx, px⟩ := rs.get (i := 0) (d := d) rfl
  obtain ⟨v, hv, rx⟩ := vr'.get hx
  refine wpAny_bind (wpAny_tryCatch (wpAny_pyNext_list_item hit pl'.isList (by simpa using hv) fun h1 hit1 s1 => ?_))
  have I1 := I0.turnedL (h' := h1) (t' := s.toks) (fp := [J]) (fun b o hb e => s1.extBut b o (by simpa using hb) e) (fun b hb => by rw [List.mem_singleton.mp hb]; exact fI)
  have hS1 : h1.get? S = some (seqObj "list" #[] 0) := s1.extBut _ _ (Ne.symm hIS) gS
  refine wpAny_bind (wpAny_pure ?_)
  have s3 := Heap.SameBut.update h1 S (Obj.mapSeq fun _ => #[v, v])
  obtain ⟨c2, hc2⟩ : ∃ c2, (h1.update S (Obj.mapSeq fun _ => #[v, v])).get? S = some (seqObj "list" #[v, v] c2) := ⟨_, get?_update_seq hS1 fun _ => #[v, v]⟩
  show wpAny _ X.A.in1 (updateSeq S (fun _ => #[v, v]) >>= _) _ _ _
  refine wpAny_bind (wpAny_updateSeq hS1 rfl ?_)
  rw [hname]
  have I3 := I1.turnedL (h' := h1.update S (Obj.mapSeq fun _ => #[v, v])) (t' := s.toks) (fp := [S]) (fun b o hb e => (s3.2 b (by simpa using hb)).trans e) (fun b hb => by rw [List.mem_singleton.mp hb]; exact fS)
  exact wpAny_pure ⟨plainId_quiet PySem.F.plain_max_loop _, yt5 hc hu (ds := d :: ds) (dm := dm) hIS hlI hlS _ 0 H F H F _ x v d c2 _ rfl (by simp) I3 (.refl sf) sq rs (hit1.at fun o e => (s3.2 J hIS).trans e) hc2 fI fS rx px hm fun x v F' H' s' a b c d => hQ x v F' H' s' a b c d⟩
@[irreducible] def zs2 (m : ML) (md : ME) : ME := fun ρ => (m ρ).bind fun ds => (md ρ).bind fun d0 => maxE ds d0
theorem zc4 {m : ML} {md : ME} {ρ : Ro} {g : D} (h : zs2 m md ρ = some g) : ∃ ds d0, m ρ = some ds /\ md ρ = some d0 /\ maxE ds d0 = some g := by
 unfold zs2 at h
 cases h1 : m ρ with
 | none => rw [h1] at h; cases h
 | some d =>
  cases h2 : md ρ with
  | none => rw [h1, h2] at h; cases h
  | some e => rw [h1, h2] at h; exact ⟨d, e, rfl, rfl, h⟩
theorem zh9 {m : ML} {md : ME} {ρ : Ro} {ds : List D} {d0 : D} (h1 : m ρ = some ds) (h2 : md ρ = some d0) : zs2 m md ρ = maxE ds d0 := by
 unfold zs2
 rw [h1, h2]; rfl
theorem yv3 {p kp2 pos : Pos} {e ed : Expr} {m : ML} {md : ME} (hc : X.calm = true) (hu : X.A.units + 64 < cLine) (hg : Gl X "max") (hm : X.mg "max" = none) (ha : PB X e m) (hd : PD X ed md)
  (hs : starEach (e :: []) X.env = (false, eval e X.env) :: starEach [] X.env := by rfl) :
  PD X (.Call (.Name "max" p) [e] [⟨some "default", ed, kp2⟩] pos) (zs2 m md) := by
 intro pins s σ H Q I h
 obtain ⟨F0, H0, F, ρ, g, rl, em, q0⟩ := h
 obtain ⟨ds, d0, h1, h2, h3⟩ := zc4 em
 refine wpAny_Call_Name_kw (Y8 I hg hm PyProof.Rows.boot_max ?_ (by decide) (by decide))
 have A := k6 ha pa_nil hs pos pins s σ H (fun vs H1 => ∃ p xs F1, vs = [.ref p] /\ Ext F H F1 H1 /\ SqL X.K H1 p xs /\ Reps X.K F1 xs ds) I ⟨F0, H0, F, ρ, ds, rl, h1, fun p xs F1 H1 x1 s1 r1 => ⟨p, xs, F1, rfl, x1, s1, r1⟩⟩
 refine callWith_kw (thn A fun us s1 hpat => ?_) (by rw [hs]; rfl) (by rw [hs]; rfl)
 obtain ⟨vs, H1, I1, r1, p, xs, F1, ev, x1, sq, rs⟩ := hpat
 subst ev
 obtain ⟨u, rfl, ru⟩ := R3 r1
 cases ru
 have B := P7 (nm := some "default") (kpos := kp2) hd zu4 pos pins s1 σ H1 (fun vs H2 => ∃ y F2, vs = [y] /\ Ext F1 H1 F2 H2 /\ Rep X.K F2 y d0) I1 ⟨F0, H0, F1, ρ, d0, rl.go x1, h2, fun y F2 H2 x2 r2 => ⟨y, F2, rfl, x2, r2⟩⟩
 refine thn B fun us s2 hpat => ?_
 obtain ⟨vs, H2, I2, r2, y, F2, ev, x2, p0⟩ := hpat
 subst ev
 obtain ⟨u2, rfl, ru2⟩ := R3 r2
 exact yi3 hc hu I2 x2.fh (x2.hh.seq sq) (rs.mono x2.ff) ru2 p0 h3 fun x v F' H' s' I' rx x3 px => ⟨x, H', I', rx, q0 x F' H' ((x1.trans x2).trans x3) px⟩
end
end
end L2
namespace L2
open List
open PySem PySem.Spec PyProof.Rows PySem.Builtin PySem.Builtin.Str
section
section
variable {X : Cx} {a b c e o : Expr} {ma mb mo : ME} {pos : Pos}
def strM (g : Str -> List D -> Option D) : D -> List D -> Option D
 | .str z, ds => g z ds
 | _, _ => none
@[irreducible] def xb2 (g : Str -> List D -> Option D) (x : ME) (m : ML) : ME := fun ρ => (x ρ).bind fun d => (m ρ).bind fun ds => strM g d ds
end
end
section
section
variable {X : Cx} {a b c e o : Expr} {ma mb mo : ME} {pos : Pos}
end
end
end L2
namespace L2
open List
open PySem PySem.Spec PyProof.Rows
section
def E2 (src : List (Option Nat)) (ρ : Ro) : Ro := src.map fun o => o.bind fun i => match ρ[i]? with | some (some (.sh d)) => some (.sh d) | some (some (.own ds)) => some (.own ds) | _ => none
@[irreducible] def V3 (src : List (Option Nat)) (mi : ML) (g : Tg) (c : MB) (elt : ME) : ML := fun ρ => (mi ρ).bind fun its => W7 g c elt its (E2 src ρ) []
def yn2 (src : List (Option Nat)) : Prop := ∀ i j k : Nat, src[i]? = some (some k) -> src[j]? = some (some k) -> i = j
theorem A4 {src : List (Option Nat)} (h : ∀ i, i < src.length -> ∀ j, j < src.length -> src[i]? = src[j]? -> src[i]? = some none \/ i = j) : yn2 src := fun i j k hi hj => by
 have li := (List.getElem?_eq_some_iff.mp hi).1
 have lj := (List.getElem?_eq_some_iff.mp hj).1
 rcases h i li j lj (by rw [hi, hj]) with e | e
 ·rw [hi] at e; cases e
 ·exact e
theorem S9 {src : List (Option Nat)} {ρ : Ro} {i : Nat} {x : S} (e : (E2 src ρ)[i]? = some (some x)) : ∃ k, src[i]? = some (some k) /\ ρ[k]? = some (some x) /\ nob (some x) := by
 unfold E2 at e
 rw [getElem?_map] at e
 cases h : src[i]? with
 | none => rw [h] at e; cases e
 | some o =>
  rw [h] at e
  cases o with
  | none => cases e
  | some k =>
   simp only [Option.map_some, Option.bind_some] at e
   split at e
   ·rename_i d h'; cases e; exact ⟨k, rfl, h', True.intro⟩
   ·rename_i ds h'; cases e; exact ⟨k, rfl, h', True.intro⟩
   ·cases e
theorem yp6 {src : List (Option Nat)} {σ : St} {i k : Nat} {v : V} (h : src[i]? = some (some k)) (hv : σ[k]? = some (some v)) : (blk0 src σ)[i]? = some (some v) := by
 unfold blk0
 rw [getElem?_map, h]
 simp only [Option.map_some, Option.bind_some, hv]; rfl
theorem zq9 {src : List (Option Nat)} {σ : St} {i k : Nat} {v : V} (h : src[i]? = some (some k)) (hv : (blk0 src σ)[i]? = some (some v)) : σ[k]? = some (some v) := by
 unfold blk0 at hv
 rw [getElem?_map, h] at hv
 simp only [Option.map_some, Option.bind_some] at hv
 cases hk : σ[k]? with
 | none => rw [hk] at hv; cases hv
 | some o => rw [hk] at hv; simpa using hv
theorem Rl.blkO {K : W.Frag} {F0 H0 F H : Hp} {σ : St} {ρ : Ro} (r : Rl K F0 H0 F H σ ρ) {src : List (Option Nat)} (ok : yn2 src) {p : Addr} (hp : H p = none) : Rl K F (upd F p (.lst [])) F (upd H p (.lst [])) (blk0 src σ) (E2 src ρ) := by
 have hF : F p = none := r.fh.free hp
 refine ⟨⟨Same.refl F, r.fh.put2, r.fh.put hF, fun b e n => absurd e n, fun _ _ _ z => z⟩, by unfold blk0 E2; simp, fun i d e => ?_, fun i ds e => ?_, fun i j q ds es hij e1 e2 s1 s2 => ?_, fun i q ds e => ?_, fun i j q ds es e => ?_, fun i j q q' ds es e => ?_⟩
 ·obtain ⟨k, h1, h2, _⟩ := S9 e
  obtain ⟨v, a, b⟩ := r.sh k d h2
  exact ⟨v, yp6 h1 a, b⟩
 ·obtain ⟨k, h1, h2, _⟩ := S9 e
  obtain ⟨q, xs, a, b, c, d, z⟩ := r.own k ds h2
  have hq : q ≠ p := fun w => by rw [w, hp] at c; cases c
  exact ⟨q, xs, yp6 h1 a, b, by rw [y9 hq]; exact c, d, by rw [y9 hq]; exact b⟩
 ·obtain ⟨k, h1, h2, _⟩ := S9 e1
  obtain ⟨l, h3, h4, _⟩ := S9 e2
  refine r.inj k l q ds es (fun w => ?_) h2 h4 (zq9 h1 s1) (zq9 h3 s2)
  subst w
  exact hij (ok i j k h1 h3)
 ·obtain ⟨k, h1, h2, n⟩ := S9 e; exact n.elim
 ·obtain ⟨k, h1, h2, n⟩ := S9 e; exact n.elim
 ·obtain ⟨k, h1, h2, n⟩ := S9 e; exact n.elim
theorem yg3 {K : W.Frag} {src : List (Option Nat)} {mi : ML} {g : Tg} {c : MB} {elt : ME} (so : yn2 src) {σ : St} {H : Hp} {Q : VK} (h : TF K (V3 src mi g c elt) σ H Q) : zd4 src (TId K mi) (TGd K g) (TC K c) (TD K elt) σ H Q := by
 obtain ⟨F0, H0, F, ρ, out, rl, e, q⟩ := h
 unfold V3 at e
 cases h1 : mi ρ with
 | none => rw [h1] at e; cases e
 | some its =>
  rw [h1] at e
  refine ⟨F0, H0, F, ρ, its, rl, h1, fun J F1 H1 x1 I p hp => ?_⟩
  exact zq1 x1.fh hp ((rl.go x1).blkO so hp) I e fun xs F' H' xe hF' hH' ra => q p xs F' H' (x1.trans xe) (x1.hh.free hp) hF' hH' ra
section
variable {X : Cx} {a b c e o : Expr} {ma mb mo : ME} {pos : Pos} {st : Stmt}
theorem zz5 {sc : Scope} {N : List Str} {src : List (Option Nat)} {tg elt iter : Expr} {ifs : List Expr} {mi : ML} {g : Tg} {cc : MB} {me : ME} (so : yn2 src) (B : Blk X sc N src) (hc : X.calm = true)
  (hi : PId X tg iter mi) (hg : ∀ C fp s H, PGd (b0 X sc C N fp s H) tg g) (ht : ∀ C fp s H, PTsd (b0 X sc C N fp s H) ifs cc) (he : ∀ C fp s H, PD (b0 X sc C N fp s H) elt me)
  (hs : ∀ x, foldedSetIterable iter X.env x = pure x := by intro _; rfl) :
  PF X (.ListComp elt [⟨tg, iter, ifs, 0⟩] sc pos) (V3 src mi g cc me) := (zo7 (g := TGd X.K g) (tc := TC X.K cc) (te := TD X.K me) B hc hi (fun C fp s H => hg C fp s H) (fun C fp s H => ht C fp s H) (fun C fp s H => he C fp s H) hs).imp fun _ _ _ h => yg3 so h
end
end
section
section
variable {prog : Program} {w : World} {A : Around} {E : Value -> Shared -> Prop} {s : Shared} {l : Addr} {xs : Array (Int × Tok)}
end
section
variable {X : Cx} {a b c e o : Expr} {ma mb mo : ME} {pos : Pos} {st : Stmt}
end
section
variable {X : Cx} {a b c e : Expr} {na nb : MEm} {pos : Pos} {st : Stmt} {es : List Expr} {E : XK} {mf : MF} {m : MLm}
abbrev MBm := Ro -> Option (Bool × Ro)
def TCm (K : W.Frag) (c : MBm) : TT := fun σ H Q => ∃ F0 H0 F ρ b ρ', Rl K F0 H0 F H σ ρ /\ c ρ = some (b, ρ') /\ ∀ F' H', Rl K F0 H0 F' H' σ ρ' -> Same F F' -> Q b H'
@[irreducible] def J5 (x : MEm) : MBm := fun ρ => match x ρ with | some (.bl b, ρ1) => some (b, ρ1) | _ => none
theorem xx2 {op : CmpOp} {r : R2} {f : D -> D -> Option D} (ho : OpR X (compareOp op) r) (hf : OpD X.K r f) (ha : PDm X a na) (hb : PDm X b nb) (hm : behindInMarks op b = false) : PT X (.Compare a [op] [b] pos) (TCm X.K (J5 (m2m f na nb))) := (zo4 ho ha hb hm).imp fun σ H Q hpat => by
 obtain ⟨F0, H0, F, ρ, g, ρ', rl, e, q⟩ := hpat
 unfold J5 at e
 split at e
 ·rename_i k ρ1 hk
  cases e
  refine xx3 hf ⟨F0, H0, F, ρ, .bl g, ρ', rl, hk, fun v F' H' rl' s' r => ?_⟩
  cases r
  exact ⟨_, rfl, q F' H' rl' s'⟩
 ·cases e
end
end
section
section
variable {X : Cx} {a b c e : Expr} {na nb : MEm} {pos : Pos} {st : Stmt} {es : List Expr} {m : MLm}
@[irreducible] def yt7 (i : Nat) (x : MEm) : MS := fun ρ => match ρ[i]? with
 | some (some (.own _)) => (match x ρ with
  | some (d, ρ1) => (match ρ1[i]? with | some (some (.own ds)) => if ds.length < sizeLine then some (.nx (ρ1.set i (some (.own (ds ++ [d]))))) else none | _ => none)
  | none => none)
 | _ => none
theorem ym8 {i : Nat} {x : Str} {px apos cpos : Pos} (hE : ∀ t, PA X [e] t -> PE X (.Call (.Attribute (.Name x px) "append" apos) [e] [] cpos) (tBM X.K "list" K4 (tVar i) t)) (hA : PAm X [e] (j4 na (apu anil))) (hs : swapsWith (.Call (.Attribute (.Name x px) "append" apos) [e] [] cpos) none pos.line X.env = pure false := by rfl) :
  PSd X (.Expr (.Call (.Attribute (.Name x px) "append" apos) [e] [] cpos) pos) (yt7 i na) := (K5 (hE _ hA) hs).imp fun D σ H hpat => by
 obtain ⟨F0, H0, F, ρ, o, rl, e, ok⟩ := hpat
 unfold yt7 at e
 split at e
 ·rename_i ds0 h0
  obtain ⟨p, xs0, e1, e2, e3, e4, e5⟩ := rl.own i _ h0
  split at e
  ·rename_i d ρ1 h1
   split at e
   ·rename_i ds h2
    split at e
    ·rename_i hz
     cases e
     refine ⟨_, e1, .inl ⟨rfl, _, SqL.of e3⟩, F0, H0, F, ρ, [d], ρ1, rl, by unfold j4 apu anil; rw [h1], fun vs F1 H1 rl1 s1 r1 => ?_⟩
     cases r1 with
     | cons r rr =>
      cases rr
      obtain ⟨p', xs, f1, f2, f3, f4, f5⟩ := rl1.own i _ h2
      rw [e1] at f1; cases f1
      exact ⟨p, xs, _, rfl, rfl, f3, by rw [f4.length]; exact hz, ok F1 _ σ (rl1.write h2 e1 (f4.append (.cons r .nil))) s1⟩
    ·cases e
   ·cases e
  ·cases e
 ·cases e
end
section
variable {X : Cx} {pos : Pos}
end
end
section
section
variable {X : Cx} {e : Expr} {na : MEm} {pos : Pos} {st : Stmt} {es : List Expr} {m : ML} {mf : MG} {E : XK}
def zt5 : List D -> Bool
 | [] => true
 | .int _ :: r => zt5 r
 | _ => false
theorem zv6 {K : W.Frag} {F F' : Hp} : ∀ {vs : List V} {ds : List D}, zt5 ds = true -> Reps K F vs ds -> Reps K F' vs ds
 | _, [], _, .nil => .nil
 | _, d :: ds, h, .cons r rr => by
  cases r with
  | int k => exact .cons (.int k) (zv6 h rr)
  | _ => cases h
open Classical in
end
end
section
section
variable {X : Cx}
end
end
section
section
variable {X : Cx} {e : Expr} {pos : Pos}
@[irreducible] def many (m : ML) : ME := fun ρ => match m ρ with | some ds => (match zy8 ds with | some ns => some (.bl (ns.any fun i => i != 0)) | none => none) | none => none
end
end
section
section
variable {X : Cx} {e : Expr} {ma : ME} {pos : Pos}
end
end
section
section
variable {X : Cx} {e : Expr} {ma : ME} {pos : Pos}
end
end
section
section
variable {prog : Program} {w : World} {A : Around} {E : Value -> Shared -> Prop} {s : Shared}
end
section
variable {X : Cx}
end
end
section
section
variable {X : Cx} {a : Expr} {na : MEm} {pos : Pos} {ca : MBm}
end
end
section
section
variable {X : Cx} {a b : Expr} {m : ML} {pos : Pos}
end
end
end L2
namespace L2
open List
open PySem PySem.Spec PyProof.Rows PySem.W PySem.Builtin PySem.Builtin.ObjectAttr PySem.Builtin.Getset_descriptor
section
structure XCls (K : W.Frag) (C : Addr) : Prop where
 ga : findIn K (.ref C) "__getattribute__" = some (some (.builtin "BaseException.__getattribute__"))
 nog : findIn K (.ref C) "__getattr__" = some none
 cl : findIn K (.ref C) "__class__" = some (some (.builtin "object.__class__"))
 ob : mroIn K C (.type "object") = some true
 be : mroIn K C (.type "BaseException") = some true
section
variable {prog : Program} {w : World} {A : Around} {E : Value -> Shared -> Prop} {K : W.Frag} {x C : Addr} {ox : Obj} {h : Heap} {g : Array GenState} {d : Drawn} {t : Nat} {os : OsState}
end
end
end L2
namespace L2
open List
open PySem PySem.Spec PyProof.Rows
section
structure Flown (P : Program) (w : World) (outer : List Env) (H : Hp) (s : Shared) (H' : Hp) (B h' : Heap) : Prop where
 un : Un (frs outer) [] H H' s.heap h'
 ok : HOk P w H' h'
 st : B.StaysIn h'
 trk : ∀ b o, H' b = some o -> ∃ ob, B.get? b = some ob
 old : ∀ b o, s.heap.get? b = some o -> b ∉ frs outer -> ∃ ob, B.get? b = some ob
section
variable {P : Program} {w : World} {outer : List Env} {H H' : Hp} {s : Shared} {B h1 h2 base : Heap}
end
structure Top (X : Cx) : Prop where
 stk : X.stack = X.env :: X.outer
 frm : X.env.frame = some X.env.locals
 ex : X.ex = []
section
variable {X : Cx} {pins : List (Addr × Obj)} {σ : St} {H H' : Hp} {s : Shared} {B h1 : Heap}
end
section
variable {X : Cx} {pins : List (Addr × Obj)} {σ : St} {H : Hp} {s : Shared} {W : Str -> St -> Hp -> Prop}
end
section
variable {X : Cx} {pins pins' : List (Addr × Obj)} {σ : St} {H : Hp} {s : Shared} {E : Value -> Shared -> Prop}
variable (nx : X.xe = noE)
include nx
end
end
section
section
variable {X : Cx} {st : Stmt} {rest : List Stmt} {e c : Expr} {pos : Pos}
end
end
section
section
variable {X : Cx} {pins : List (Addr × Obj)} {E : Value -> Shared -> Prop} (nx : X.xe = noE)
include nx
end
section
variable {X : Cx} {e c : Expr} {pos : Pos} {st : Stmt} {rest : List Stmt}
end
end
section
section
variable {X : Cx} {pins : List (Addr × Obj)} {σ : St} {H : Hp} {s : Shared} {a C : Addr}
end
section
variable {X : Cx} {pos np hpos : Pos}
end
end
section
structure RoomN (k : Nat) (A : Around) : Prop where
 dp : A.depth + 3 * k + 5 < recursionLimit
 un : A.units + 16 * k + 200 < cLine
structure FnOkN (P : Program) (w : World) (K : W.Frag) (mg : Str -> Option Value) (base : Heap) (CX : CXT) (k : Nat) (f : Addr) (fd : FuncData) (ps : List Str) (sp : Sp) : Prop where
 len : ∀ vs H Q E, sp vs H Q E -> vs.length = ps.length
 run : ∀ (A : Around) (outer : List Env) (s : Shared) (H : Hp) (args : Args) (us : List Value) (vs : List V) (Q : VK) (E : XK), RoomN k A -> Env0 P w K mg base A outer s H -> BindsTo s fd args (ps.zip us) -> Vals vs us -> sp vs H Q E ->
  codeAny (model P w) A (.call (.ref f) args) (CR CX outer P w H s Q E) s
section
variable {X : Cx} {CX : CXT} {k : Nat} {f : Addr} {fd : FuncData} {ps : List Str} {sp : Sp} {dvs : List V} {ds : List Value} {E : XK} {x : Str} {p pos : Pos} {e : Expr} {es : List Expr} {t : TA}
end
section
variable {X : Cx} {a : Expr} {ma : ME} {pos : Pos}
end
end
section
section
variable {X : Cx} {a : Expr} {ma : ME} {pos : Pos}
open PySem.SeqAt in
end
end
section
section
variable {X : Cx} {pos : Pos}
end
end
section
section
variable {X : Cx} {v : Expr} {mv : ME} {pos : Pos}
end
end
section
section
variable {X : Cx} {e : Expr} {pos : Pos}
end
end
section
section
variable {X : Cx} {pins : List (Addr × Obj)} {σ : St}
set_option maxHeartbeats 8000000 in
theorem yt2 {q : Addr} {mk : D -> Option D} (hk : zw4 X (.ref q) mk) (hc : X.calm = true) (hu : X.A.units + 64 < cLine) {l I S : Addr} {xs : List V} {ds : List D} {kw : List (Str × Value)} {dm : D} (hIS : I ≠ S) (hlI : l ≠ I) (hlS : l ≠ S) :
  ∀ (r j : Nat) (H F H0 F0 : Hp) (s : Shared) (xb yb : V) (vb kb : Value) (db kdb : D) (c : Nat) (R : Result -> Shared -> Prop),
   ds.length - (j + 1) = r -> j + 1 <= ds.length -> Inv X pins σ H s -> Ext F0 H0 F H -> SqT X.K H l xs -> Reps X.K F xs ds -> s.heap.IsTupleIter I l (j + 1) -> s.heap.get? S = some (seqObj "list" #[vb, kb] c) -> FpOk X pins H I -> FpOk X pins H S ->
   RelV xb vb -> Rep X.K F xb db -> RelV yb kb -> Rep X.K F yb kdb -> minF mk (ds.drop (j + 1)) db kdb = some dm ->
   (∀ x v F' H' s', Inv X pins σ H' s' -> RelV x v -> Ext F0 H0 F' H' -> Rep X.K F' x dm -> R (.ok (.ret v)) s') ->
   codeAny (model X.prog X.w) X.A (.builtin "min.loop" ⟨[.ref I, .ref q, .ref S], kw⟩) R s := by
 have hname : (toString "min" ++ toString ".loop" : String) = "min.loop" := by decide
 intro r
 induction r with
 | zero =>
  intro j H F H0 F0 s xb yb vb kb db kdb c R hr hj I' ext sq rs hit hS fI fS rb pb ry py hm hR
  have hin : j + 1 = ds.length := by omega
  obtain ⟨its, vr, pl, _⟩ := I'.tuple sq
  have zl : its.length = ds.length := by rw [<- vr.length, rs.length]
  rw [hin, drop_length] at hm
  have hm : some db = some dm := hm
  cases hm
  refine codeAny_builtin PySem.F.entry_min_loop ?_
  rw [Around.under_plainId PySem.F.plain_min_loop _]
  show wpAny _ X.A.in1 (seqItems? (.ref S) >>= _) _ _ _
  refine wpAny_bind (wpAny_seqItems hS rfl ?_)
  show wpAny _ X.A.in1 (tryCatch (pyNext (.ref I)) _ >>= _) _ _ _
  refine wpAny_bind (wpAny_tryCatch (wpAny_pyNext_tuple_end (I'.ok.hd hc) hit pl (by simp; omega) fun h' hk' => ?_))
  have hS' : h'.get? S = some (seqObj "list" #[vb, kb] c) := hk' S _ (Ne.symm hIS) hS
  have s1 := Heap.SameBut.update h' S (Obj.mapSeq fun _ => (#[] : Array Value))
  show wpAny _ X.A.in1 (updateSeq S (fun _ => #[]) >>= _) _ _ _
  refine wpAny_bind ?_
  refine wpAny_updateSeq hS' rfl (wpAny_bind (wpAny_letGo (wpAny_pure ?_)))
  have I9 : Inv X pins σ H { s with heap := h'.update S (Obj.mapSeq fun _ => (#[] : Array Value)), toks := s.toks } := I'.turnedL (fp := [I, S]) (t' := s.toks) (fun b o hb e => by
   simp only [mem_cons, not_mem_nil, or_false, not_or] at hb
   exact (s1.2 b hb.2).trans (hk' b o hb.1 e)) (fun b hb => by
   simp only [mem_cons, not_mem_nil, or_false] at hb
   rcases hb with rfl | rfl <;> assumption)
  exact hR xb vb F H _ I9 rb ext pb
 | succ r ih =>
  intro j H F H0 F0 s xb yb vb kb db kdb c R hr hj I' ext sq rs hit hS fI fS rb pb ry py hm hR
  have hlt : j + 1 < ds.length := by omega
  obtain ⟨its, vr, pl, _⟩ := I'.tuple sq
  have zl : its.length = ds.length := by rw [<- vr.length, rs.length]
  obtain ⟨d, hd⟩ : ∃ d, ds[j + 1]? = some d := ⟨_, getElem?_eq_getElem hlt⟩
  obtain ⟨x, hx, px⟩ := rs.get hd
  obtain ⟨v, hv, rx⟩ := vr.get hx
  rw [g6 hd] at hm
  unfold minF at hm
  cases hkd : mk d with
  | none => rw [hkd] at hm; cases hm
  | some kd =>
   rw [hkd] at hm
   dsimp only at hm
   refine codeAny_builtin PySem.F.entry_min_loop ?_
   rw [Around.under_plainId PySem.F.plain_min_loop _]
   show wpAny _ X.A.in1 (seqItems? (.ref S) >>= _) _ _ _
   refine wpAny_bind (wpAny_seqItems hS rfl ?_)
   show wpAny _ X.A.in1 (tryCatch (pyNext (.ref I)) _ >>= _) _ _ _
   refine wpAny_bind (wpAny_tryCatch (wpAny_pyNext_tuple_item hit pl (by simpa using hv) fun h1 hit1 s1 => ?_))
   have I1 : Inv X pins σ H { s with heap := h1, toks := s.toks } := I'.turnedL (fp := [I]) (fun b o hb e => s1.extBut b o (by simpa using hb) e) (fun b hb => by rw [List.mem_singleton.mp hb]; exact fI)
   have hS1 : h1.get? S = some (seqObj "list" #[vb, kb] c) := s1.extBut _ _ (Ne.symm hIS) hS
   obtain ⟨oI, eI, cI, dI⟩ := id hit1
   have Ip := I1.pin2 fI fS eI hS1 (fun v z => by rw [dI] at z; cases z) (fun v z => by cases z)
   show wpAny _ X.A.in1 (tryCatch (holding [v] (call (.ref q) [v])) _ >>= _) _ _ _
   refine wpAny_bind (wpAny_tryCatch (wpAny_holding (wpAny_mono (hk (pins ++ [(I, oI), (S, seqObj "list" #[vb, kb] c)]) σ H F _ x v d kd Ip ext.fh px rx hkd) (fun w s2 hw => ?_) fun _ _ z => z.elim)))
   obtain ⟨y, F2, H2, I2, rw2, x2, py2⟩ := hw
   have pI := I2.pin (I, oI) (by simp)
   have pS := I2.pin (S, seqObj "list" #[vb, kb] c) (by simp)
   have I2' : Inv X pins σ H2 s2 := I2.unpinned
   have fI2 : FpOk X pins H2 I := fI.now pI.2.1
   have fS2 : FpOk X pins H2 S := fS.now pS.2.1
   have hit2 : s2.heap.IsTupleIter I l (j + 1 + 1) := ⟨oI, pI.1, cI, dI⟩
   cases hlt8 : ltF 8 kd kdb with
   | none => rw [hlt8] at hm; cases hm
   | some bt =>
    rw [hlt8] at hm
    have hcmp := yi9 I2' 8 (A := X.A.in1) (by show X.A.units + 1 + 8 < cLine; omega) (py2.mono x2.fh) ((py.mono x2.ff).mono x2.fh) rw2 ry hlt8
    show wpAny _ X.A.in1 (tryCatch (holding [v, w] (richCompare .Lt w kb >>= _)) _ >>= _) _ _ _
    refine wpAny_bind (wpAny_tryCatch (wpAny_holding (wpAny_bind (hcmp X.prog X.w _ _ ?_))))
    refine wpAny_bind (wpAny_holding (wpAny_truthy_bool ?_))
    refine wpAny_bind (wpAny_letGo (wpAny_pure ?_))
    cases bt with
    | true =>
     have s3 := Heap.SameBut.update s2.heap S (Obj.mapSeq fun _ => #[v, w])
     obtain ⟨c2, hc2⟩ : ∃ c2, (s2.heap.update S (Obj.mapSeq fun _ => #[v, w])).get? S = some (seqObj "list" #[v, w] c2) := ⟨_, get?_update_seq pS.1 fun _ => #[v, w]⟩
     simp only [if_true]
     refine wpAny_bind ?_
     refine wpAny_updateSeq pS.1 rfl (wpAny_bind (wpAny_letGo ?_))
     rw [hname]
     have I3 : Inv X pins σ H2 { s2 with heap := s2.heap.update S (Obj.mapSeq fun _ => #[v, w]), toks := s2.toks } := I2'.turnedL (fp := [S]) (fun b o hb e => (s3.2 b (by simpa using hb)).trans e) (fun b hb => by rw [List.mem_singleton.mp hb]; exact fS2)
     refine wpAny_pure ⟨plainId_quiet PySem.F.plain_min_loop _, ih (j + 1) H2 F2 H0 F0 _ x y v w d kd c2 R (by omega) hlt I3 (ext.trans x2) (x2.hh.seqT sq) (rs.mono x2.ff) ⟨oI, (s3.2 I hIS).trans pI.1, cI, dI⟩ hc2 fI2 fS2 rx (px.mono x2.ff) rw2 py2 hm hR⟩
    | false =>
     simp only [Bool.false_eq_true, if_false]
     refine wpAny_bind (wpAny_letGo ?_)
     rw [hname]
     refine wpAny_pure ⟨plainId_quiet PySem.F.plain_min_loop _, ih (j + 1) H2 F2 H0 F0 _ xb yb vb kb db kdb c R (by omega) hlt I2' (ext.trans x2) (x2.hh.seqT sq) (rs.mono x2.ff) hit2 pS.1 fI2 fS2 rb (pb.mono x2.ff) ry (py.mono x2.ff) hm hR⟩
theorem zj9 (a b v : Value) : argsOk "min" ⟨[a, b], [(Str.ofString "key", v)]⟩ := by unfold argsOk; kernel_rfl
set_option maxHeartbeats 8000000 in
theorem yi0 {q : Addr} {mk : D -> Option D} (hk : zw4 X (.ref q) mk) (hc : X.calm = true) (hu : X.A.units + 64 < cLine) {xs : List V} {ds : List D} {dm : D} {Hb Fb : Hp} {sb : Shared} {E : Value -> Shared -> Prop} {Q : Value -> Shared -> Prop}
  {u1 u2 : Value} (Ib : Inv X pins σ Hb sb) (sfb : Same Fb Hb) (vb : Vals xs [u1, u2]) (rsb : Reps X.K Fb xs ds) (hm : minN mk ds = some dm)
  (hQ : ∀ x v F' H' s', Inv X pins σ H' s' -> RelV x v -> Ext Fb Hb F' H' -> Rep X.K F' x dm -> Q v s') :
  wpAny (model X.prog X.w) X.A (call (.builtin "min") [u1, u2] [(Str.ofString "key", .ref q)]) Q E sb := by
 have hname : (toString "min" ++ toString ".loop" : String) = "min.loop" := by decide
 refine kmk_tree PySem.F.kind_min PySem.F.plain_min PySem.F.entry_min (zj9 _ _ _) ?_
 show wpAny _ X.A.in1 (Builtin.Builtins.bindParams "min" ["key", "default"] 0 ⟨[], [(Str.ofString "key", .ref q)]⟩ >>= _) _ _ sb
 refine wpAny_bind (wpAny_of_eq (show Builtin.Builtins.bindParams "min" ["key", "default"] 0 ⟨[], [(Str.ofString "key", .ref q)]⟩ = pure [some (.ref q), none] from rfl) ?_)
 have hzl : xs.length = 2 := vb.length
 have hfr : Hb sb.heap.objs.size = none := Ib.hok.fresh (Nat.le_refl _)
 show wpAny _ X.A.in1 (newTuple [u1, u2] >>= _) _ _ sb
 refine wpAny_bind (wpAny_newTuple ?_ (by show 2 <= sizeLine; rw [sizeLine_eq]; decide))
 have I : Inv X pins σ (upd Hb sb.heap.objs.size (.tup xs)) { sb with heap := sb.heap.push (seqObj "tuple" #[u1, u2] 0), toks := sb.toks } := Ib.laid (t' := sb.toks) (fun b u e => Heap.get?_push_of_some _ e) (Nat.le_refl _) ⟨by rw [hzl, sizeLine_eq]; decide, _, vb, ⟨_, Heap.get?_push_size _ rfl, rfl, _, rfl⟩⟩
 have xb : Ext Fb Hb (upd Fb sb.heap.objs.size (.tup xs)) (upd Hb sb.heap.objs.size (.tup xs)) := Ext.laid sfb hfr
 have sf : Same (upd Fb sb.heap.objs.size (.tup xs)) (upd Hb sb.heap.objs.size (.tup xs)) := xb.fh
 have sq : SqT X.K (upd Hb sb.heap.objs.size (.tup xs)) sb.heap.objs.size xs := SqT.of y6
 have rs : Reps X.K (upd Fb sb.heap.objs.size (.tup xs)) xs ds := rsb.mono xb.ff
 have hQ : ∀ x v F' H' s', Inv X pins σ H' s' -> RelV x v -> Ext (upd Fb sb.heap.objs.size (.tup xs)) (upd Hb sb.heap.objs.size (.tup xs)) F' H' -> Rep X.K F' x dm -> Q v s' := fun x v F' H' s' a b c d => hQ x v F' H' s' a b (xb.trans c) d
 generalize upd Fb sb.heap.objs.size (.tup xs) = F at *
 generalize upd Hb sb.heap.objs.size (.tup xs) = H at *
 show wpAny _ X.A.in1 (pyIter (.ref sb.heap.objs.size) >>= _) _ _ { sb with heap := sb.heap.push (seqObj "tuple" #[u1, u2] 0), toks := sb.toks }
 generalize sb.heap.objs.size = l at *
 generalize ({ sb with heap := sb.heap.push (seqObj "tuple" #[u1, u2] 0), toks := sb.toks } : Shared) = s at *
 obtain ⟨its, vr, pl, _⟩ := I.tuple sq
 have hls := pl
 obtain ⟨ol, hol, _⟩ := id hls
 have hll : l < s.heap.objs.size := Heap.lt_size hol
 refine wpAny_bind (wpAny_pyIter_tuple hls ?_)
 refine wpAny_bind (wpAny_newList ?_ (Nat.zero_le _))
 rw [hname]
 refine wpAny_pure ⟨plainId_quiet PySem.F.plain_min_loop _, ?_⟩
 generalize hIo : ({ cls := .type "tuple_iterator", data := .fields #[.ref l, .int 0 0] } : Obj) = oI0
 have hS : (s.heap.push oI0).objs.size = s.heap.objs.size + 1 := size_push' ..
 have hlI : l ≠ s.heap.objs.size := Nat.ne_of_lt hll
 have hlS : l ≠ (s.heap.push oI0).objs.size := by rw [hS]; exact Nat.ne_of_lt (Nat.lt_succ_of_lt hll)
 have hIS : s.heap.objs.size ≠ (s.heap.push oI0).objs.size := by rw [hS]; exact Nat.ne_of_lt (Nat.lt_succ_self _)
 have gI : ((s.heap.push oI0).push (seqObj "list" #[] 0)).get? s.heap.objs.size = some oI0 := Heap.get?_push_of_some _ (Heap.get?_push_size _ (by rw [<- hIo]; rfl))
 have gS : ((s.heap.push oI0).push (seqObj "list" #[] 0)).get? (s.heap.push oI0).objs.size = some (seqObj "list" #[] 0) := Heap.get?_push_size _ rfl
 have fI : FpOk X pins H s.heap.objs.size := I.fpOk (Nat.le_refl _) (I.hok.fresh (Nat.le_refl _))
 have fS : FpOk X pins H (s.heap.push oI0).objs.size := I.fpOk (by rw [hS]; exact Nat.le_succ _) (I.hok.fresh (by rw [hS]; exact Nat.le_succ _))
 have I0 : Inv X pins σ H { s with heap := (s.heap.push oI0).push (seqObj "list" #[] 0), toks := s.toks } := I.turnedL (fp := []) (fun b o _ e => Heap.get?_push_of_some _ (Heap.get?_push_of_some _ e)) (fun b hb => by cases hb)
 generalize (s.heap.push oI0).objs.size = S at *
 generalize hI : s.heap.objs.size = J at *
 generalize (s.heap.push oI0).push (seqObj "list" #[] 0) = h0 at *
 have hit : h0.IsTupleIter J l 0 := ⟨_, gI, by rw [<- hIo], by rw [<- hIo]; rfl⟩
 have zl : its.length = ds.length := by rw [<- vr.length, rs.length]
 obtain ⟨its', vr', pl', _⟩ := I0.tuple sq
 have zl' : its'.length = ds.length := by rw [<- vr'.length, rs.length]
 refine codeAny_builtin PySem.F.entry_min_loop ?_
 rw [Around.under_plainId PySem.F.plain_min_loop _]
 show wpAny _ X.A.in1 (seqItems? (.ref S) >>= _) _ _ _
 refine wpAny_bind (wpAny_seqItems gS rfl ?_)
 show wpAny _ X.A.in1 (tryCatch (pyNext (.ref J)) _ >>= _) _ _ _
 cases ds with
 | nil => cases hm
 | cons d ds =>
  obtain ⟨x, hx, px⟩ := rs.get (i := 0) (d := d) rfl
  obtain ⟨v, hv, rx⟩ := vr'.get hx
  unfold minN at hm
  dsimp only at hm
  cases hkd : mk d with
  | none => rw [hkd] at hm; cases hm
  | some kd =>
   rw [hkd] at hm
   dsimp only at hm
   refine wpAny_bind (wpAny_tryCatch (wpAny_pyNext_tuple_item hit pl' (by simpa using hv) fun h1 hit1 s1 => ?_))
   have I1 := I0.turnedL (h' := h1) (t' := s.toks) (fp := [J]) (fun b o hb e => s1.extBut b o (by simpa using hb) e) (fun b hb => by rw [List.mem_singleton.mp hb]; exact fI)
   have hS1 : h1.get? S = some (seqObj "list" #[] 0) := s1.extBut _ _ (Ne.symm hIS) gS
   obtain ⟨oI, eI, cI, dI⟩ := id hit1
   have Ip := I1.pin2 fI fS eI hS1 (fun v z => by rw [dI] at z; cases z) (fun v z => by cases z)
   show wpAny _ X.A.in1 (tryCatch (holding [v] (call (.ref q) [v])) _ >>= _) _ _ _
   refine wpAny_bind (wpAny_tryCatch (wpAny_holding (wpAny_mono (hk (pins ++ [(J, oI), (S, seqObj "list" #[] 0)]) σ H F _ x v d kd Ip sf px rx hkd) (fun w s2 hw => ?_) fun _ _ z => z.elim)))
   obtain ⟨y, F2, H2, I2, rw2, x2, py2⟩ := hw
   have pI := I2.pin (J, oI) (by simp)
   have pS := I2.pin (S, seqObj "list" #[] 0) (by simp)
   have I2' : Inv X pins σ H2 s2 := I2.unpinned
   have fI2 : FpOk X pins H2 J := fI.now pI.2.1
   have fS2 : FpOk X pins H2 S := fS.now pS.2.1
   have s3 := Heap.SameBut.update s2.heap S (Obj.mapSeq fun _ => #[v, w])
   obtain ⟨c2, hc2⟩ : ∃ c2, (s2.heap.update S (Obj.mapSeq fun _ => #[v, w])).get? S = some (seqObj "list" #[v, w] c2) := ⟨_, get?_update_seq pS.1 fun _ => #[v, w]⟩
   show wpAny _ X.A.in1 (updateSeq S (fun _ => #[v, w]) >>= _) _ _ _
   refine wpAny_bind (wpAny_updateSeq pS.1 rfl ?_)
   rw [hname]
   have I3 : Inv X pins σ H2 { s2 with heap := s2.heap.update S (Obj.mapSeq fun _ => #[v, w]), toks := s2.toks } := I2'.turnedL (fp := [S]) (fun b o hb e => (s3.2 b (by simpa using hb)).trans e) (fun b hb => by rw [List.mem_singleton.mp hb]; exact fS2)
   refine wpAny_pure ⟨plainId_quiet PySem.F.plain_min_loop _, yt2 hk hc hu (ds := d :: ds) (dm := dm) hIS hlI hlS _ 0 H2 F2 H F _ x y v w d kd c2 _ rfl (by simp) I3 x2 (x2.hh.seqT sq) (rs.mono x2.ff) ⟨oI, (s3.2 J hIS).trans pI.1, cI, dI⟩ hc2 fI2 fS2 rx (px.mono x2.ff) rw2 py2 hm fun x v F' H' s' a b c d => hQ x v F' H' s' a b c d⟩
@[irreducible] def J8 (mk : D -> Option D) (m : ML) : ME := fun ρ => (m ρ).bind fun ds => minN mk ds
theorem yu9 {mk : D -> Option D} {m : ML} {ρ : Ro} {ds : List D} (h1 : m ρ = some ds) : J8 mk m ρ = minN mk ds := by
 unfold J8
 rw [h1]; rfl
theorem zh4 {q : Addr} {mk : D -> Option D} {x : Str} {p pf kp pos : Pos} {e1 e2 : Expr} {m : ML} (hk : zw4 X (.ref q) mk) (hc : X.calm = true) (hu : X.A.units + 64 < cLine) (hg : Gl X "min") (hm : X.mg "min" = none) (hgf : Gl X x) (hmf : X.mg x = some (.ref q)) (ha : PAs X [e1, e2] m) (hl : ∀ ρ ds, m ρ = some ds -> ds.length = 2)
  (hdb : (x == ("__debug__" : Str)) = false := by decide) (hs : starEach [e1, e2] X.env = (false, eval e1 X.env) :: starEach [e2] X.env := by rfl) (hpl : (backTo pos (starEach [e2] X.env)).any (·.1) = false := by rfl) :
  PD X (.Call (.Name "min" p) [e1, e2] [⟨some "key", .Name x pf, kp⟩] pos) (J8 mk m) := by
 intro pins s σ H Q I h
 obtain ⟨F0, H0, F, ρ, g, rl, em, q0⟩ := h
 unfold J8 at em
 cases h1 : m ρ with
 | none => rw [h1] at em; cases em
 | some ds =>
  rw [h1, Option.bind_some] at em
  refine wpAny_Call_Name_kw (Y8 I hg hm PyProof.Rows.boot_min ?_ (by decide) (by decide))
  have A := ha pos pins s σ H (fun vs H1 => ∃ F1, Ext F H F1 H1 /\ Reps X.K F1 vs ds) I ⟨F0, H0, F, ρ, ds, rl, h1, fun vs F1 H1 x1 r1 => ⟨F1, x1, r1⟩⟩
  refine callWith_kw (thn A fun us s1 hpat => ?_) (by rw [hs]; rfl) (by rw [hs]; show ((false, eval e1 X.env) :: backTo pos (starEach [e2] X.env)).any (·.1) = false; rw [any_cons, hpl]; rfl)
  obtain ⟨vs, H1, I1, r1, F1, x1, rs⟩ := hpat
  have B := P7 (nm := some "key") (kpos := kp) (zz6 (v := .ref q) (pos := pf) hgf hmf rfl hdb) zu4 pos pins s1 σ H1 (fun vs H2 => vs = [.ref q] /\ H2 = H1) I1 ⟨rfl, rfl⟩
  refine thn B fun us' s2 hpat => ?_
  obtain ⟨ws, H2, I2, r2, ev, eH⟩ := hpat
  subst ev eH
  obtain ⟨w1, rfl, ru1⟩ := R3 r2
  cases ru1
  have hl2 : us.length = 2 := by rw [<- r1.length, rs.length, hl ρ ds h1]
  match us, hl2, r1 with
  | [u1, u2], _, r1 => exact yi0 hk hc hu I2 x1.fh r1 rs em fun x v F' H' s' I' rx x3 px => ⟨x, H', I', rx, q0 x F' H' (x1.trans x3) px⟩
end
end
section
inductive RPs (K : W.Frag) (F H : Hp) : List Addr -> List (List D) -> Prop
 | nil : RPs K F H [] []
 | cons {q : Addr} {xs : List V} {ds : List D} {qs : List Addr} {dss : List (List D)} : H q = some (.lst xs) -> Reps K F xs ds -> RPs K F H qs dss -> RPs K F H (q :: qs) (ds :: dss)
section
variable {K : W.Frag} {F H F' H' : Hp}
theorem RPs.mono (e : Same F F') (k : Same H H') : ∀ {qs : List Addr} {dss : List (List D)}, RPs K F H qs dss -> RPs K F' H' qs dss
 | _, _, .nil => .nil
 | _, _, .cons h r t => .cons (k _ _ h) (r.mono e) (RPs.mono e k t)
theorem RPs.keep (e : Same F F') : ∀ {qs : List Addr} {dss : List (List D)}, (∀ q ∈ qs, ∀ o, H q = some o -> H' q = some o) -> RPs K F H qs dss -> RPs K F' H' qs dss
 | _, _, _, .nil => .nil
 | _, _, k, .cons h r t => .cons (k _ mem_cons_self _ h) (r.mono e) (RPs.keep e (fun q hq => k q (mem_cons_of_mem _ hq)) t)
theorem RPs.snoc {q : Addr} {xs : List V} {ds : List D} (h : H q = some (.lst xs)) (r : Reps K F xs ds) : ∀ {qs : List Addr} {dss : List (List D)}, RPs K F H qs dss -> RPs K F H (qs ++ [q]) (dss ++ [ds])
 | _, _, .nil => .cons h r .nil
 | _, _, .cons a b t => .cons a b (RPs.snoc h r t)
theorem RPs.length : ∀ {qs : List Addr} {dss : List (List D)}, RPs K F H qs dss -> qs.length = dss.length
 | _, _, .nil => rfl
 | _, _, .cons _ _ t => congrArg (· + 1) (RPs.length t)
theorem RPs.get : ∀ {qs : List Addr} {dss : List (List D)} {i : Nat} {ds : List D}, RPs K F H qs dss -> dss[i]? = some ds -> ∃ q xs, qs[i]? = some q /\ H q = some (.lst xs) /\ Reps K F xs ds
 | _, _, _, _, .nil, e => by simp at e
 | _, _, 0, _, .cons a b _, e => by simp at e; subst e; exact ⟨_, _, rfl, a, b⟩
 | _, _, i + 1, ds, .cons _ _ t, e => by
  obtain ⟨q, xs, h1, h2⟩ := RPs.get (i := i) (ds := ds) t (by simpa using e)
  exact ⟨q, xs, by simpa using h1, h2⟩
theorem RPs.some : ∀ {qs : List Addr} {dss : List (List D)}, RPs K F H qs dss -> ∀ q ∈ qs, ∃ o, H q = some o
 | _, _, .cons a _ t, q, hq => by
  rcases List.mem_cons.mp hq with e | hq
  ·rw [e]; exact ⟨_, a⟩
  ·exact RPs.some t q hq
end
abbrev MP := Ro -> Option (List (List D))
structure Pots (K : W.Frag) (H F' H' : Hp) (p : Addr) (qs : List Addr) (dss : List (List D)) : Prop where
 hp : H p = none
 fp : F' p = none
 at' : H' p = some (.lst (qs.map V.ref))
 new : ∀ q ∈ qs, H q = none /\ F' q = none
 nd : (p :: qs).Nodup
 rep : RPs K F' H' qs dss
def TPt (K : W.Frag) (m : MP) : TE := fun σ H Q => ∃ F0 H0 F ρ dss, Rl K F0 H0 F H σ ρ /\ m ρ = some dss /\ ∀ p qs F' H', Ext F H F' H' -> Pots K H F' H' p qs dss -> Q (.ref p) H'
def PP (X : Cx) (e : Expr) (m : MP) : Prop := PE X e (TPt X.K m)
theorem Ext.stays {F H F' H' : Hp} {p : Addr} {o : HO} (x : Ext F H F' H') (hF : F p = none) (hH : H p = some o) : F' p = none := by
 cases q : F' p with
 | none => rfl
 | some u => have := x.new p hF (by rw [q]; simp); rw [this] at hH; cases hH
section
variable {X : Cx} {a b c e : Expr} {pos : Pos}
def yt1 (m : ML) : MP := fun ρ => (m ρ).map fun ds => [ds]
theorem xz4 {m : ML} (ha : PF X a m) (hs : starEach (a :: []) X.env = (false, eval a X.env) :: starEach [] X.env := by rfl) : PP X (.List [a] pos) (yt1 m) := (yw8 (k6 ha pa_nil hs)).imp fun σ H Q hpat => by
 obtain ⟨F0, H0, F, ρ, dss, rl, e, q⟩ := hpat
 unfold yt1 at e
 cases h1 : m ρ with
 | none => rw [h1] at e; cases e
 | some ds =>
  rw [h1] at e; cases e
  refine ⟨F0, H0, F, ρ, ds, rl, h1, fun w xs F1 H1 x1 hw hF hH rs => ⟨by show 1 <= sizeLine; rw [sizeLine_eq]; decide, fun p hp => ?_⟩⟩
  have hne : w ≠ p := fun z => by rw [z, hp] at hH; cases hH
  refine q p [w] F1 _ (x1.trans (Ext.own x1.fh hp)) ⟨x1.hh.free hp, x1.fh.free hp, y6, fun z hz => ?_, ?_, .cons (by rw [y9 hne]; exact hH) rs .nil⟩
  ·rw [List.mem_singleton.mp hz]; exact ⟨hw, hF⟩
  ·simp only [nodup_cons, mem_singleton, not_mem_nil, not_false_eq_true, nodup_nil, and_true]
   exact fun z => hne z.symm
def zx3 (g : Tg) (elt : ML) : List D -> Ro -> List (List D) -> Option (List (List D))
 | [], _, acc => some acc
 | it :: its, ρ, acc => match tgD g it ρ with
  | some ρ1 => (match elt ρ1 with
   | some ds => if acc.length < sizeLine then zx3 g elt its ρ1 (acc ++ [ds]) else none
   | none => none)
  | none => none
def C4 (src : List (Option Nat)) (mi : ML) (g : Tg) (elt : ML) : MP := fun ρ => (mi ρ).bind fun its => zx3 g elt its (E3 src ρ) []
theorem xt0 {K : W.Frag} {src : List (Option Nat)} {mi : ML} {g : Tg} {elt : ML} {σ : St} {H : Hp} {Q : VK} (h : TPt K (C4 src mi g elt) σ H Q) : zd4 src (TId K mi) (TGd K g) (TC K cyes) (TF K elt) σ H Q := by
 obtain ⟨F0, H0, F, ρ, out, rl, e, q⟩ := h
 unfold C4 at e
 cases h1 : mi ρ with
 | none => rw [h1] at e; cases e
 | some its =>
  rw [h1] at e
  have e : zx3 g elt its (E3 src ρ) [] = some out := e
  refine ⟨F0, H0, F, ρ, its, rl, h1, fun J F1 H1 x1 I => ?_⟩
  intro p hp
  obtain ⟨rb, no⟩ := (rl.go x1).blk src
  have hF1 : F1 p = none := x1.fh.free hp
  refine ⟨fun i m σ' H' => ∃ F' ρ' acc qs, Rl K F1 H1 F' H' σ' ρ' /\ NoOwn ρ' /\ H' p = some (.lst (qs.map V.ref)) /\ F' p = none /\ RPs K F' H' qs acc /\ (∀ w ∈ qs, H1 w = none /\ F' w = none) /\ (p :: qs).Nodup /\ i <= its.length /\ m = its.length - i /\ zx3 g elt (its.drop i) ρ' acc = some out,
   ⟨_, F1, E3 src ρ, [], [], rb.other no hp hF1, no, y6, hF1, .nil, (fun w hw => by cases hw), by simp, Nat.zero_le _, rfl, e⟩, ?_⟩
  rintro i m σ' H' ⟨F', ρ', acc, qs, rl', no', hH', hF', ra, hnew, hnd, hi', rfl, e'⟩
  by_cases hlt : i < its.length
  ·right
   have hd := getElem?_eq_getElem hlt
   refine ⟨I.go i F' H' rl'.ext.ff rl'.fh hlt, fun σ2 H2 => ∃ F2 ρ2 acc2 qs2, Rl K F1 H1 F2 H2 σ2 ρ2 /\ NoOwn ρ2 /\ H2 p = some (.lst (qs2.map V.ref)) /\ F2 p = none /\ RPs K F2 H2 qs2 acc2 /\ (∀ w ∈ qs2, H1 w = none /\ F2 w = none) /\ (p :: qs2).Nodup /\ zx3 g elt (its.drop (i + 1)) ρ2 acc2 = some out, ?_, fun x H2 y => ?_⟩
   ·rintro σ2 H2 ⟨F2, ρ2, acc2, qs2, b1, b2, b3, b4, b5, b6, b7, b8⟩
    exact ⟨its.length - (i + 1), by omega, F2, ρ2, acc2, qs2, b1, b2, b3, b4, b5, b6, b7, hlt, rfl, b8⟩
   ·obtain ⟨F2, x2, r2⟩ := I.yld i F' H' x H2 _ rl'.ext.ff rl'.fh hd y
    rw [g6 hd] at e'
    unfold zx3 at e'
    cases h2 : tgD g its[i] ρ' with
    | none => simp only [h2] at e'; cases e'
    | some ρ1 =>
     simp only [h2] at e'
     refine ⟨F1, H1, F2, ρ', _, ρ1, rl'.go x2, r2, h2, fun F3 H3 σ3 rl3 x3 => ?_⟩
     have no1 := no'.tg h2
     have x23 := x2.trans x3
     refine ⟨F1, H1, F3, ρ1, true, rl3, rfl, fun F4 H4 x4 => iteT ?_⟩
     have x24 := x23.trans x4
     cases h4 : elt ρ1 with
     | none => simp only [h4] at e'; cases e'
     | some ds =>
      simp only [h4] at e'
      split at e'
      ·rename_i hz
       refine ⟨F1, H1, F4, ρ1, ds, rl3.go x4, h4, fun w xs F5 H5 x5 hw hwF hwH r5 => ?_⟩
       have x25 := x24.trans x5
       have hp5 := x25.hh _ _ hH'
       have hwp : w ≠ p := fun z => by rw [z, x24.hh _ _ hH'] at hw; cases hw
       have ra5 : RPs K F5 H5 qs acc := ra.mono x25.ff x25.hh
       have hwq : w ∉ qs := fun z => by
        obtain ⟨o, ho⟩ := ra.some w z
        rw [x24.hh _ _ ho] at hw; cases hw
       refine ⟨qs.map V.ref, hp5, by rw [length_map, ra.length]; exact hz, F5, ρ1, acc ++ [ds], qs ++ [w], ((rl3.go x4).go x5).other no1 hp (x25.stays hF' hH'), no1, by rw [y6, map_append]; rfl, x25.stays hF' hH', ?_, fun z hz' => ?_, ?_, e'⟩
       ·refine ((ra5.snoc hwH r5)).keep (Same.refl _) fun z hz' o ho => ?_
        have : z ≠ p := by
         rcases List.mem_append.mp hz' with z1 | z1
         ·exact fun zz => (List.nodup_cons.mp hnd).1 (zz ▸ z1)
         ·rw [List.mem_singleton.mp z1]; exact hwp
        rw [y9 this]; exact ho
       ·rcases List.mem_append.mp hz' with z1 | z1
        ·obtain ⟨o, ho⟩ := ra.some z z1
         exact ⟨(hnew z z1).1, x25.stays (hnew z z1).2 ho⟩
        ·rw [List.mem_singleton.mp z1]
         exact ⟨(rl3.go x4).ext.hh.free hw, hwF⟩
       ·have hn := List.nodup_cons.mp hnd
        refine List.nodup_cons.mpr ⟨fun z => ?_, List.nodup_append.mpr ⟨hn.2, by simp, fun a ha b hb => ?_⟩⟩
        ·rcases List.mem_append.mp z with z1 | z1
         ·exact hn.1 z1
         ·exact hwp (List.mem_singleton.mp z1).symm
        ·rw [List.mem_singleton.mp hb]; exact fun zz => hwq (zz ▸ ha)
      ·cases e'
  ·left
   have hieq : i = its.length := by omega
   subst hieq
   rw [drop_length] at e'
   have e' : some acc = some out := e'
   cases e'
   exact ⟨I.stop F' H' rl'.ext.ff rl'.fh, q p qs F' H' (x1.trans rl'.ext) ⟨x1.hh.free hp, hF', hH', fun w hw => ⟨x1.hh.free (hnew w hw).1, (hnew w hw).2⟩, hnd, ra⟩⟩
theorem xz5 {sc : Scope} {N : List Str} {src : List (Option Nat)} {tg elt iter : Expr} {mi : ML} {g : Tg} {me : ML} (B : Blk X sc N src) (hc : X.calm = true)
  (hi : PId X tg iter mi) (hg : ∀ C fp s H, PGd (b0 X sc C N fp s H) tg g) (he : ∀ C fp s H, PF (b0 X sc C N fp s H) elt me)
  (hs : ∀ x, foldedSetIterable iter X.env x = pure x := by intro _; rfl) :
  PP X (.ListComp elt [⟨tg, iter, [], 0⟩] sc pos) (C4 src mi g me) := (zo7 (g := TGd X.K g) (tc := TC X.K cyes) (te := TF X.K me) B hc hi (fun C fp s H => hg C fp s H) (fun C fp s H => U3) (fun C fp s H => he C fp s H) hs).imp fun _ _ _ h => xt0 h
end
abbrev MFP := List D -> Option (List (List D))
def spP (K : W.Frag) (n : Nat) (m : MFP) : Sp := fun vs H Q _ => vs.length = n /\ ∃ F ds dss, Same F H /\ Reps K F vs ds /\ m ds = some dss /\ ∀ p qs F' H', Ext F H F' H' -> Pots K H F' H' p qs dss -> Q (.ref p) H'
def runP (n : Nat) (c : MB) (m1 m2 : MP) : MFP := fun ds => match c (v3 n ds) with
 | some true => m1 (v3 n ds)
 | some false => m2 (v3 n ds)
 | none => none
theorem Fun.okP {P : Program} {w : World} {K : W.Frag} {mg : Str -> Option Value} {base : Heap} {x qual : Str} {st : Stmt} {f : Addr} {fd : FuncData} {N ps : List Str} {k : Nat} {c e1 e2 : Expr} {p1 p2 p3 : Pos} {cc : MB} {m1 m2 : MP} (Fn : Fun K x qual st f fd) (Sc : FnScope N ps (y0 st))
  (hst : i7 st = [.If c [.Return (some e1) p1] [] p2, .Return (some e2) p3])
  (hc : ∀ (cdv : Value) (A : Around) (outer : List Env) (s : Shared) (H : Hp) (E : XK), Room k (A.deeper (envOfC qual (y0 st) s.heap.objs.size f cdv)) -> PC' (cxOf CX0 P w K mg base N qual (y0 st) f cdv A outer s H E).nox c cc)
  (h1 : ∀ (cdv : Value) (A : Around) (outer : List Env) (s : Shared) (H : Hp) (E : XK), Room k (A.deeper (envOfC qual (y0 st) s.heap.objs.size f cdv)) -> PP (cxOf CX0 P w K mg base N qual (y0 st) f cdv A outer s H E).nox e1 m1)
  (h2 : ∀ (cdv : Value) (A : Around) (outer : List Env) (s : Shared) (H : Hp) (E : XK), Room k (A.deeper (envOfC qual (y0 st) s.heap.objs.size f cdv)) -> PP (cxOf CX0 P w K mg base N qual (y0 st) f cdv A outer s H E).nox e2 m2) :
  FnOk P w K mg base CX0 (k + 1) f fd ps (spP K ps.length (runP N.length cc m1 m2)) := by
 refine Fn.ok Sc (fun vs H Q E h => h.1) fun cdv A outer s H vs Q E hr h => ?_
 obtain ⟨hl, F, ds, dss, sf, rs, e, ok⟩ := h
 rw [hst]
 refine ⟨_, M8 (yk0 (hc cdv A outer s H E hr) (A9 (R7 (h1 cdv A outer s H E hr))) pss_nil) (A9 (R7 (h2 cdv A outer s H E hr))), ?_⟩
 have rl := M5 (N := N) sf rs
 unfold runP at e
 cases q : cc (v3 N.length ds) with
 | none => simp only [q] at e; cases e
 | some b =>
  simp only [q] at e
  refine ⟨F, H, F, v3 N.length ds, b, rl, q, fun F1 H1 x1 => ?_⟩
  cases b with
  | true =>
   refine iteT ⟨F, H, F1, _, dss, rl.go x1, e, fun p qs F2 H2 x2 pt => ?_⟩
   exact ok p qs F2 H2 (x1.trans x2) ⟨x1.hh.free pt.hp, pt.fp, pt.at', fun z hz => ⟨x1.hh.free (pt.new z hz).1, (pt.new z hz).2⟩, pt.nd, pt.rep⟩
  | false =>
   refine iteF ⟨F, H, F1, _, dss, rl.go x1, e, fun p qs F2 H2 x2 pt => ?_⟩
   exact ok p qs F2 H2 (x1.trans x2) ⟨x1.hh.free pt.hp, pt.fp, pt.at', fun z hz => ⟨x1.hh.free (pt.new z hz).1, (pt.new z hz).2⟩, pt.nd, pt.rep⟩
end
section
def Hx (H0 H1 : Hp) (A : List Addr) : Hp := fun b => if b ∈ A then H1 b else H0 b
theorem zi3 {H0 H1 : Hp} {A : List Addr} {b : Addr} (h : b ∈ A) : Hx H0 H1 A b = H1 b := if_pos h
theorem N6 {H0 H1 : Hp} {A : List Addr} {b : Addr} (h : b ∉ A) : Hx H0 H1 A b = H0 b := if_neg h
theorem Ext.less {F0 H0 H0' F H : Hp} (s : Same H0 H0') (x : Ext F0 H0' F H) : Ext F0 H0 F H := ⟨x.ff, s.trans x.hh, x.fh, fun b e n => s.free (x.new b e n), x.nf⟩
section
variable {K : W.Frag} {F0 H0 H0' F H : Hp} {σ : St} {ρ : Ro}
theorem Rl.less (s : Same H0 H0') (r : Rl K F0 H0' F H σ ρ) : Rl K F0 H0 F H σ ρ where
 ext := r.ext.less s
 len := r.len
 sh := r.sh
 own := fun i ds h => let ⟨p, xs, a, b, c, d, z⟩ := r.own i ds h; ⟨p, xs, a, b, c, d, s.free z⟩
 inj := r.inj
 ob := fun i p ds h => let ⟨a, b, c, d⟩ := r.ob i p ds h; ⟨a, b, s.free c, d⟩
 obn := r.obn
 ob1 := r.ob1
theorem okO.less {Fb : Hp} {Dn : Ends} (s : Same H0 H0') : ∀ {o : Out}, okO K F0 H0 Fb Dn o -> okO K F0 H0' Fb Dn o
 | .nx _, h => fun F H σ rl q => h F H σ (rl.less s) q
 | .bk _, h => fun F H σ rl q => h F H σ (rl.less s) q
 | .ct _, h => fun F H σ rl q => h F H σ (rl.less s) q
 | .rt _, h => fun v F H x r => h v F H (x.less s) r
 | .rf _, h => fun p xs F H x a b c d => h p xs F H (x.less s) (s.free a) b c d
 | .rp _ _, h => fun t v p xs F H x a b c d e f g i j => h t v p xs F H (x.less s) (s.free a) (s.free b) c d e f g i j
 | .rg _ _ _, h => fun v F H xs x a b c d => h v F H xs (x.less s) a b c d
 | .rgf _ _ _, h => fun q ys F H xs x a b c d e f g i => h q ys F H xs (x.less s) (s.free a) b c d e f g i
end
section
variable {X : Cx} {a b c e : Expr} {pos : Pos} {st : Stmt}
variable {E : XK} {es : List Expr} {m : ML}
def zg4 (f : MFP) (m : ML) : MP := fun ρ => (m ρ).bind f
theorem xz6 {n : Nat} {mf : MFP} (h : ∀ t, PA X es t -> PE X e (yz7 (spP X.K n mf) [] E t)) (hl : es.length = n) (ha : PAs X es m) (hm : ∀ ρ ds, m ρ = some ds -> ds.length = es.length) : PP X e (zg4 mf m) := (h _ ha).imp fun σ H Q hpat => by
 obtain ⟨F0, H0, F, ρ, d, rl, e, q⟩ := hpat
 unfold zg4 at e
 cases h1 : m ρ with
 | none => rw [h1] at e; cases e
 | some ds =>
  rw [h1] at e
  refine ⟨F0, H0, F, ρ, ds, rl, h1, fun vs F1 H1 x1 r1 => ?_⟩
  show spP X.K n mf (vs ++ []) H1 Q E
  rw [append_nil]
  refine ⟨by rw [r1.length, hm ρ ds h1, hl], F1, ds, d, x1.fh, r1, e, fun p qs F2 H2 x2 pt => ?_⟩
  exact q p qs F2 H2 (x1.trans x2) ⟨x1.hh.free pt.hp, pt.fp, pt.at', fun z hz => ⟨x1.hh.free (pt.new z hz).1, (pt.new z hz).2⟩, pt.nd, pt.rep⟩
end
end
section
section
variable {K : W.Frag} {F0 H0 F H : Hp} {σ : St} {ρ : Ro}
theorem Rl.freezeQ (r : Rl K F0 H0 F H σ ρ) {i : Nat} {ds : List D} (h : ρ[i]? = some (some (.own ds))) : ∃ p xs, F p = none /\ Reps K F xs ds /\ Rl K F0 H0 (upd F p (.lst xs)) H σ (ρ.set i (some (.sh (.lst ds)))) := by
 obtain ⟨p, xs, a, b, c, d, z⟩ := r.own i ds h
 have hl : i < ρ.length := (List.getElem?_eq_some_iff.mp h).1
 have e : Ext F0 H0 (upd F p (.lst xs)) H := r.ext.freeze b z c
 have ff : Same F (upd F p (.lst xs)) := (Same.refl F).put b
 refine ⟨p, xs, b, d, ⟨e, by simp [r.len], fun j d' q => ?_, fun j es q => ?_, fun j k q es es' hjk e1 e2 e3 e4 => ?_, fun j q es e1 => ?_, fun j k q es es' e1 e2 e3 => ?_, fun j k q q' es es' e1 e2 => r.ob1 j k q q' es es' (o0 e1).2 (o0 e2).2⟩⟩
 ·by_cases hj : i = j
  ·subst hj
   rw [getElem?_set_self hl] at q
   cases q
   exact ⟨_, a, .lst (SqL.of y6) (d.mono ff)⟩
  ·rw [getElem?_set_ne hj] at q
   obtain ⟨v, v1, v2⟩ := r.sh j d' q
   exact ⟨v, v1, v2.mono ff⟩
 ·by_cases hj : i = j
  ·subst hj
   rw [getElem?_set_self hl] at q
   cases q
  ·rw [getElem?_set_ne hj] at q
   obtain ⟨p', xs', a', b', c', d', z'⟩ := r.own j es q
   have hp : p' ≠ p := fun w => r.inj i j p ds es hj h q a (by rw [<- w]; exact a')
   exact ⟨p', xs', a', by rw [y9 hp]; exact b', c', d'.mono ff, z'⟩
 ·have n1 : i ≠ j := fun w => by subst w; rw [getElem?_set_self hl] at e1; cases e1
  have n2 : i ≠ k := fun w => by subst w; rw [getElem?_set_self hl] at e2; cases e2
  rw [getElem?_set_ne n1] at e1
  rw [getElem?_set_ne n2] at e2
  exact r.inj j k q es es' hjk e1 e2 e3 e4
 ·obtain ⟨n, e1⟩ := o0 e1
  obtain ⟨o1, o2, o3, zs, o4, o5⟩ := r.ob j q es e1
  have hp : q ≠ p := fun w => r.obn j i q es ds e1 h (by rw [w]; exact a)
  exact ⟨o1, by rw [y9 hp]; exact o2, o3, zs, o4, o5.mono ff⟩
 ·obtain ⟨n, e1⟩ := o0 e1
  have n2 : i ≠ k := fun w => by subst w; rw [getElem?_set_self hl] at e2; cases e2
  rw [getElem?_set_ne n2] at e2
  exact r.obn j k q es es' e1 e2 e3
end
def hasL : List D -> Bool
 | [] => false
 | .lst _ :: _ => true
 | _ :: r => hasL r
theorem yr6 {K : W.Frag} {F : Hp} : ∀ {xs : List V} {ds es : List D}, hasL ds = true -> zt5 es = true -> Reps K F xs ds -> Reps K F xs es -> False
 | _, [], _, h, _, _, _ => by cases h
 | _, d :: ds, [], h, _, .cons _ _, r => by cases r
 | _, d :: ds, e :: es, h, h2, .cons a r, .cons b r2 => by
  cases e with
  | int k =>
   cases b
   cases a
   exact yr6 (show hasL ds = true from h) (show zt5 es = true from h2) r r2
  | _ => cases h2
def yn1 (ds : List D) : D -> Bool
 | .lst es => zt5 es && hasL ds
 | _ => false
@[irreducible] def zm0 (i : Nat) (m : ME) : ME := fun ρ => match ρ[i]? with
 | some (some (.own ds)) => (match m (ρ.set i (some (.sh (.lst ds)))) with | some d => if yn1 ds d = true then some d else none | none => none)
 | _ => m ρ
theorem yz4 {K : W.Frag} {F : Hp} {p : Addr} {xs : List V} {ds : List D} {v : V} {d : D} (hp : F p = some (.lst xs)) (hx : Reps K F xs ds) (h : yn1 ds d = true) (r : Rep K F v d) : Rep K (fun b => if b = p then none else F b) v d := by
 cases r with
 | lst sq rs =>
  rename_i a ys es
  have h : (zt5 es && hasL ds) = true := h
  rw [Bool.and_eq_true] at h
  refine .lst ?_ (zv6 h.1 rs)
  rcases sq with (sq | ⟨o, sq⟩) | sq
  ·have hne : a ≠ p := fun z => by
    rw [z, hp] at sq; cases sq
    exact yr6 h.2 h.1 hx rs
   exact .inl (.inl (by show (if a = p then none else F a) = _; rw [if_neg hne]; exact sq))
  ·have hne : a ≠ p := fun z => by rw [z, hp] at sq; cases sq
   exact .inl (.inr ⟨o, by show (if a = p then none else F a) = _; rw [if_neg hne]; exact sq⟩)
  ·exact .inr sq
 | _ => cases h
theorem yv5 {X : Cx} {e : Expr} {m : ME} (i : Nat) (h : PD X e m) : PD X e (zm0 i m) := h.imp fun σ H Q hpat => by
 obtain ⟨F0, H0, F, ρ, d, rl, e, q⟩ := hpat
 unfold zm0 at e
 split at e
 ·rename_i ds h1
  obtain ⟨p, xs, hp, hx, rl'⟩ := rl.freezeQ h1
  split at e
  ·rename_i d' h2
   split at e
   ·rename_i hs
    cases e
    refine ⟨F0, H0, _, _, d, rl', h2, fun v F2 H2 x2 r2 => ?_⟩
    have hp2 : F2 p = some (.lst xs) := x2.ff _ _ y6
    refine q v (fun b => if b = p then none else F2 b) H2 ⟨fun b o hb => ?_, x2.hh, fun b o hb => ?_, fun b hb hn => ?_, fun b o u z => by
     have z : (if b = p then none else F2 b) = some (.frz o u) := z
     split at z
     ·cases z
     ·rename_i hne
      have := x2.nf b o u z
      rwa [y9 hne] at this⟩ (yz4 hp2 (hx.mono (((Same.refl F).put hp).trans x2.ff)) hs r2)
    ·have hne : b ≠ p := fun w => by rw [w, hp] at hb; cases hb
     show (if b = p then none else F2 b) = some o
     rw [if_neg hne]
     exact x2.ff b o (by rw [y9 hne]; exact hb)
    ·have hb : (if b = p then none else F2 b) = some o := hb
     split at hb
     ·cases hb
     ·exact x2.fh b o hb
    ·have hn : (if b = p then none else F2 b) ≠ none := hn
     split at hn
     ·exact absurd rfl hn
     ·rename_i hne
      exact x2.new b (by rw [y9 hne]; exact hb) hn
   ·cases e
  ·cases e
 ·exact ⟨F0, H0, F, ρ, d, rl, e, q⟩
end
section
section
variable {X : Cx} {a b : Expr} {ma mb : ME} {pos : Pos}
end
section
variable {X : Cx} {a b : Expr}
open PySem.SeqAt in
end
end
section
section
variable {X : Cx} {a b c e o : Expr} {ma mb mo : ME} {pos : Pos} {st : Stmt}
end
open Classical in
section
variable {X : Cx} {pos : Pos}
end
end
section
section
variable {X : Cx} {st : Stmt}
end
end
section
inductive Fl where
 | v (d : D) | l (ds : List D)
inductive Cell where
 | ins (c : Str) (ns : List Str) (fs : List Fl)
 | row (fs : List Fl)
abbrev Bx := List (Addr × Cell)
inductive FlR (K : W.Frag) (F B : Hp) : List Addr -> List V -> List Fl -> Prop
 | nil : FlR K F B [] [] []
 | v {fp : List Addr} {x : V} {d : D} {xs : List V} {fs : List Fl} : Rep K F x d -> FlR K F B fp xs fs -> FlR K F B fp (x :: xs) (.v d :: fs)
 | l {fp : List Addr} {q : Addr} {ys : List V} {ds : List D} {xs : List V} {fs : List Fl} : B q = some (.lst ys) -> Reps K F ys ds -> FlR K F B fp xs fs -> FlR K F B (q :: fp) (.ref q :: xs) (.l ds :: fs)
inductive CellR (K : W.Frag) (F B : Hp) : List Addr -> Addr -> Cell -> Prop
 | ins {fp : List Addr} {p dx C : Addr} {c : Str} {ns : List Str} {xs : List V} {fs : List Fl} : W.nsIn K mainGlobals c = some (some (.ref C)) -> ns.length = xs.length -> B p = some (.ins C dx (ns.zip xs)) -> B dx = some (.own p) -> FlR K F B fp xs fs ->
   CellR K F B (p :: dx :: fp) p (.ins c ns fs)
 | row {fp : List Addr} {p : Addr} {xs : List V} {fs : List Fl} : B p = some (.lst xs) -> FlR K F B fp xs fs -> CellR K F B (p :: fp) p (.row fs)
inductive BxR (K : W.Frag) (F B : Hp) : List Addr -> Bx -> Prop
 | nil : BxR K F B [] []
 | cons {fp fq : List Addr} {p : Addr} {c : Cell} {β : Bx} : CellR K F B fp p c -> BxR K F B fq β -> BxR K F B (fp ++ fq) ((p, c) :: β)
section
variable {K : W.Frag} {F F' B B' : Hp}
theorem FlR.mono (e : Same F F') {fp : List Addr} {xs : List V} {fs : List Fl} (h : FlR K F B fp xs fs) (k : ∀ a ∈ fp, B' a = B a) : FlR K F' B' fp xs fs := by
 induction h with
 | nil => exact .nil
 | v r _ ih => exact .v (r.mono e) (ih k)
 | l b r _ ih => exact .l (by rw [k _ (by simp)]; exact b) (r.mono e) (ih fun a ha => k a (mem_cons_of_mem _ ha))
theorem CellR.mono (e : Same F F') {fp : List Addr} {p : Addr} {c : Cell} (h : CellR K F B fp p c) (k : ∀ a ∈ fp, B' a = B a) : CellR K F' B' fp p c := by
 cases h with
 | ins a l b d r => exact .ins a l (by rw [k _ (by simp)]; exact b) (by rw [k _ (by simp)]; exact d) (r.mono e fun a ha => k a (by simp [ha]))
 | row b r => exact .row (by rw [k _ (by simp)]; exact b) (r.mono e fun a ha => k a (by simp [ha]))
theorem BxR.mono (e : Same F F') {fp : List Addr} {β : Bx} (h : BxR K F B fp β) (k : ∀ a ∈ fp, B' a = B a) : BxR K F' B' fp β := by
 induction h with
 | nil => exact .nil
 | cons c _ ih => exact .cons (c.mono e fun a ha => k a (by simp [ha])) (ih fun a ha => k a (by simp [ha]))
theorem FlR.mem {fp : List Addr} {xs : List V} {fs : List Fl} (h : FlR K F B fp xs fs) : ∀ a ∈ fp, B a ≠ none := by
 induction h with
 | nil => intro a ha; cases ha
 | v _ _ ih => exact ih
 | l b _ _ ih =>
  intro a ha
  rcases List.mem_cons.mp ha with rfl | ha
  ·rw [b]; simp
  ·exact ih a ha
theorem CellR.mem {fp : List Addr} {p : Addr} {c : Cell} (h : CellR K F B fp p c) : ∀ a ∈ fp, B a ≠ none := by
 intro a ha
 cases h with
 | ins _ _ b d r =>
  rcases List.mem_cons.mp ha with rfl | ha
  ·rw [b]; simp
  ·rcases List.mem_cons.mp ha with rfl | ha
   ·rw [d]; simp
   ·exact r.mem a ha
 | row b r =>
  rcases List.mem_cons.mp ha with rfl | ha
  ·rw [b]; simp
  ·exact r.mem a ha
theorem BxR.mem {fp : List Addr} {β : Bx} (h : BxR K F B fp β) : ∀ a ∈ fp, B a ≠ none := by
 induction h with
 | nil => intro a ha; cases ha
 | cons c _ ih =>
  intro a ha
  rcases List.mem_append.mp ha with ha | ha
  ·exact c.mem a ha
  ·exact ih a ha
end
def jn (H0 B : Hp) : Hp := fun a => match B a with | some o => some o | none => H0 a
theorem t5 {H0 B : Hp} {a : Addr} {o : HO} (h : B a = some o) : jn H0 B a = some o := by unfold jn; rw [h]
theorem n9 {H0 B : Hp} {a : Addr} (h : B a = none) : jn H0 B a = H0 a := by unfold jn; rw [h]
theorem d6 {H0 B : Hp} {a : Addr} (h : jn H0 B a = none) : B a = none /\ H0 a = none := by
 cases b : B a with
 | none => rw [n9 b] at h; exact ⟨rfl, h⟩
 | some o => rw [t5 b] at h; cases h
structure BxOk (K : W.Frag) (F0 H0 F B : Hp) (fp : List Addr) (β : Bx) : Prop where
 out : ∀ a, B a ≠ none -> H0 a = none /\ F0 a = none
 bx : BxR K F B fp β
 nd : fp.Nodup
 plain : ∀ a o u, B a ≠ some (.frz o u)
theorem BxOk.mono {K : W.Frag} {F0 H0 F F' B : Hp} {fp : List Addr} {β : Bx} (h : BxOk K F0 H0 F B fp β) (e : Same F F') : BxOk K F0 H0 F' B fp β := ⟨h.out, h.bx.mono e fun _ _ => rfl, h.nd, h.plain⟩
def RlW (K : W.Frag) (F0 H0 F H : Hp) (σ : St) (ρ : Ro) (β : Bx) : Prop := ∃ B fp, Rl K F0 (jn H0 B) F H σ ρ /\ BxOk K F0 H0 F B fp β
abbrev MW := Ro -> Bx -> Option (Out × Bx)
def okW (K : W.Frag) (F0 H0 Fb : Hp) (Dn : Ends) : Out -> Bx -> Prop
 | .nx ρ, β => ∀ F H σ, RlW K F0 H0 F H σ ρ β -> Same Fb F -> Dn.nx σ H
 | .bk ρ, β => ∀ F H σ, RlW K F0 H0 F H σ ρ β -> Same Fb F -> Dn.bk σ H
 | .ct ρ, β => ∀ F H σ, RlW K F0 H0 F H σ ρ β -> Same Fb F -> Dn.ct σ H
 | .rt d, β => ∀ v F H B fp, Ext F0 (jn H0 B) F H -> BxOk K F0 H0 F B fp β -> Rep K F v d -> Dn.rt v H
 | .rf ds, β => ∀ p xs F H B fp, Ext F0 (jn H0 B) F H -> BxOk K F0 H0 F B fp β -> jn H0 B p = none -> F p = none -> H p = some (.lst xs) -> Reps K F xs ds -> Dn.rt (.ref p) H
 | .rg d p r, β => ∀ v F H xs B fp, Ext F0 (jn H0 B) F H -> BxOk K F0 H0 F B fp β -> Rep K F v d -> jn H0 B p = none -> F p = none -> H p = some (.lst xs) -> Reps K F xs r -> Dn.rt v H
 | .rp _ _, _ => False
 | .rgf _ _ _, _ => False
theorem okW.mono {K : W.Frag} {F0 H0 Fb Fb' : Hp} {Dn : Ends} (s : Same Fb Fb') : ∀ {o : Out} {β : Bx}, okW K F0 H0 Fb Dn o β -> okW K F0 H0 Fb' Dn o β
 | .nx _, _, h => fun F H σ rl q => h F H σ rl (s.trans q)
 | .bk _, _, h => fun F H σ rl q => h F H σ rl (s.trans q)
 | .ct _, _, h => fun F H σ rl q => h F H σ rl (s.trans q)
 | .rt _, _, h => h
 | .rf _, _, h => h
 | .rp _ _, _, h => h
 | .rg _ _ _, _, h => h
 | .rgf _ _ _, _, h => h
def TSw (K : W.Frag) (m : MW) : TS := fun Dn σ H => ∃ F0 H0 F ρ β o β', RlW K F0 H0 F H σ ρ β /\ m ρ β = some (o, β') /\ okW K F0 H0 F Dn o β'
def TDw (K : W.Frag) (m : Ro -> Bx -> Option D) : TE := fun σ H Q => ∃ F0 H0 F ρ β d, RlW K F0 H0 F H σ ρ β /\ m ρ β = some d /\ ∀ v F' H', RlW K F0 H0 F' H' σ ρ β -> Same F F' -> Same H H' -> Rep K F' v d -> Q v H'
def TCw (K : W.Frag) (m : Ro -> Bx -> Option Bool) : TT := fun σ H Q => ∃ F0 H0 F ρ β b, RlW K F0 H0 F H σ ρ β /\ m ρ β = some b /\ ∀ F' H', RlW K F0 H0 F' H' σ ρ β -> Same F F' -> Q b H'
def PSw (X : Cx) (st : Stmt) (m : MW) : Prop := PS X st (TSw X.K m)
def PSsw (X : Cx) (st : List Stmt) (m : MW) : Prop := PSs X st (TSw X.K m)
def PDw (X : Cx) (e : Expr) (m : Ro -> Bx -> Option D) : Prop := PE X e (TDw X.K m)
def PCw' (X : Cx) (e : Expr) (m : Ro -> Bx -> Option Bool) : Prop := PT X e (TCw X.K m)
section
variable {X : Cx} {a b c e : Expr} {pos : Pos} {st : Stmt} {rest : List Stmt}
def wS (m : MS) : MW := fun ρ β => match m ρ with | some (.nx ρ') => some (.nx ρ', β) | some (.bk ρ') => some (.bk ρ', β) | some (.ct ρ') => some (.ct ρ', β) | _ => none
def wE {α : Type} (m : Ro -> Option α) : Ro -> Bx -> Option α := fun ρ _ => m ρ
theorem psw {m : MS} (h : PSd X st m) : PSw X st (wS m) := PS.imp h fun Dn σ H ⟨F0, H0, F, ρ, β, o, β', ⟨B, fp, rl, ok⟩, e, k⟩ => by
 unfold wS at e
 split at e
 ·rename_i ρ' h1
  cases e
  exact ⟨F0, jn H0 B, F, ρ, _, rl, h1, fun F' H' σ' rl' sf => k F' H' σ' ⟨B, fp, rl', ok.mono sf⟩ sf⟩
 ·rename_i ρ' h1
  cases e
  exact ⟨F0, jn H0 B, F, ρ, _, rl, h1, fun F' H' σ' rl' sf => k F' H' σ' ⟨B, fp, rl', ok.mono sf⟩ sf⟩
 ·rename_i ρ' h1
  cases e
  exact ⟨F0, jn H0 B, F, ρ, _, rl, h1, fun F' H' σ' rl' sf => k F' H' σ' ⟨B, fp, rl', ok.mono sf⟩ sf⟩
 ·cases e
theorem pdw {m : ME} (h : PD X e m) : PDw X e (wE m) := PE.imp h fun σ H Q ⟨F0, H0, F, ρ, β, d, ⟨B, fp, rl, ok⟩, e, q⟩ =>
 ⟨F0, jn H0 B, F, ρ, d, rl, e, fun v F' H' x r => q v F' H' ⟨B, fp, rl.go x, ok.mono x.ff⟩ x.ff x.hh r⟩
theorem pcw {m : MB} (h : PC' X e m) : PCw' X e (wE m) := PT.imp h fun σ H Q ⟨F0, H0, F, ρ, β, d, ⟨B, fp, rl, ok⟩, e, q⟩ =>
 ⟨F0, jn H0 B, F, ρ, d, rl, e, fun F' H' x => q F' H' ⟨B, fp, rl.go x, ok.mono x.ff⟩ x.ff⟩
def W6 (x y : MW) : MW := fun ρ β => match x ρ β with | some (.nx ρ', β') => y ρ' β' | o => o
theorem Z6 {m : MW} (h : PSw X st m) : PSsw X [st] m := A9 h
theorem M7 : PSsw X [] (wS c9) := PSs.imp pss_nil fun Dn σ H ⟨F0, H0, F, ρ, β, o, β', ⟨B, fp, rl, ok⟩, e, k⟩ => by
 cases e
 exact k F H σ ⟨B, fp, rl, ok⟩ (Same.refl _)
theorem t7 {m1 m2' : MW} (h1 : PSw X st m1) (h2 : PSsw X rest m2') : PSsw X (st :: rest) (W6 m1 m2') := PSs.imp (M8 h1 h2) fun D σ H hpat => by
 obtain ⟨F0, H0, F, ρ, β, o, β', rw', e, ok⟩ := hpat
 unfold W6 at e
 cases h : m1 ρ β with
 | none => rw [h] at e; cases e
 | some ob =>
  obtain ⟨o1, β1⟩ := ob
  rw [h] at e
  cases o1 with
  | nx ρ1 => exact ⟨F0, H0, F, ρ, β, _, β1, rw', h, fun F' H' σ' rl' sf => ⟨F0, H0, F', ρ1, β1, o, β', rl', e, ok.mono sf⟩⟩
  | bk ρ1 => cases e; exact ⟨F0, H0, F, ρ, β, _, _, rw', h, ok⟩
  | ct ρ1 => cases e; exact ⟨F0, H0, F, ρ, β, _, _, rw', h, ok⟩
  | rt d => cases e; exact ⟨F0, H0, F, ρ, β, _, _, rw', h, ok⟩
  | rf d => cases e; exact ⟨F0, H0, F, ρ, β, _, _, rw', h, ok⟩
  | rp d ds => cases e; exact ⟨F0, H0, F, ρ, β, _, _, rw', h, ok⟩
  | rg d p r => cases e; exact ⟨F0, H0, F, ρ, β, _, _, rw', h, ok⟩
  | rgf d p r => cases e; exact ⟨F0, H0, F, ρ, β, _, _, rw', h, ok⟩
def mifW (c : Ro -> Bx -> Option Bool) (x y : MW) : MW := fun ρ β => match c ρ β with | some true => x ρ β | some false => y ρ β | none => none
theorem yx5 {ca : Ro -> Bx -> Option Bool} {x y : List Stmt} {mx my : MW} (hc : PCw' X c ca) (hx : PSsw X x mx) (hy : PSsw X y my) : PSw X (.If c x y pos) (mifW ca mx my) := PS.imp (yk0 hc hx hy) fun D σ H hpat => by
 obtain ⟨F0, H0, F, ρ, β, o, β', rw', e, ok⟩ := hpat
 unfold mifW at e
 split at e
 ·rename_i h1
  exact ⟨F0, H0, F, ρ, β, _, rw', h1, fun F1 H1 r1 x1 => iteT ⟨F0, H0, F1, ρ, β, o, β', r1, e, ok.mono x1⟩⟩
 ·rename_i h1
  exact ⟨F0, H0, F, ρ, β, _, rw', h1, fun F1 H1 r1 x1 => iteF ⟨F0, H0, F1, ρ, β, o, β', r1, e, ok.mono x1⟩⟩
 ·cases e
def zd9 (x : Ro -> Bx -> Option D) : MW := fun ρ β => (x ρ β).map fun d => (.rt d, β)
theorem zo5 {ma : Ro -> Bx -> Option D} (h : PS X st (tRet (TDw X.K ma))) : PSw X st (zd9 ma) := PS.imp h fun D σ H hpat => by
 obtain ⟨F0, H0, F, ρ, β, o, β', rw', e, ok⟩ := hpat
 unfold zd9 at e
 cases h1 : ma ρ β with
 | none => rw [h1] at e; cases e
 | some d =>
  rw [h1] at e; cases e
  refine ⟨F0, H0, F, ρ, β, d, rw', h1, fun v F1 H1 r1 x1 _ rp => ?_⟩
  obtain ⟨B, fp, rl, k⟩ := r1
  exact ok v F1 H1 B fp rl.ext k rp
def forW (g : Tg) (body : MW) : List D -> MW
 | [], ρ, β => some (.nx ρ, β)
 | d :: ds, ρ, β => match tgD g d ρ with
  | some ρ1 => match body ρ1 β with
   | some (.nx ρ2, β2) => forW g body ds ρ2 β2
   | some (.ct ρ2, β2) => forW g body ds ρ2 β2
   | some (.bk ρ2, β2) => some (.nx ρ2, β2)
   | o => o
  | none => none
def yi2 (mi : ML) (g : Tg) (body : MW) : MW := fun ρ β => (mi ρ).bind fun its => forW g body its ρ β
theorem xz0 {tg iter : Expr} {body : List Stmt} {mi : ML} {g : Tg} {mb : MW} (hp : PassesOwn (model X.prog X.w) X.A X.env X.xe) (hc : X.calm = true) (hi : PId X tg iter mi) (hg : PGd X tg g) (hb : PSsw X body mb)
  (hs : ∀ x, foldedSetIterable iter X.env x = pure x := by intro _; rfl) : PSw X (.For tg iter body [] pos) (yi2 mi g mb) := PS.imp (yx9 hp hc hi hg hb hs) fun Dn σ H ⟨F0, H0, F, ρ, β, o, β', ⟨B, fp, rl, ok⟩, e, k⟩ => by
 unfold yi2 at e
 cases h1 : mi ρ with
 | none => rw [h1] at e; cases e
 | some its =>
  rw [h1] at e
  have e : forW g mb its ρ β = some (o, β') := e
  refine ⟨F0, jn H0 B, F, ρ, its, rl, h1, fun J F1 H1 x1 I => ?_⟩
  refine ⟨fun i m σ' H' => ∃ F' ρ' β1, RlW X.K F0 H0 F' H' σ' ρ' β1 /\ Same F1 F' /\ i <= its.length /\ m = its.length - i /\ forW g mb (its.drop i) ρ' β1 = some (o, β'), ⟨_, F1, ρ, β, ⟨B, fp, rl.go x1, ok.mono x1.ff⟩, Same.refl _, Nat.zero_le _, rfl, e⟩, ?_⟩
  rintro i m σ' H' ⟨F', ρ', β1, ⟨B1, fp1, rl', ok'⟩, sf, hi', rfl, e'⟩
  by_cases hlt : i < its.length
  ·right
   have hd := getElem?_eq_getElem hlt
   refine ⟨I.go i F' H' sf rl'.fh hlt, fun σ2 H2 => ∃ F2 ρ2 β2, RlW X.K F0 H0 F2 H2 σ2 ρ2 β2 /\ Same F1 F2 /\ forW g mb (its.drop (i + 1)) ρ2 β2 = some (o, β'), ?_, fun x H2 y => ?_⟩
   ·rintro σ2 H2 ⟨F2, ρ2, β2, rl2, sf2, e2⟩
    exact ⟨its.length - (i + 1), by omega, F2, ρ2, β2, rl2, sf2, hlt, rfl, e2⟩
   ·obtain ⟨F2, x2, r2⟩ := I.yld i F' H' x H2 _ sf rl'.fh hd y
    rw [g6 hd] at e'
    unfold forW at e'
    cases h2 : tgD g its[i] ρ' with
    | none => simp only [h2] at e'; cases e'
    | some ρ1 =>
     simp only [h2] at e'
     refine ⟨F0, jn H0 B1, F2, ρ', _, ρ1, rl'.go x2, r2, h2, fun F3 H3 σ3 rl3 x3 => ?_⟩
     have s3 : Same F1 F3 := (sf.trans x2.ff).trans x3.ff
     cases h3 : mb ρ1 β1 with
     | none => simp only [h3] at e'; cases e'
     | some ob =>
      obtain ⟨o1, β2⟩ := ob
      simp only [h3] at e'
      refine ⟨F0, H0, F3, ρ1, β1, o1, β2, ⟨B1, fp1, rl3, ok'.mono (x2.ff.trans x3.ff)⟩, h3, ?_⟩
      cases o1 with
      | nx ρ2 => exact fun F5 H5 σ5 rl5 s5 => ⟨F5, ρ2, β2, rl5, s3.trans s5, e'⟩
      | ct ρ2 => exact fun F5 H5 σ5 rl5 s5 => ⟨F5, ρ2, β2, rl5, s3.trans s5, e'⟩
      | bk ρ2 =>
       cases e'
       exact fun F5 H5 σ5 rl5 s5 => k F5 H5 σ5 rl5 ((x1.ff.trans s3).trans s5)
      | rt d => cases e'; exact k.mono (x1.ff.trans s3)
      | rf d => cases e'; exact k.mono (x1.ff.trans s3)
      | rp d ds => cases e'; exact k.mono (x1.ff.trans s3)
      | rg d p r => cases e'; exact k.mono (x1.ff.trans s3)
      | rgf d p r => cases e'; exact k.mono (x1.ff.trans s3)
  ·left
   have hieq : i = its.length := by omega
   subst hieq
   rw [drop_length] at e'
   have e' : some (Out.nx ρ', β1) = some (o, β') := e'
   cases e'
   exact ⟨I.stop F' H' sf rl'.fh, k F' H' σ' ⟨B1, fp1, rl', ok'⟩ (x1.ff.trans sf)⟩
def flD : Fl -> D
 | .v d => d
 | .l ds => .lst ds
def zj1 : Cell -> D
 | .ins c ns fs => .obj c ns (fs.map flD)
 | .row fs => .lst (fs.map flD)
def W9 (β : Bx) : Option S -> Option S
 | some (.sh (.ptr p)) => match β.lookup p with | some c => some (.sh (zj1 c)) | none => some (.sh (.ptr p))
 | x => x
def thaw (ρ : Ro) (β : Bx) : Ro := ρ.map (W9 β)
def zb1 (m : ME) : Ro -> Bx -> Option D := fun ρ β => (m (thaw ρ β)).bind fun d => if isSc d = true then some d else none
def xv6 (m : MB) : Ro -> Bx -> Option Bool := fun ρ β => m (thaw ρ β)
end
section
variable {K : W.Frag} {F0 H0 F H B : Hp} {σ : St} {ρ : Ro} {β : Bx} {fp : List Addr}
theorem FlR.rep {G : Hp} {xs : List V} {fs : List Fl} (hF : Same F G) (hB : Same B G) (h : FlR K F B fp xs fs) : Reps K G xs (fs.map flD) := by
 induction h with
 | nil => exact .nil
 | v r _ ih => exact .cons (r.mono hF) ih
 | l b r _ ih => exact .cons (.lst (SqL.of (hB _ _ b)) (r.mono hF)) ih
theorem CellR.rep {G : Hp} {p : Addr} {c : Cell} (hF : Same F G) (hB : Same B G) (h : CellR K F B fp p c) : Rep K G (.ref p) (zj1 c) := by
 cases h with
 | ins a l b d r => exact .obj a l (hB _ _ b) (hB _ _ d) (r.rep hF hB)
 | row b r => exact .lst (SqL.of (hB _ _ b)) (r.rep hF hB)
theorem BxR.at' {p : Addr} {c : Cell} : ∀ {fp : List Addr} {β : Bx}, BxR K F B fp β -> β.lookup p = some c -> ∃ fq, CellR K F B fq p c
 | _, _, .nil, e => by cases e
 | _, _, .cons (p := q) h r, e => by
  rw [lookup_cons] at e
  split at e
  ·rename_i z
   have z := beq_iff_eq.mp z
   subst z
   cases e
   exact ⟨_, h⟩
  ·exact r.at' e
theorem RlW.frozen (rl : Rl K F0 (jn H0 B) F H σ ρ) (ok : BxOk K F0 H0 F B fp β) : Rl K (jn F0 B) (jn H0 B) (jn F B) H σ (thaw ρ β) /\ Same F (jn F B) := by
 have bh : Same B H := fun a o e => rl.ext.hh a o (t5 e)
 have fn : ∀ a, B a ≠ none -> F a = none := fun a h => by
  cases q : F a with
  | none => rfl
  | some o =>
   have := rl.ext.new a (ok.out a h).2 (by rw [q]; simp)
   exact absurd (d6 this).1 h
 have fb : Same F (jn F B) := fun a o e => by
  cases q : B a with
  | none => rw [n9 q]; exact e
  | some u => rw [fn a (by rw [q]; simp)] at e; cases e
 have bj : Same B (jn F B) := fun a o e => t5 e
 have back : ∀ (i : Nat) x, (thaw ρ β)[i]? = some x -> ∃ y, ρ[i]? = some y /\ x = W9 β y := fun i x e => by
  unfold thaw at e
  rw [getElem?_map] at e
  cases q : ρ[i]? with
  | none => rw [q] at e; cases e
  | some y => rw [q] at e; cases e; exact ⟨y, rfl, rfl⟩
 have tO : ∀ {y : Option S} {ds : List D}, some (.own ds) = W9 β y -> y = some (.own ds) := fun {y ds} e => by
  unfold W9 at e
  split at e
  ·split at e <;> cases e
  ·exact e.symm
 have tB : ∀ {y : Option S} {p : Addr} {ds : List D}, some (.ob p ds) = W9 β y -> y = some (.ob p ds) := fun {y p ds} e => by
  unfold W9 at e
  split at e
  ·split at e <;> cases e
  ·exact e.symm
 have ownB : ∀ (i : Nat) ds, (thaw ρ β)[i]? = some (some (.own ds)) -> ρ[i]? = some (some (.own ds)) := fun i ds e => by
  obtain ⟨y, e1, e2⟩ := back i _ e
  rw [e1, tO e2]
 have obB : ∀ (i : Nat) p ds, (thaw ρ β)[i]? = some (some (.ob p ds)) -> ρ[i]? = some (some (.ob p ds)) := fun i p ds e => by
  obtain ⟨y, e1, e2⟩ := back i _ e
  rw [e1, tB e2]
 have jf : ∀ p, F p = none -> jn H0 B p = none -> jn F B p = none := fun p h h2 => by rw [n9 (d6 h2).1]; exact h
 refine ⟨⟨⟨fun a o e => ?_, rl.ext.hh, fun a o e => ?_, fun b e n => ?_, fun b o u e => ?_⟩, by unfold thaw; rw [length_map]; exact rl.len, fun i d e => ?_, fun i ds e => ?_, fun i j p ds es hij e1 e2 e3 e4 => rl.inj i j p ds es hij (ownB i ds e1) (ownB j es e2) e3 e4, fun i p ds e => ?_, fun i j p ds es e1 e2 e3 => rl.obn i j p ds es (obB i p ds e1) (ownB j es e2) e3, fun i j p q ds es e1 e2 => rl.ob1 i j p q ds es (obB i p ds e1) (obB j q es e2)⟩, fb⟩
 ·cases q : B a with
  | none => rw [n9 q] at e; rw [n9 q]; exact rl.ext.ff a o e
  | some u => rw [t5 q] at e; rw [t5 q]; exact e
 ·cases q : B a with
  | none => rw [n9 q] at e; exact rl.ext.fh a o e
  | some u => rw [t5 q] at e; cases e; exact bh a _ q
 ·obtain ⟨e1, e2⟩ := d6 e
  rw [n9 e1] at n
  exact rl.ext.new b e2 n
 ·cases q : B b with
  | none => rw [n9 q] at e ⊢; exact rl.ext.nf b o u e
  | some w => rw [t5 q] at e ⊢; exact e
 ·obtain ⟨y, e1, e2⟩ := back i _ e
  unfold W9 at e2
  split at e2
  ·rename_i p
   obtain ⟨v, a1, a2⟩ := rl.sh i _ e1
   cases a2
   split at e2
   ·rename_i c hc
    cases e2
    obtain ⟨fq, hq⟩ := ok.bx.at' hc
    exact ⟨_, a1, hq.rep fb bj⟩
   ·cases e2
    exact ⟨_, a1, .ptr p⟩
  ·subst e2
   obtain ⟨v, a1, a2⟩ := rl.sh i d e1
   exact ⟨v, a1, a2.mono fb⟩
 ·obtain ⟨p, xs, a1, a2, a3, a4, a5⟩ := rl.own i ds (ownB i ds e)
  exact ⟨p, xs, a1, jf p a2 a5, a3, a4.mono fb, a5⟩
 ·obtain ⟨a1, a2, a3, xs, a4, a5⟩ := rl.ob i p ds (obB i p ds e)
  exact ⟨a1, jf p a2 a3, a3, xs, a4, a5.mono fb⟩
theorem RlW.melt {F2 H2 : Hp} (rl : Rl K F0 (jn H0 B) F H σ ρ) (ok : BxOk K F0 H0 F B fp β) (x : Ext (jn F B) H F2 H2) (fb : Same F (jn F B)) : RlW K F0 H0 F H2 σ ρ β :=
 ⟨B, fp, rl.go ⟨Same.refl _, x.hh, rl.fh.trans x.hh, fun b e n => absurd e n, fun _ _ _ z => z⟩, ok⟩
end
section
variable {X : Cx} {a b c e : Expr} {pos : Pos}
theorem yk7 {m : ME} (h : PD X e m) : PDw X e (zb1 m) := PE.imp h fun σ H Q ⟨F0, H0, F, ρ, β, d, ⟨B, fp, rl, ok⟩, e, q⟩ => by
 unfold zb1 at e
 cases h1 : m (thaw ρ β) with
 | none => rw [h1] at e; cases e
 | some d' =>
  rw [h1, Option.bind_some] at e
  split at e
  ·rename_i hs
   cases e
   obtain ⟨r1, fb⟩ := RlW.frozen rl ok
   exact ⟨_, _, _, _, _, r1, h1, fun v F' H' x r => q v F H' (RlW.melt rl ok x fb) (Same.refl _) x.hh (xo4 hs r)⟩
  ·cases e
theorem yk8 {m : MB} (h : PC' X e m) : PCw' X e (xv6 m) := PT.imp h fun σ H Q ⟨F0, H0, F, ρ, β, d, ⟨B, fp, rl, ok⟩, e, q⟩ => by
 obtain ⟨r1, fb⟩ := RlW.frozen rl ok
 exact ⟨_, _, _, _, _, r1, e, fun F' H' x => q F H' (RlW.melt rl ok x fb) (Same.refl _)⟩
end
end
section
def cut (H B : Hp) : Hp := fun a => match B a with | some _ => none | none => H a
theorem xg1 {H B : Hp} {a : Addr} (h : B a ≠ none) : cut H B a = none := by
 unfold cut
 cases q : B a with
 | none => exact absurd q h
 | some o => rfl
theorem F8 {H B : Hp} {a : Addr} (h : B a = none) : cut H B a = H a := by unfold cut; rw [h]
theorem xi4 {H B : Hp} (h : Same B H) : jn (cut H B) B = H := by
 funext a
 cases q : B a with
 | none => rw [n9 q, F8 q]
 | some o => rw [t5 q, h a o q]
abbrev MFW := List D -> Bx -> Option (Rt × Bx)
def okTW (K : W.Frag) (F H B : Hp) (Q : VK) : Rt -> Bx -> Prop
 | .sh d, β => ∀ v F' H' B' fp', Ext F (jn (cut H B) B') F' H' -> BxOk K F (cut H B) F' B' fp' β -> Rep K F' v d -> Q v H'
 | .fr ds, β => ∀ p xs F' H' B' fp', Ext F (jn (cut H B) B') F' H' -> BxOk K F (cut H B) F' B' fp' β -> jn (cut H B) B' p = none -> F' p = none -> H' p = some (.lst xs) -> Reps K F' xs ds -> Q (.ref p) H'
 | .pr _ _, _ => False
def spW (K : W.Frag) (n : Nat) (m : MFW) : Sp := fun vs H Q _ => vs.length = n /\ ∃ F B fp ds β r β', Same F H /\ Same B H /\ BxOk K F (cut H B) F B fp β /\ Reps K F vs ds /\ m ds β = some (r, β') /\ okTW K F H B Q r β'
def runW (n : Nat) (m : MW) : MFW := fun ds β => match m (v3 n ds) β with
 | some (.nx _, β') => some (.sh .non, β'.drop (β'.length - β.length))
 | some (.rt d, β') => some (.sh d, β'.drop (β'.length - β.length))
 | some (.rf es, β') => some (.fr es, β'.drop (β'.length - β.length))
 | _ => none
theorem BxR.drop {K : W.Frag} {F B : Hp} : ∀ {fp : List Addr} {β : Bx} (k : Nat), BxR K F B fp β -> ∃ fq, BxR K F B fq (β.drop k) /\ fq.Sublist fp
 | _, _, 0, h => ⟨_, h, List.Sublist.refl _⟩
 | _, _, k + 1, .nil => ⟨_, .nil, List.Sublist.refl _⟩
 | _, _, k + 1, .cons c r => by
  obtain ⟨fq, h, s⟩ := BxR.drop k r
  exact ⟨fq, h, s.trans (sublist_append_right _ _)⟩
theorem BxOk.drop {K : W.Frag} {F0 H0 F B : Hp} {fp : List Addr} {β : Bx} (h : BxOk K F0 H0 F B fp β) (k : Nat) : ∃ fq, BxOk K F0 H0 F B fq (β.drop k) := by
 obtain ⟨fq, r, s⟩ := h.bx.drop k
 exact ⟨fq, h.out, r, h.nd.sublist s, h.plain⟩
theorem Fun.okW {P : Program} {w : World} {K : W.Frag} {mg : Str -> Option Value} {base : Heap} {x qual : Str} {st : Stmt} {f : Addr} {fd : FuncData} {N ps : List Str} {k : Nat} {m : MW} (Fn : Fun K x qual st f fd) (Sc : FnScope N ps (y0 st))
  (hbody : ∀ (cdv : Value) (A : Around) (outer : List Env) (s : Shared) (H : Hp) (E : XK), Room k (A.deeper (envOfC qual (y0 st) s.heap.objs.size f cdv)) -> PSsw (cxOf CX0 P w K mg base N qual (y0 st) f cdv A outer s H E).nox (i7 st) m) :
  FnOk P w K mg base CX0 (k + 1) f fd ps (spW K ps.length (runW N.length m)) := by
 refine Fn.ok Sc (fun vs H Q E h => h.1) fun cdv A outer s H vs Q E hr h => ?_
 obtain ⟨hl, F, B, fp, ds, β, r, β', sf, sb, bo, rs, e, ok⟩ := h
 unfold runW at e
 refine ⟨_, hbody cdv A outer s H E hr, F, cut H B, F, v3 N.length ds, β, ?_⟩
 have start : RlW K F (cut H B) F H (start N vs) (v3 N.length ds) β := ⟨B, fp, by rw [xi4 sb]; exact M5 sf rs, bo⟩
 split at e
 ·rename_i ρ β1 h1
  cases e
  refine ⟨_, _, start, h1, fun F' H' σ' rl _ => ?_⟩
  obtain ⟨B', fp', rl', k'⟩ := rl
  obtain ⟨fq, k2⟩ := k'.drop (β1.length - β.length)
  exact ok .non F' H' B' fq rl'.ext k2 .non
 ·rename_i d β1 h1
  cases e
  refine ⟨_, _, start, h1, fun v F' H' B' fp' x k' rp => ?_⟩
  obtain ⟨fq, k2⟩ := k'.drop (β1.length - β.length)
  exact ok v F' H' B' fq x k2 rp
 ·rename_i es β1 h1
  cases e
  refine ⟨_, _, start, h1, fun p xs F' H' B' fp' x k' a1 a2 a3 a4 => ?_⟩
  obtain ⟨fq, k2⟩ := k'.drop (β1.length - β.length)
  exact ok p xs F' H' B' fq x k2 a1 a2 a3 a4
 ·cases e
def TDx (K : W.Frag) (m : Ro -> Bx -> Option (D × Bx)) : TE := fun σ H Q => ∃ F0 H0 F ρ β d β', RlW K F0 H0 F H σ ρ β /\ m ρ β = some (d, β') /\ ∀ v F' H', RlW K F0 H0 F' H' σ ρ β' -> Same F F' -> Rep K F' v d -> Q v H'
def PDx (X : Cx) (e : Expr) (m : Ro -> Bx -> Option (D × Bx)) : Prop := PE X e (TDx X.K m)
section
variable {K : W.Frag} {F0 H0 F H B : Hp} {σ : St} {ρ : Ro} {β : Bx} {fp : List Addr}
theorem BxOk.call (rl : Rl K F0 (jn H0 B) F H σ ρ) (ok : BxOk K F0 H0 F B fp β) : Same B H /\ BxOk K F (cut H B) F B fp β := by
 have bh : Same B H := fun a o e => rl.ext.hh a o (t5 e)
 refine ⟨bh, fun a h => ⟨xg1 h, ?_⟩, ok.bx, ok.nd, ok.plain⟩
 cases q : F a with
 | none => rfl
 | some o =>
  have := rl.ext.new a (ok.out a h).2 (by rw [q]; simp)
  exact absurd (d6 this).1 h
theorem RlW.back {F' H' B' : Hp} {fp' : List Addr} {β' : Bx} (rl : Rl K F0 (jn H0 B) F H σ ρ) (ok : BxOk K F0 H0 F B fp β) (x : Ext F (jn (cut H B) B') F' H') (ok' : BxOk K F (cut H B) F' B' fp' β') : RlW K F0 H0 F' H' σ ρ β' := by
 have h0 : ∀ a o, H0 a = some o -> B a = none /\ H a = some o /\ B' a = none := fun a o e => by
  have b : B a = none := by
   cases q : B a with
   | none => rfl
   | some u => have := (ok.out a (by rw [q]; simp)).1; rw [this] at e; cases e
  have h := rl.ext.hh a o (by rw [n9 b]; exact e)
  refine ⟨b, h, ?_⟩
  cases q : B' a with
  | none => rfl
  | some u => have := (ok'.out a (by rw [q]; simp)).1; rw [F8 b, h] at this; cases this
 have mine : ∀ p xs, jn H0 B p = none -> F p = none -> H p = some (.lst xs) -> F' p = none /\ jn H0 B' p = none /\ H' p = some (.lst xs) := fun p xs e1 e2 e3 => by
  obtain ⟨b, h⟩ := d6 e1
  have c : cut H B p = some (.lst xs) := by rw [F8 b]; exact e3
  have b' : B' p = none := by
   cases q : B' p with
   | none => rfl
   | some u => have := (ok'.out p (by rw [q]; simp)).1; rw [c] at this; cases this
  have j : jn (cut H B) B' p = some (.lst xs) := by rw [n9 b']; exact c
  refine ⟨?_, by rw [n9 b']; exact h, x.hh p _ j⟩
  cases q : F' p with
  | none => rfl
  | some u => have := x.new p e2 (by rw [q]; simp); rw [j] at this; cases this
 refine ⟨B', fp', ⟨⟨rl.ext.ff.trans x.ff, fun a o e => ?_, x.fh, fun b e n => ?_, fun b o u e => rl.ext.nf b o u (x.nf b o u e)⟩, rl.len, fun i d e => ?_, fun i ds e => ?_, rl.inj, fun i p ds e => ?_, rl.obn, rl.ob1⟩, fun a h => ⟨?_, ?_⟩, ok'.bx, ok'.nd, ok'.plain⟩
 ·cases q : B' a with
  | some u => rw [t5 q] at e; cases e; exact x.hh a _ (t5 q)
  | none =>
   rw [n9 q] at e
   obtain ⟨b, h, _⟩ := h0 a o e
   exact x.hh a o (by rw [n9 q, F8 b]; exact h)
 ·cases q1 : F b with
  | none =>
   obtain ⟨b', c⟩ := d6 (x.new b q1 n)
   rw [n9 b']
   cases q : H0 b with
   | none => rfl
   | some o => obtain ⟨z, h, _⟩ := h0 b o q; rw [F8 z, h] at c; cases c
  | some o =>
   have := rl.ext.new b e (by rw [q1]; simp)
   obtain ⟨_, h⟩ := d6 this
   cases q : B' b with
   | none => rw [n9 q]; exact h
   | some u => have := (ok'.out b (by rw [q]; simp)).2; rw [q1] at this; cases this
 ·obtain ⟨v, a1, a2⟩ := rl.sh i d e
  exact ⟨v, a1, a2.mono x.ff⟩
 ·obtain ⟨p, xs, a1, a2, a3, a4, a5⟩ := rl.own i ds e
  obtain ⟨b1, b2, b3⟩ := mine p xs a5 a2 a3
  exact ⟨p, xs, a1, b1, b3, a4.mono x.ff, b2⟩
 ·obtain ⟨a1, a2, a3, xs, a4, a5⟩ := rl.ob i p ds e
  obtain ⟨b1, b2, b3⟩ := mine p xs a3 a2 a4
  exact ⟨a1, b1, b2, xs, b3, a5.mono x.ff⟩
 ·cases q : H0 a with
  | none => rfl
  | some o => exact absurd (h0 a o q).2.2 h
 ·cases q : F0 a with
  | none => rfl
  | some o => have := (ok'.out a h).2; rw [rl.ext.ff a o q] at this; cases this
end
section
variable {X : Cx} {a b c e o : Expr} {pos : Pos} {st : Stmt} {rest : List Stmt} {E : XK} {es : List Expr} {mf : MFW} {m : ML}
def rtW : Option (Rt × Bx) -> Option (D × Bx)
 | some (.sh d, β) => some (d, β)
 | some (.fr es, β) => some (.lst es, β)
 | _ => none
theorem zq8 {K : W.Frag} {F0 H0 F H B : Hp} {σ : St} {ρ : Ro} {β β' : Bx} {fp : List Addr} {ds : List D} {d : D} {vs : List V} {n : Nat} {Q : VK} (rl : Rl K F0 (jn H0 B) F H σ ρ) (ok : BxOk K F0 H0 F B fp β) (hl : vs.length = n) (r : Reps K F vs ds) (e : rtW (mf ds β) = some (d, β'))
  (q : ∀ v F' H', RlW K F0 H0 F' H' σ ρ β' -> Same F F' -> Rep K F' v d -> Q v H') : spW K n mf vs H Q E := by
 obtain ⟨bh, k⟩ := ok.call rl
 refine ⟨hl, F, B, fp, ds, β, ?_⟩
 unfold rtW at e
 split at e
 ·rename_i d' β1 h2
  cases e
  exact ⟨_, _, rl.fh, bh, k, r, h2, fun v F' H' B' fp' x k' rp => q v F' H' (RlW.back rl ok x k') x.ff rp⟩
 ·rename_i es' β1 h2
  cases e
  refine ⟨_, _, rl.fh, bh, k, r, h2, fun p xs F' H' B' fp' x k' e1 e2 e3 rp => ?_⟩
  have s2 : Same F' (upd F' p (.lst xs)) := (Same.refl F').put e2
  exact q _ (upd F' p (.lst xs)) H' (RlW.back rl ok (x.freeze e2 e1 e3) (k'.mono s2)) (x.ff.trans s2) (.lst (SqL.of y6) (rp.mono s2))
 ·cases e
def zs0 (i : Nat) (c mn : Str) (f : MFW) (m : ML) : Ro -> Bx -> Option (D × Bx) := fun ρ β => match ρ[i]? with
 | some (some (.sh (.ptr p))) => (match β.lookup p with
  | some (.ins c' ns fs) => if c' = c /\ mn ∉ ns then (m ρ).bind fun ds => rtW (f (.ptr p :: ds) β) else none
  | _ => none)
 | _ => none
theorem V5 {ns : List Str} {mn : Str} (h : mn ∉ ns) : ∀ xs : List V, (ns.zip xs).lookup mn = none := by
 induction ns with
 | nil => intro xs; rfl
 | cons n ns ih =>
  intro xs
  cases xs with
  | nil => rfl
  | cons x xs =>
   rw [zip_cons_cons, lookup_cons]
   have hn : (mn == n) = false := by
    cases q : mn == n with
    | false => rfl
    | true => exact absurd (by rw [beq_iff_eq.mp q]; simp) h
   rw [hn]
   exact ih (fun z => h (mem_cons_of_mem _ z)) xs
theorem yk6 {n : Nat} {i : Nat} {c mn : Str} {C : Addr} (hC : W.nsIn X.K mainGlobals c = some (some (.ref C))) (ho : PD X o (mvar i)) (h : ∀ ta t, PE X o ta -> PA X es t -> PE X e (D0 C mn (spW X.K n mf) [] E ta t)) (hl : es.length + 1 = n) (ha : PAs X es m) (hm : ∀ ρ ds, m ρ = some ds -> ds.length = es.length) :
  PDx X e (zs0 i c mn mf m) := PE.imp (h _ _ ho ha) fun σ H Q ⟨F0, H0, F, ρ, β, d, β', ⟨B, fp, rl, ok⟩, e, q⟩ => by
 unfold zs0 at e
 split at e
 ·rename_i p hp
  split at e
  ·rename_i c' ns fs hb
   split at e
   ·rename_i hz
    obtain ⟨rfl, hz⟩ := hz
    cases h1 : m ρ with
    | none => rw [h1] at e; cases e
    | some ds =>
     rw [h1, Option.bind_some] at e
     obtain ⟨fq, hq⟩ := ok.bx.at' hb
     refine ⟨F0, jn H0 B, F, ρ, .ptr p, rl, by unfold mvar; rw [hp], fun v F1 H1 x1 r1 => ?_⟩
     cases r1
     cases hq with
     | ins a1 a2 a3 a4 a5 =>
      rw [hC] at a1
      cases a1
      refine ⟨p, _, _, rfl, x1.hh _ _ (rl.ext.hh _ _ (t5 a3)), V5 hz _, ?_⟩
      refine ⟨F0, jn H0 B, F1, ρ, ds, rl.go x1, h1, fun vs F2 H2 x2 r2 => ?_⟩
      show spW X.K n mf (.ref p :: (vs ++ [])) H2 Q E
      rw [append_nil]
      exact zq8 ((rl.go x1).go x2) ((ok.mono x1.ff).mono x2.ff) (by rw [length_cons, r2.length, hm ρ ds h1, hl]) (.cons (.ptr p) r2) e fun v F' H' rw' sf rp => q v F' H' rw' ((x1.ff.trans x2.ff).trans sf) rp
   ·cases e
  ·cases e
 ·cases e
def zs3 (x : Ro -> Bx -> Option (D × Bx)) : MW := fun ρ β => (x ρ β).map fun r => (.nx ρ, r.2)
theorem yx6 {ma : Ro -> Bx -> Option (D × Bx)} (h : PS X st (xp9 (TDx X.K ma))) : PSw X st (zs3 ma) := PS.imp h fun D σ H hpat => by
 obtain ⟨F0, H0, F, ρ, β, o, β', rw', e, ok⟩ := hpat
 unfold zs3 at e
 cases h1 : ma ρ β with
 | none => rw [h1] at e; cases e
 | some r =>
  rw [h1] at e; cases e
  exact ⟨F0, H0, F, ρ, β, r.1, r.2, rw', h1, fun v F1 H1 r1 x1 rp => ok F1 H1 σ r1 x1⟩
end
end
section
def fldD (c f : Str) : D -> Option D
 | .obj c' ns ds => if c' = c then (ns.zip ds).lookup f else none
 | _ => none
theorem D6 {K : W.Frag} {F : Hp} {f : Str} {d : D} : ∀ {ns : List Str} {xs : List V} {ds : List D}, ns.length = xs.length -> Reps K F xs ds -> (ns.zip ds).lookup f = some d -> ∃ v, (ns.zip xs).lookup f = some v /\ Rep K F v d
 | [], _, _, _, _, e => by cases e
 | n :: ns, [], _, l, _, _ => by cases l
 | n :: ns, x :: xs, _ :: ds, l, .cons h r, e => by
  rw [zip_cons_cons, lookup_cons] at e ⊢
  cases q : f == n with
  | true => rw [q] at e; cases e; exact ⟨x, rfl, h⟩
  | false => rw [q] at e; exact D6 (by simpa using l) r e
section
variable {X : Cx} {a b c e o : Expr} {pos apos : Pos} {E : XK} {es : List Expr} {m : ML} {mo : ME}
@[irreducible] def mfld (c f : Str) (m : ME) : ME := fun ρ => (m ρ).bind (fldD c f)
theorem K8 {c f : Str} (he : PD X o mo) (hc : ∀ C, W.nsIn X.K mainGlobals c = some (some (.ref C)) -> Cls X.K C /\ NoAttr X.K C f) (hb : attributeBase o f X.env (eval o X.env) = eval o X.env := by rfl) : PD X (.Attribute o f pos) (mfld c f mo) := PE.imp (ye0 he hb) fun σ H Q hpat => by
 obtain ⟨F0, H0, F, ρ, d, rl, e, q⟩ := hpat
 unfold mfld at e
 cases h1 : mo ρ with
 | none => rw [h1] at e; cases e
 | some d1 =>
  rw [h1, Option.bind_some] at e
  refine ⟨F0, H0, F, ρ, d1, rl, h1, fun v F1 H1 x1 r1 => ?_⟩
  cases r1 with
  | @obj _ _ _ c0 ns0 _ ds0 a1 a2 a3 a4 a5 =>
   have e9 : (if c0 = c then (ns0.zip ds0).lookup f else none) = some d := e
   clear e
   split at e9
   ·rename_i hz
    subst hz
    obtain ⟨v', e1, e2⟩ := D6 a2 a5 e9
    obtain ⟨k1, k2⟩ := hc _ a1
    exact ⟨_, _, _, _, v', rfl, x1.fh _ _ a3, k1, k2, e1, q v' F1 H1 x1 e2⟩
   ·cases e9
  | _ => cases e
@[irreducible] def Z9 (c mn : Str) (f : MF) (mo : ME) (m : ML) : ME := fun ρ => match mo ρ with
 | some (.obj c' ns ds0) => if c' = c /\ mn ∉ ns then (m ρ).bind fun ds => match f (.obj c' ns ds0 :: ds) with | some (.sh d) => some d | some (.fr es) => some (.lst es) | some (.pr d es) => some (.tup [d, .lst es]) | none => none else none
 | _ => none
end
def updB (p : Addr) (c' : Cell) : Bx -> Bx
 | [] => []
 | (q, c) :: β => if q = p then (q, c') :: β else (q, c) :: updB p c' β
section
variable {K : W.Frag} {F0 H0 F H B : Hp} {σ : St} {ρ : Ro} {β : Bx} {fp : List Addr}
theorem BxR.upd {p : Addr} {c : Cell} : ∀ {fp : List Addr} {β : Bx}, BxR K F B fp β -> fp.Nodup -> β.lookup p = some c -> ∃ fq, CellR K F B fq p c /\ fq.Nodup /\ (∀ a ∈ fq, a ∈ fp) /\
  ∀ (c' : Cell) (fq' : List Addr) (B' F' : Hp), Same F F' -> CellR K F' B' fq' p c' -> fq'.Nodup -> (∀ a ∈ fp, a ∉ fq -> B' a = B a) -> (∀ a ∈ fq', a ∈ fq \/ a ∉ fp) -> ∃ fp', BxR K F' B' fp' (updB p c' β) /\ fp'.Nodup /\ ∀ a ∈ fp', a ∈ fp \/ a ∈ fq'
 | _, _, .nil, _, e => by cases e
 | _, _, .cons (fp := f0) (fq := f1) (p := q) (c := c0) (β := β) h r, nd, e => by
  obtain ⟨n0, n1, n2⟩ := List.nodup_append.mp nd
  have dj : ∀ a, a ∈ f0 -> a ∈ f1 -> False := fun a h1 h2 => n2 a h1 a h2 rfl
  rw [lookup_cons] at e
  cases z : p == q with
  | true =>
   rw [z] at e
   have z := beq_iff_eq.mp z
   subst z
   cases e
   refine ⟨f0, h, n0, fun a ha => mem_append_left _ ha, fun c' fq' B' F' sf hc nq ag fr => ?_⟩
   unfold updB
   rw [if_pos rfl]
   refine ⟨fq' ++ f1, .cons hc (r.mono sf fun a ha => ag a (mem_append_right _ ha) fun z => dj a z ha), List.nodup_append.mpr ⟨nq, n1, fun a h1 b h2 hab => ?_⟩, fun a ha => ?_⟩
   ·subst hab
    rcases fr a h1 with z | z
    ·exact dj a z h2
    ·exact z (mem_append_right _ h2)
   ·rcases List.mem_append.mp ha with z | z
    ·exact .inr z
    ·exact .inl (mem_append_right _ z)
  | false =>
   rw [z] at e
   have hne : ¬ q = p := fun y => by rw [y, beq_self_eq_true] at z; cases z
   obtain ⟨fq, h1, nq0, hin, hup⟩ := r.upd n1 e
   refine ⟨fq, h1, nq0, fun a ha => mem_append_right _ (hin a ha), fun c' fq' B' F' sf hc nq ag fr => ?_⟩
   obtain ⟨fp', r', nd', hm⟩ := hup c' fq' B' F' sf hc nq (fun a ha hn => ag a (mem_append_right _ ha) hn) fun a ha => (fr a ha).imp id fun z y => z (mem_append_right _ y)
   unfold updB
   rw [if_neg hne]
   refine ⟨f0 ++ fp', .cons (h.mono sf fun a ha => ag a (mem_append_left _ ha) fun y => dj a ha (hin a y)) r', List.nodup_append.mpr ⟨n0, nd', fun a h1 b h2 hab => ?_⟩, fun a ha => ?_⟩
   ·subst hab
    rcases hm a h2 with z | z
    ·exact dj a h1 z
    ·rcases fr a z with y | y
     ·exact dj a h1 (hin a y)
     ·exact y (mem_append_left _ h1)
   ·rcases List.mem_append.mp ha with z | z
    ·exact .inl (mem_append_left _ z)
    ·exact (hm a z).imp (mem_append_right _) id
theorem Rl.putB {a : Addr} {o : HO} (rl : Rl K F0 (jn H0 B) F H σ ρ) (out : ∀ b, B b ≠ none -> H0 b = none /\ F0 b = none) (ha : B a ≠ none \/ H a = none) : Rl K F0 (jn H0 (upd B a o)) F (upd H a o) σ ρ /\ F a = none /\ H0 a = none /\ F0 a = none := by
 have fa : F a = none /\ H0 a = none /\ F0 a = none := by
  rcases ha with h | h
  ·refine ⟨?_, out a h⟩
   cases q : F a with
   | none => rfl
   | some u => exact absurd (d6 (rl.ext.new a (out a h).2 (by rw [q]; simp))).1 h
  ·have f : F a = none := rl.fh.free h
   exact ⟨f, (d6 (rl.ext.hh.free h)).2, rl.ext.ff.free f⟩
 have jo : ∀ b, b ≠ a -> jn H0 (upd B a o) b = jn H0 B b := fun b hb => by unfold jn; rw [y9 hb]
 have ne : ∀ p xs, jn H0 B p = none -> H p = some (.lst xs) -> p ≠ a := fun p xs e1 e2 e3 => by
  subst e3
  rcases ha with h | h
  ·exact h (d6 e1).1
  ·rw [h] at e2; cases e2
 refine ⟨⟨⟨rl.ext.ff, fun b u e => ?_, rl.ext.fh.put fa.1, fun b e n => ?_, rl.ext.nf⟩, rl.len, rl.sh, fun i ds e => ?_, rl.inj, fun i p ds e => ?_, rl.obn, rl.ob1⟩, fa⟩
 ·by_cases hb : b = a
  ·subst hb
   rw [t5 y6] at e
   rw [y6]; exact e
  ·rw [jo b hb] at e
   rw [y9 hb]
   exact rl.ext.hh b u e
 ·have hb : b ≠ a := fun z => by subst z; exact n fa.1
  rw [jo b hb]
  exact rl.ext.new b e n
 ·obtain ⟨p, xs, a1, a2, a3, a4, a5⟩ := rl.own i ds e
  have hp := ne p xs a5 a3
  exact ⟨p, xs, a1, a2, by rw [y9 hp]; exact a3, a4, by rw [jo p hp]; exact a5⟩
 ·obtain ⟨a1, a2, a3, xs, a4, a5⟩ := rl.ob i p ds e
  have hp := ne p xs a3 a4
  exact ⟨a1, a2, by rw [jo p hp]; exact a3, xs, by rw [y9 hp]; exact a4, a5⟩
end
end
section
def putN (f : Str) (w : Fl) : List Str -> List Fl -> List Str × List Fl
 | n :: ns, g :: gs => if n = f then (n :: ns, w :: gs) else (n :: (putN f w ns gs).1, g :: (putN f w ns gs).2)
 | _, _ => ([f], [w])
section
variable {K : W.Frag} {F0 H0 F H B : Hp} {σ : St} {ρ : Ro} {β : Bx} {fp : List Addr}
theorem FlR.one_cons {fw : List Addr} {y : V} {w : Fl} (h : FlR K F B fw [y] [w]) {fq : List Addr} {xs : List V} {fs : List Fl} (r : FlR K F B fq xs fs) : FlR K F B (fw ++ fq) (y :: xs) (w :: fs) := by
 cases h with
 | v a b => cases b; exact .v a r
 | l a b c => cases c; exact .l a b r
theorem FlR.put {f : Str} {y : V} {w : Fl} {fw : List Addr} (hw : FlR K F B fw [y] [w]) (nw : fw.Nodup) : ∀ {fq : List Addr} {ns : List Str} {xs : List V} {fs : List Fl}, FlR K F B fq xs fs -> ns.length = xs.length -> fq.Nodup -> (∀ a ∈ fw, a ∉ fq) ->
  ∃ xs' fq', putF f y (ns.zip xs) = (putN f w ns fs).1.zip xs' /\ (putN f w ns fs).1.length = xs'.length /\ FlR K F B fq' xs' (putN f w ns fs).2 /\ fq'.Nodup /\ ∀ a ∈ fq', a ∈ fq \/ a ∈ fw
 | _, [], _, _, .nil, _, _, _ => ⟨[y], fw, rfl, rfl, hw, nw, fun a h => .inr h⟩
 | _, _ :: _, _, _, .nil, hl, _, _ => by cases hl
 | _, [], _, _, .v _ _, hl, _, _ => by cases hl
 | _, [], _, _, .l _ _ _, hl, _, _ => by cases hl
 | fq, n :: ns, x :: xs, _ :: fs, .v r rr, hl, nd, dj => by
  have l' : ns.length = xs.length := by simpa using hl
  by_cases hn : n = f
  ·refine ⟨y :: xs, fw ++ fq, ?_, ?_, ?_, ?_, ?_⟩
   ·rw [zip_cons_cons]; unfold putF putN; rw [if_pos hn, if_pos hn]; rfl
   ·unfold putN; rw [if_pos hn]; simpa using hl
   ·unfold putN; rw [if_pos hn]; exact hw.one_cons rr
   ·exact List.nodup_append.mpr ⟨nw, nd, fun a h1 b h2 e => by subst e; exact dj a h1 h2⟩
   ·intro a ha; exact (List.mem_append.mp ha).symm
  ·obtain ⟨xs', fq', e1, e2, e3, e4, e5⟩ := FlR.put (f := f) hw nw rr l' nd dj
   refine ⟨x :: xs', fq', ?_, ?_, ?_, e4, e5⟩
   ·rw [zip_cons_cons]; unfold putF putN; rw [if_neg hn, if_neg hn, e1]; rfl
   ·unfold putN; rw [if_neg hn]; simp [e2]
   ·unfold putN; rw [if_neg hn]; exact .v r e3
 | _, n :: ns, _ :: xs, _ :: fs, .l (fp := fq) (q := q) b r rr, hl, nd, dj => by
  have l' : ns.length = xs.length := by simpa using hl
  have nd' := List.nodup_cons.mp nd
  have dj' : ∀ a ∈ fw, a ∉ fq := fun a h1 h2 => dj a h1 (mem_cons_of_mem _ h2)
  by_cases hn : n = f
  ·refine ⟨y :: xs, fw ++ fq, ?_, ?_, ?_, ?_, ?_⟩
   ·rw [zip_cons_cons]; unfold putF putN; rw [if_pos hn, if_pos hn]; rfl
   ·unfold putN; rw [if_pos hn]; simpa using hl
   ·unfold putN; rw [if_pos hn]; exact hw.one_cons rr
   ·exact List.nodup_append.mpr ⟨nw, nd'.2, fun a h1 b h2 e => by subst e; exact dj' a h1 h2⟩
   ·intro a ha
    rcases List.mem_append.mp ha with z | z
    ·exact .inr z
    ·exact .inl (mem_cons_of_mem _ z)
  ·obtain ⟨xs', fq', e1, e2, e3, e4, e5⟩ := FlR.put (f := f) hw nw rr l' nd'.2 dj'
   refine ⟨.ref q :: xs', q :: fq', ?_, ?_, ?_, ?_, ?_⟩
   ·rw [zip_cons_cons]; unfold putF putN; rw [if_neg hn, if_neg hn, e1]; rfl
   ·unfold putN; rw [if_neg hn]; simp [e2]
   ·unfold putN; rw [if_neg hn]; exact .l b r e3
   ·refine List.nodup_cons.mpr ⟨fun h => ?_, e4⟩
    rcases e5 q h with z | z
    ·exact nd'.1 z
    ·exact dj q z (by simp)
   ·intro a ha
    rcases List.mem_cons.mp ha with rfl | z
    ·exact .inl (by simp)
    ·exact (e5 a z).imp (mem_cons_of_mem _) id
theorem Rl.takeB {q : Addr} {o : HO} (rl : Rl K F0 (jn H0 B) F H σ ρ) (hH : H q = some o) (hF : F q = none) (hj : jn H0 B q = none) (hn : ∀ (i : Nat) ds, ρ[i]? = some (some (.own ds)) -> σ[i]? ≠ some (some (.ref q))) (hb : ∀ (i : Nat) p ds, ρ[i]? = some (some (.ob p ds)) -> p ≠ q) : Rl K F0 (jn H0 (upd B q o)) F H σ ρ := by
 have jo : ∀ b, b ≠ q -> jn H0 (upd B q o) b = jn H0 B b := fun b hb => by unfold jn; rw [y9 hb]
 refine ⟨⟨rl.ext.ff, fun b u e => ?_, rl.ext.fh, fun b e n => ?_, rl.ext.nf⟩, rl.len, rl.sh, fun i ds e => ?_, rl.inj, fun i p ds e => ?_, rl.obn, rl.ob1⟩
 ·by_cases hq : b = q
  ·subst hq; rw [t5 y6] at e; cases e; exact hH
  ·rw [jo b hq] at e; exact rl.ext.hh b u e
 ·have hq : b ≠ q := fun z => by subst z; exact n hF
  rw [jo b hq]; exact rl.ext.new b e n
 ·obtain ⟨p, xs, a1, a2, a3, a4, a5⟩ := rl.own i ds e
  exact ⟨p, xs, a1, a2, a3, a4, by rw [jo p (fun z => hn i ds e (by rw [<- z]; exact a1))]; exact a5⟩
 ·obtain ⟨a1, a2, a3, xs, a4, a5⟩ := rl.ob i p ds e
  exact ⟨a1, a2, by rw [jo p (hb i p ds e)]; exact a3, xs, a4, a5⟩
theorem K3 {a : Addr} {o : HO} (out : ∀ b, B b ≠ none -> H0 b = none /\ F0 b = none) (h : H0 a = none /\ F0 a = none) : ∀ b, upd B a o b ≠ none -> H0 b = none /\ F0 b = none := fun b hb => by
 by_cases z : b = a
 ·subst z; exact h
 ·rw [y9 z] at hb; exact out b hb
theorem W8 {a : Addr} {o : HO} (pl : ∀ b o u, B b ≠ some (.frz o u)) (h : ∀ p u, o ≠ .frz p u) : ∀ b p u, upd B a o b ≠ some (.frz p u) := fun b p u hb => by
 by_cases z : b = a
 ·subst z; rw [y6] at hb; exact h p u (Option.some.inj hb)
 ·rw [y9 z] at hb; exact pl b p u hb
theorem RlW.fld {p : Addr} {c f : Str} {ns : List Str} {fs : List Fl} {y : V} {w : Fl} {fw : List Addr} (rl : Rl K F0 (jn H0 B) F H σ ρ) (ok : BxOk K F0 H0 F B fp β) (hb : β.lookup p = some (.ins c ns fs)) (hw : FlR K F B fw [y] [w]) (nw : fw.Nodup) (dj : ∀ a ∈ fw, a ∉ fp) :
  ∃ C dx xs, W.nsIn K mainGlobals c = some (some (.ref C)) /\ H p = some (.ins C dx (ns.zip xs)) /\ RlW K F0 H0 F (upd H p (.ins C dx (putF f y (ns.zip xs)))) σ ρ (updB p (.ins c (putN f w ns fs).1 (putN f w ns fs).2) β) := by
 obtain ⟨fq, hc, nq, hin, up⟩ := ok.bx.upd ok.nd hb
 cases hc with
 | @ins fq0 _ dx C _ _ xs _ a1 a2 a3 a4 a5 =>
  have nq1 := List.nodup_cons.mp nq
  have nq2 := List.nodup_cons.mp nq1.2
  have pin : p ∈ fp := hin p (by simp)
  have din : dx ∈ fp := hin dx (by simp)
  obtain ⟨xs', fq', e1, e2, e3, e4, e5⟩ := FlR.put (f := f) hw nw a5 a2 nq2.2 fun a h1 h2 => dj a h1 (hin a (by simp [h2]))
  refine ⟨C, dx, xs, a1, rl.ext.hh _ _ (t5 a3), ?_⟩
  obtain ⟨rl', fa, ha0, hf0⟩ := rl.putB (a := p) (o := .ins C dx (putF f y (ns.zip xs))) ok.out (.inl (by rw [a3]; simp))
  have pn : p ∉ fq' := fun h => by
   rcases e5 p h with z | z
   ·exact nq1.1 (by simp [z])
   ·exact dj p z pin
  have dn : dx ∉ fq' := fun h => by
   rcases e5 dx h with z | z
   ·exact nq2.1 z
   ·exact dj dx z din
  have pd : dx ≠ p := fun z => nq1.1 (by simp [z])
  have hcell : CellR K F (upd B p (.ins C dx (putF f y (ns.zip xs)))) (p :: dx :: fq') p (.ins c (putN f w ns fs).1 (putN f w ns fs).2) :=
   .ins a1 e2 (by rw [y6, e1]) (by rw [y9 pd]; exact a4) (e3.mono (Same.refl _) fun a ha => y9 fun z => pn (z ▸ ha))
  obtain ⟨fp', r', nd', hm⟩ := up _ _ _ F (Same.refl _) hcell (List.nodup_cons.mpr ⟨fun h => by rcases List.mem_cons.mp h with z | z; exact pd z.symm; exact pn z, List.nodup_cons.mpr ⟨dn, e4⟩⟩) (fun a ha hn => y9 fun z => hn (by rw [z]; simp)) (fun a ha => by
   rcases List.mem_cons.mp ha with rfl | ha
   ·exact .inl (by simp)
   ·rcases List.mem_cons.mp ha with rfl | ha
    ·exact .inl (by simp)
    ·rcases e5 a ha with z | z
     ·exact .inl (by simp [z])
     ·exact .inr (dj a z))
  exact ⟨_, fp', rl', K3 ok.out ⟨ha0, hf0⟩, r', nd', W8 ok.plain fun _ _ z => by cases z⟩
end
section
variable {X : Cx} {value o : Expr} {pos pos' : Pos} {f : Str}
def yt3 (i : Nat) (c f : Str) (x : Ro -> Bx -> Option D) : MW := fun ρ β => (x ρ β).bind fun d => match ρ[i]? with
 | some (some (.sh (.ptr p))) => (match β.lookup p with
  | some (.ins c' ns fs) => if c' = c /\ ns.length < 1000 then some (.nx ρ, updB p (.ins c' (putN f (.v d) ns fs).1 (putN f (.v d) ns fs).2) β) else none
  | _ => none)
 | _ => none
theorem xz1 {i : Nat} {c : Str} {mv : Ro -> Bx -> Option D} (hc : ∀ C, W.nsIn X.K mainGlobals c = some (some (.ref C)) -> Cls X.K C /\ NoAttr X.K C f) (ho : PD X o (mvar i)) (hv : PDw X value mv) (hs : swapsWith value (some (.Attribute o f pos')) pos.line X.env = pure false := by rfl) :
  PSw X (.Assign [.Attribute o f pos'] value pos) (yt3 i c f mv) := PS.imp (yf9 ho hv hs) fun D σ H hpat => by
 obtain ⟨F0, H0, F, ρ, β, o', β', rw', e, k⟩ := hpat
 unfold yt3 at e
 cases h1 : mv ρ β with
 | none => rw [h1] at e; cases e
 | some d =>
  rw [h1, Option.bind_some] at e
  split at e
  ·rename_i p hp
   split at e
   ·rename_i c' ns fs hb
    split at e
    ·rename_i hz
     obtain ⟨rfl, hz⟩ := hz
     cases e
     refine ⟨F0, H0, F, ρ, β, d, rw', h1, fun v F1 H1 r1 s1 _ rp => ?_⟩
     obtain ⟨B, fp, rl, ok⟩ := r1
     refine ⟨F0, jn H0 B, F1, ρ, .ptr p, rl, by unfold mvar; rw [hp], fun x F2 H2 x2 r2 => ?_⟩
     cases r2
     obtain ⟨C, dx, xs, g1, g2, g3⟩ := RlW.fld (f := f) (rl.go x2) (ok.mono x2.ff) hb (.v (rp.mono x2.ff) .nil) nodup_nil (fun a h => by cases h)
     obtain ⟨k1, k2⟩ := hc C g1
     exact ⟨p, C, dx, _, rfl, g2, k1, k2, by rw [length_zip]; omega, k F2 _ σ g3 (s1.trans x2.ff)⟩
    ·cases e
   ·cases e
  ·cases e
def G1 (i : Nat) (c f : Str) (x : Ro -> Bx -> Option (List D)) : MW := fun ρ β => (x ρ β).bind fun ds => match ρ[i]? with
 | some (some (.sh (.ptr p))) => (match β.lookup p with
  | some (.ins c' ns fs) => if c' = c /\ ns.length < 1000 then some (.nx ρ, updB p (.ins c' (putN f (.l ds) ns fs).1 (putN f (.l ds) ns fs).2) β) else none
  | _ => none)
 | _ => none
def TFw (K : W.Frag) (m : Ro -> Bx -> Option (List D)) : TE := fun σ H Q => ∃ F0 H0 F ρ β ds, RlW K F0 H0 F H σ ρ β /\ m ρ β = some ds /\ ∀ q ys F' H' B fp, Rl K F0 (jn H0 B) F' H' σ ρ -> BxOk K F0 H0 F' B fp β -> Same F F' -> jn H0 B q = none -> H q = none -> F' q = none -> H' q = some (.lst ys) -> Reps K F' ys ds -> Q (.ref q) H'
def PFw (X : Cx) (e : Expr) (m : Ro -> Bx -> Option (List D)) : Prop := PE X e (TFw X.K m)
end
end
section
section
variable {X : Cx} {value e o : Expr} {pos pos' apos cpos : Pos} {f : Str} {st : Stmt} {rest : List Stmt}
theorem pfw {m : ML} (h : PF X e m) : PFw X e (wE m) := PE.imp h fun σ H Q ⟨F0, H0, F, ρ, β, ds, ⟨B, fp, rl, ok⟩, e, q⟩ =>
 ⟨F0, jn H0 B, F, ρ, ds, rl, e, fun p xs F' H' x hp hF hH r => q p xs F' H' B fp (rl.go x) (ok.mono x.ff) x.ff (rl.ext.hh.free hp) hp hF hH r⟩
theorem yj4 {K : W.Frag} {F0 H0 H F' H' B : Hp} {σ : St} {ρ : Ro} {q : Addr} {ys : List V} (rl : Rl K F0 (jn H0 B) F' H' σ ρ) (hs : ∀ a o, H a = some o -> a ≠ q) (own : ∀ (i : Nat) ds p, ρ[i]? = some (some (.own ds)) -> σ[i]? = some (some (.ref p)) -> ∃ o, H p = some o) (ob : ∀ (i : Nat) p ds, ρ[i]? = some (some (.ob p ds)) -> ∃ o, H p = some o) (hj : jn H0 B q = none) (hF : F' q = none) (hH : H' q = some (.lst ys)) : Rl K F0 (jn H0 (upd B q (.lst ys))) F' H' σ ρ :=
 rl.takeB hH hF hj (fun i ds e z => let ⟨o, h⟩ := own i ds q e z; hs q o h rfl) fun i p ds e z => let ⟨o, h⟩ := ob i p ds e; hs p o h z
theorem A7 {i : Nat} {c : Str} {mv : Ro -> Bx -> Option (List D)} (hc : ∀ C, W.nsIn X.K mainGlobals c = some (some (.ref C)) -> Cls X.K C /\ NoAttr X.K C f) (ho : PD X o (mvar i)) (hv : PFw X value mv) (hs : swapsWith value (some (.Attribute o f pos')) pos.line X.env = pure false := by rfl) :
  PSw X (.Assign [.Attribute o f pos'] value pos) (G1 i c f mv) := PS.imp (yf9 ho hv hs) fun D σ H hpat => by
 obtain ⟨F0, H0, F, ρ, β, o', β', rw', e, k⟩ := hpat
 unfold G1 at e
 cases h1 : mv ρ β with
 | none => rw [h1] at e; cases e
 | some ds =>
  rw [h1, Option.bind_some] at e
  split at e
  ·rename_i p hp
   split at e
   ·rename_i c' ns fs hb
    split at e
    ·rename_i hz
     obtain ⟨rfl, hz⟩ := hz
     cases e
     have rw0 := rw'
     obtain ⟨B0, fp0, rl0, ok0⟩ := rw0
     refine ⟨F0, H0, F, ρ, β, ds, rw', h1, fun q ys F1 H1 B fp rl ok s1 hj hq hF hH rp => ?_⟩
     refine ⟨F0, jn H0 B, F1, ρ, .ptr p, rl, by unfold mvar; rw [hp], fun x F2 H2 x2 r2 => ?_⟩
     cases r2
     have hown : ∀ (i : Nat) ds a, ρ[i]? = some (some (.own ds)) -> σ[i]? = some (some (.ref a)) -> ∃ o, H a = some o := fun i ds a e1 e2 => by
      obtain ⟨z, xs, a1, a2, a3, _⟩ := rl0.own i ds e1
      rw [a1] at e2; cases e2; exact ⟨_, a3⟩
     have hob : ∀ (i : Nat) a ds, ρ[i]? = some (some (.ob a ds)) -> ∃ o, H a = some o := fun i a ds e1 => by
      obtain ⟨_, _, _, xs, a4, _⟩ := rl0.ob i a ds e1
      exact ⟨_, a4⟩
     have nq : ∀ a o, H a = some o -> a ≠ q := fun a o h z => by rw [z, hq] at h; cases h
     have rl2 := rl.go x2
     have hF2 : F2 q = none := by
      cases z : F2 q with
      | none => rfl
      | some u => have := x2.new q hF (by rw [z]; simp); rw [hH] at this; cases this
     have hH2 : H2 q = some (.lst ys) := x2.hh _ _ hH
     have rl3 := yj4 (H := H) rl2 nq hown hob hj hF2 hH2
     obtain ⟨bq, h0q⟩ := d6 hj
     have ok2 := ok.mono x2.ff
     have qn : q ∉ fp := fun z => ok.bx.mem q z bq
     have f0q : F0 q = none := rl2.ext.ff.free hF2
     have ok3 : BxOk X.K F0 H0 F2 (upd B q (.lst ys)) fp β := ⟨K3 ok2.out ⟨h0q, f0q⟩, ok2.bx.mono (Same.refl _) fun a ha => y9 fun z => qn (z ▸ ha), ok2.nd, W8 ok2.plain fun _ _ z => by cases z⟩
     obtain ⟨C, dx, xs, g1, g2, g3⟩ := RlW.fld (f := f) rl3 ok3 hb (.l y6 (rp.mono x2.ff) .nil) (by simp) (fun a h => by rw [mem_singleton] at h; rw [h]; exact qn)
     obtain ⟨k1, k2⟩ := hc C g1
     exact ⟨p, C, dx, _, rfl, g2, k1, k2, by rw [length_zip]; omega, k F2 _ σ g3 (s1.trans x2.ff)⟩
    ·cases e
   ·cases e
  ·cases e
def getN (f : Str) : List Str -> List Fl -> Option Fl
 | n :: ns, g :: gs => if n = f then some g else getN f ns gs
 | _, _ => none
theorem FlR.get {K : W.Frag} {F B : Hp} {f : Str} {ds : List D} : ∀ {fq : List Addr} {ns : List Str} {xs : List V} {fs : List Fl}, FlR K F B fq xs fs -> ns.length = xs.length -> fq.Nodup -> getN f ns fs = some (.l ds) ->
  ∃ q ys, (ns.zip xs).lookup f = some (.ref q) /\ q ∈ fq /\ B q = some (.lst ys) /\ Reps K F ys ds /\ ∀ (B' F' : Hp) ys' ds', Same F F' -> B' q = some (.lst ys') -> Reps K F' ys' ds' -> (∀ a ∈ fq, a ≠ q -> B' a = B a) -> FlR K F' B' fq xs (putN f (.l ds') ns fs).2 /\ (putN f (.l ds') ns fs).1 = ns
 | _, [], _, _, .nil, _, _, e => by cases e
 | _, _ :: _, _, _, .nil, hl, _, _ => by cases hl
 | _, [], _, _, .v _ _, hl, _, _ => by cases hl
 | _, [], _, _, .l _ _ _, hl, _, _ => by cases hl
 | fq, n :: ns, x :: xs, _ :: fs, .v r rr, hl, nd, e => by
  have l' : ns.length = xs.length := by simpa using hl
  unfold getN at e
  by_cases hn : n = f
  ·rw [if_pos hn] at e; cases e
  ·rw [if_neg hn] at e
   obtain ⟨q, ys, a1, a2, a3, a4, a5⟩ := FlR.get rr l' nd e
   have hb : (f == n) = false := by
    cases z : f == n with
    | false => rfl
    | true => exact absurd (beq_iff_eq.mp z).symm hn
   refine ⟨q, ys, by rw [zip_cons_cons, lookup_cons, hb]; exact a1, a2, a3, a4, fun B' F' ys' ds' sf b1 b2 b3 => ?_⟩
   obtain ⟨c1, c2⟩ := a5 B' F' ys' ds' sf b1 b2 b3
   unfold putN
   rw [if_neg hn]
   exact ⟨.v (r.mono sf) c1, by simp [c2]⟩
 | _, n :: ns, _ :: xs, _ :: fs, .l (fp := fq) (q := q0) b r rr, hl, nd, e => by
  have l' : ns.length = xs.length := by simpa using hl
  have nd' := List.nodup_cons.mp nd
  unfold getN at e
  by_cases hn : n = f
  ·rw [if_pos hn] at e; cases e
   have hb : (f == n) = true := beq_iff_eq.mpr hn.symm
   refine ⟨q0, _, by rw [zip_cons_cons, lookup_cons, hb], by simp, b, r, fun B' F' ys' ds' sf b1 b2 b3 => ?_⟩
   unfold putN
   rw [if_pos hn]
   exact ⟨.l b1 b2 (rr.mono sf fun a ha => b3 a (by simp [ha]) fun z => nd'.1 (z ▸ ha)), rfl⟩
  ·rw [if_neg hn] at e
   obtain ⟨q, ys, a1, a2, a3, a4, a5⟩ := FlR.get rr l' nd'.2 e
   have hb : (f == n) = false := by
    cases z : f == n with
    | false => rfl
    | true => exact absurd (beq_iff_eq.mp z).symm hn
   refine ⟨q, ys, by rw [zip_cons_cons, lookup_cons, hb]; exact a1, by simp [a2], a3, a4, fun B' F' ys' ds' sf b1 b2 b3 => ?_⟩
   obtain ⟨c1, c2⟩ := a5 B' F' ys' ds' sf b1 b2 fun a ha hq => b3 a (by simp [ha]) hq
   unfold putN
   rw [if_neg hn]
   exact ⟨.l (by rw [b3 q0 (by simp) fun z => nd'.1 (z ▸ a2)]; exact b) (r.mono sf) c1, by simp [c2]⟩
def N0 (i : Nat) (c f : Str) (x : Ro -> Bx -> Option D) : MW := fun ρ β => match ρ[i]? with
 | some (some (.sh (.ptr p))) => (match β.lookup p with
  | some (.ins c' ns fs) => (match getN f ns fs with
   | some (.l ds) => if c' = c /\ ds.length < sizeLine then (x ρ β).map fun d => (.nx ρ, updB p (.ins c' ns (putN f (.l (ds ++ [d])) ns fs).2) β) else none
   | _ => none)
  | _ => none)
 | _ => none
theorem A8 {i : Nat} {c : Str} {mv : Ro -> Bx -> Option D} (hc : ∀ C, W.nsIn X.K mainGlobals c = some (some (.ref C)) -> Cls X.K C /\ NoAttr X.K C f) (ho : PD X o (mvar i)) (hv : PDw X e mv)
  (hb : attributeBase o f X.env (eval o X.env) = eval o X.env) (hE : ∀ to t, PE X (.Attribute o f pos') to -> PA X [e] t -> PE X (.Call (.Attribute (.Attribute o f pos') "append" apos) [e] [] cpos) (tBM X.K "list" K4 to t))
  (hst : starEach (e :: []) X.env = (false, eval e X.env) :: starEach [] X.env := by rfl) (hs : swapsWith (.Call (.Attribute (.Attribute o f pos') "append" apos) [e] [] cpos) none pos.line X.env = pure false := by rfl) :
  PSw X (.Expr (.Call (.Attribute (.Attribute o f pos') "append" apos) [e] [] cpos) pos) (N0 i c f mv) := PS.imp (K5 (hE _ _ (ye0 ho hb) (k6 hv pa_nil hst)) hs) fun D σ H hpat => by
 obtain ⟨F0, H0, F, ρ, β, o', β', rw', e, k⟩ := hpat
 unfold N0 at e
 split at e
 ·rename_i p hp
  split at e
  ·rename_i c' ns fs hb
   split at e
   ·rename_i ds hg
    split at e
    ·rename_i hz
     obtain ⟨rfl, hz⟩ := hz
     cases h1 : mv ρ β with
     | none => rw [h1] at e; cases e
     | some d =>
      rw [h1] at e; cases e
      have rw0 := rw'
      obtain ⟨B, fp, rl, ok⟩ := rw0
      refine ⟨F0, jn H0 B, F, ρ, .ptr p, rl, by unfold mvar; rw [hp], fun x F1 H1 x1 r1 => ?_⟩
      cases r1
      obtain ⟨fq, hc1, nq, hin, up⟩ := ok.bx.upd ok.nd hb
      cases hc1 with
      | @ins fq0 _ dx C _ _ xs _ a1 a2 a3 a4 a5 =>
       obtain ⟨k1, k2⟩ := hc C a1
       have nq1 := List.nodup_cons.mp nq
       have nq2 := List.nodup_cons.mp nq1.2
       obtain ⟨q, ys, b1, b2, b3, b4, _⟩ := FlR.get a5 a2 nq2.2 hg
       refine ⟨p, C, dx, _, .ref q, rfl, x1.hh _ _ (rl.ext.hh _ _ (t5 a3)), k1, k2, b1, ?_⟩
       refine ⟨.inl ⟨rfl, _, SqL.of (x1.hh _ _ (rl.ext.hh _ _ (t5 b3)))⟩, ?_⟩
       refine ⟨F0, H0, F1, ρ, β, d, ⟨B, fp, rl.go x1, ok.mono x1.ff⟩, h1, fun v F2 H2 r2 s2 h2 rp => ?_⟩
       obtain ⟨B2, fp2, rl2, ok2⟩ := r2
       obtain ⟨fq', hc2, nq', hin', up'⟩ := ok2.bx.upd ok2.nd hb
       cases hc2 with
       | @ins fq1 _ dx' C' _ _ xs' _ c1 c2 c3 c4 c5 =>
        have e1 : H2 p = some (.ins C dx (ns.zip xs)) := h2 _ _ (x1.hh _ _ (rl.ext.hh _ _ (t5 a3)))
        rw [rl2.ext.hh _ _ (t5 c3)] at e1
        injection e1 with e1
        injection e1 with z1 z2 z3
        have z4 : xs' = xs := by
         have := congrArg (List.map Prod.snd) z3
         rwa [map_snd_zip (by omega), map_snd_zip (by omega)] at this
        subst z4
        have mq1 := List.nodup_cons.mp nq'
        have mq2 := List.nodup_cons.mp mq1.2
        obtain ⟨q', ys', d1, d2, d3, d4, d5⟩ := FlR.get c5 c2 mq2.2 hg
        rw [d1] at b1
        cases b1
        have hq : H2 q = some (.lst ys') := rl2.ext.hh _ _ (t5 d3)
        refine ⟨q, ys', v, rfl, rfl, hq, by rw [d4.length]; exact hz, ?_⟩
        obtain ⟨rl3, fa, ha0, hf0⟩ := rl2.putB (a := q) (o := .lst (ys' ++ [v])) ok2.out (.inl (by rw [d3]; simp))
        have qp : p ≠ q := fun z => mq1.1 (by rw [z]; simp [d2])
        have qd : dx' ≠ q := fun z => mq2.1 (z ▸ d2)
        obtain ⟨g1, g2⟩ := d5 (upd B2 q (.lst (ys' ++ [v]))) F2 (ys' ++ [v]) (ds ++ [d]) (Same.refl _) y6 (d4.append (.cons rp .nil)) fun a ha hn => y9 hn
        have hcell : CellR X.K F2 (upd B2 q (.lst (ys' ++ [v]))) (p :: dx' :: fq1) p (.ins c' ns (putN f (.l (ds ++ [d])) ns fs).2) := .ins c1 c2 (by rw [y9 qp]; exact c3) (by rw [y9 qd]; exact c4) g1
        obtain ⟨fp3, r3, nd3, hm3⟩ := up' _ _ _ F2 (Same.refl _) hcell nq' (fun a ha hn => y9 fun z => hn (by rw [z]; simp [d2])) fun a ha => .inl ha
        exact k F2 _ σ ⟨_, fp3, rl3, K3 ok2.out ⟨ha0, hf0⟩, r3, nd3, W8 ok2.plain fun _ _ z => by cases z⟩ (x1.ff.trans s2)
    ·cases e
   ·cases e
  ·cases e
 ·cases e
end
end
section
theorem Rl.forget {K : W.Frag} {F0 H0 F H : Hp} {σ : St} {ρ : Ro} (r : Rl K F0 H0 F H σ ρ) (i : Nat) : Rl K F0 H0 F H σ (ρ.set i none) := by
 have back : ∀ (j : Nat) x, (ρ.set i none)[j]? = some (some x) -> ρ[j]? = some (some x) := fun j x e => by
  by_cases hj : i = j
  ·subst hj
   rcases Nat.lt_or_ge i ρ.length with z | z
   ·rw [getElem?_set_self z] at e; cases e
   ·rw [getElem?_eq_none (by simpa using z)] at e; cases e
  ·rw [getElem?_set_ne hj] at e; exact e
 exact ⟨r.ext, by simp [r.len], fun j d e => r.sh j d (back j _ e), fun j ds e => r.own j ds (back j _ e), fun j k p ds es hjk e1 e2 => r.inj j k p ds es hjk (back j _ e1) (back k _ e2), fun j p ds e => r.ob j p ds (back j _ e), fun j k p ds es e1 e2 => r.obn j k p ds es (back j _ e1) (back k _ e2), fun j k p q ds es e1 e2 => r.ob1 j k p q ds es (back j _ e1) (back k _ e2)⟩
open Classical in
noncomputable def anyN {α : Type} (β : Bx) (f : Addr -> Option α) : Option α := if h : ∃ r, ∀ x, x ∉ β.map Prod.fst -> f x = some r then some (Classical.choose h) else none
theorem yo2 {α : Type} {β : Bx} {f : Addr -> Option α} {r : α} (h : anyN β f = some r) : ∀ x, x ∉ β.map Prod.fst -> f x = some r := by
 unfold anyN at h
 split at h
 ·rename_i hx
  cases h
  exact Classical.choose_spec hx
 ·cases h
theorem zb4 (l : List Addr) : ∃ x, x ∉ l := by
 have aux : ∀ l : List Addr, ∃ b, ∀ a ∈ l, a < b := by
  intro l
  induction l with
  | nil => exact ⟨0, fun a h => by cases h⟩
  | cons a l ih =>
   obtain ⟨b, hb⟩ := ih
   refine ⟨max b (a + 1), fun c hc => ?_⟩
   rcases List.mem_cons.mp hc with rfl | hc
   ·have := Nat.le_max_right b (c + 1); exact Nat.lt_of_lt_of_le (Nat.lt_succ_self c) this
   ·exact Nat.lt_of_lt_of_le (hb c hc) (Nat.le_max_left _ _)
 obtain ⟨b, hb⟩ := aux l
 exact ⟨b, fun h => Nat.lt_irrefl _ (hb b h)⟩
theorem xr5 {α : Type} {β : Bx} {f : Addr -> Option α} {r : α} (h : ∀ x, x ∉ β.map Prod.fst -> f x = some r) : anyN β f = some r := by
 unfold anyN
 have hx : ∃ r, ∀ x, x ∉ β.map Prod.fst -> f x = some r := ⟨r, h⟩
 rw [dif_pos hx]
 obtain ⟨x, hn⟩ := zb4 (β.map Prod.fst)
 have := Classical.choose_spec hx x hn
 rw [h x hn] at this
 exact this.symm
def letGo (i : Nat) (k : Nat) : Out × Bx -> Out × Bx
 | (.nx ρ, β) => (.nx (ρ.set i none), β.drop (β.length - k))
 | (.bk ρ, β) => (.bk (ρ.set i none), β.drop (β.length - k))
 | (.ct ρ, β) => (.ct (ρ.set i none), β.drop (β.length - k))
 | (o, β) => (o, β.drop (β.length - k))
theorem okW.letGo {K : W.Frag} {F0 H0 Fb : Hp} {Dn : Ends} {i k : Nat} : ∀ {o : Out} {β : Bx}, okW K F0 H0 Fb Dn (letGo i k (o, β)).1 (letGo i k (o, β)).2 -> okW K F0 H0 Fb Dn o β
 | .nx ρ, β, h => fun F H σ ⟨B, fp, rl, ok⟩ s => let ⟨fq, ok'⟩ := ok.drop (β.length - k); h F H σ ⟨B, fq, rl.forget i, ok'⟩ s
 | .bk ρ, β, h => fun F H σ ⟨B, fp, rl, ok⟩ s => let ⟨fq, ok'⟩ := ok.drop (β.length - k); h F H σ ⟨B, fq, rl.forget i, ok'⟩ s
 | .ct ρ, β, h => fun F H σ ⟨B, fp, rl, ok⟩ s => let ⟨fq, ok'⟩ := ok.drop (β.length - k); h F H σ ⟨B, fq, rl.forget i, ok'⟩ s
 | .rt d, β, h => fun v F H B fp x ok r => let ⟨fq, ok'⟩ := ok.drop (β.length - k); h v F H B fq x ok' r
 | .rf ds, β, h => fun p xs F H B fp x ok a b c r => let ⟨fq, ok'⟩ := ok.drop (β.length - k); h p xs F H B fq x ok' a b c r
 | .rg d p r, β, h => fun v F H xs B fp x ok a j b c e => let ⟨fq, ok'⟩ := ok.drop (β.length - k); h v F H xs B fq x ok' a j b c e
 | .rp _ _, _, h => h
 | .rgf _ _ _, _, h => h
noncomputable def zc0 (i : Nat) (c : Str) (f : MFW) (m : ML) (rest : MW) : MW := fun ρ β => (m ρ).bind fun ds => anyN β fun x => match f (.ptr x :: ds) ((x, .ins c [] []) :: β) with
 | some (.sh .non, β') => (rest (ρ.set i (some (.sh (.ptr x)))) β').map (letGo i β.length)
 | _ => none
section
variable {X : Cx} {e : Expr} {es : List Expr} {st : Stmt} {rest : List Stmt} {E : XK} {mf : MFW} {m : ML}
theorem BxR.keys {K : W.Frag} {F B : Hp} : ∀ {fp : List Addr} {β : Bx}, BxR K F B fp β -> ∀ p ∈ β.map Prod.fst, B p ≠ none
 | _, _, .nil, p, h => by cases h
 | _, _, .cons (p := q) c r, p, h => by
  rw [map_cons] at h
  rcases List.mem_cons.mp h with z | z
  ·subst z
   cases c with
   | ins _ _ b _ _ => rw [b]; simp
   | row b _ => rw [b]; simp
  ·exact r.keys p z
theorem ym5 {n i : Nat} {c : Str} {C : Addr} {mr : MW} (hC : W.nsIn X.K mainGlobals c = some (some (.ref C))) (hE : ∀ t, PA X es t -> PE X e (yc5 C (spW X.K n mf) [] E t)) (hS : ∀ te, PE X e te -> PS X st (tAsg te (M1 i))) (hl : es.length + 1 = n) (ha : PAs X es m) (hm : ∀ ρ ds, m ρ = some ds -> ds.length = es.length) (hr : PSsw X rest mr) :
  PSsw X (st :: rest) (zc0 i c mf m mr) := PSs.imp (M8 (hS _ (hE _ ha)) hr) fun Dn σ H ⟨F0, H0, F, ρ, β, o, β', ⟨B, fp, rl, ok⟩, e, k⟩ => by
 unfold zc0 at e
 cases h1 : m ρ with
 | none => rw [h1] at e; cases e
 | some ds =>
  rw [h1, Option.bind_some] at e
  refine ⟨F0, jn H0 B, F, ρ, ds, rl, h1, fun vs F1 H1 x1 r1 => ?_⟩
  intro x dx hx hdx hne
  have rl1 := rl.go x1
  have ok1 := ok.mono x1.ff
  have bh : ∀ a, B a ≠ none -> H1 a ≠ none := fun a h => by
   cases q : B a with
   | none => exact absurd q h
   | some u => rw [rl1.ext.hh a u (t5 q)]; simp
  have bx : B x = none := by
   cases q : B x with
   | none => rfl
   | some u => exact absurd hx (bh x (by rw [q]; simp))
  have bdx : B dx = none := by
   cases q : B dx with
   | none => rfl
   | some u => exact absurd hdx (bh dx (by rw [q]; simp))
  have e := yo2 e x fun z => ok.bx.keys x z bx
  have hx' : (upd H1 dx (.own x)) x = none := by rw [y9 (Ne.symm hne)]; exact hx
  obtain ⟨rl2, fa, ha0, hf0⟩ := rl1.putB (a := dx) (o := .own x) ok1.out (.inr hdx)
  have out2 := K3 (o := HO.own x) ok1.out ⟨ha0, hf0⟩
  obtain ⟨rl3, fb, hb0, hg0⟩ := rl2.putB (a := x) (o := .ins C dx []) out2 (.inr hx')
  have out3 := K3 (o := HO.ins C dx []) out2 ⟨hb0, hg0⟩
  have nx : x ∉ fp := fun z => ok.bx.mem x z bx
  have ndx : dx ∉ fp := fun z => ok.bx.mem dx z bdx
  have cell : CellR X.K F1 (upd (upd B dx (.own x)) x (.ins C dx [])) [x, dx] x (.ins c [] []) := .ins (xs := []) hC rfl (by rw [y6]; rfl) (by rw [y9 hne, y6]) .nil
  have ok3 : BxOk X.K F0 H0 F1 (upd (upd B dx (.own x)) x (.ins C dx [])) ([x, dx] ++ fp) ((x, .ins c [] []) :: β) :=
   ⟨out3, .cons cell (ok1.bx.mono (Same.refl _) fun a ha => by
    have q1 : a ≠ x := fun z => by subst z; exact nx ha
    have q2 : a ≠ dx := fun z => by subst z; exact ndx ha
    rw [y9 q1, y9 q2]), List.nodup_append.mpr ⟨by simp [Ne.symm hne], ok1.nd, fun a h1 b h2 z => by
    subst z
    rcases List.mem_cons.mp h1 with y | y
    ·exact nx (y ▸ h2)
    ·rw [mem_singleton] at y; exact ndx (y ▸ h2)⟩, W8 (W8 ok1.plain fun _ _ z => by cases z) fun _ _ z => by cases z⟩
  split at e
  ·rename_i β1 h2
   show spW X.K n mf (.ref x :: (vs ++ [])) _ _ E
   rw [append_nil]
   refine zq8 rl3 ok3 (by rw [length_cons, r1.length, hm ρ ds h1, hl]) (.cons (.ptr x) r1) (d := .non) (β' := β1) (by rw [h2]; rfl) fun v F' H' rw' sf rp => ?_
   cases rp
   refine ⟨rfl, ?_⟩
   obtain ⟨B', fp', rl', ok'⟩ := rw'
   show TSw X.K mr Dn (σ.set i (some (.ref x))) H'
   cases h3 : mr (ρ.set i (some (.sh (.ptr x)))) β1 with
   | none => rw [h3] at e; cases e
   | some ob =>
    obtain ⟨o1, β2⟩ := ob
    rw [h3] at e
    have e : some (letGo i β.length (o1, β2)) = some (o, β') := e
    have e := Option.some.inj e
    refine ⟨F0, H0, F', _, β1, o1, β2, ⟨B', fp', rl'.set (.ptr x), ok'⟩, h3, okW.letGo (i := i) (k := β.length) ?_⟩
    rw [e]
    exact k.mono (x1.ff.trans sf)
  ·cases e
end
end
section
section
variable {X : Cx} {a b c e o : Expr} {pos : Pos} {st : Stmt} {rest : List Stmt} {E : XK} {es : List Expr} {mf : MFW}
def zn8 (c : MBm) (x y : MW) : MW := fun ρ β => match c ρ with | some (true, ρ1) => x ρ1 β | some (false, ρ1) => y ρ1 β | none => none
theorem ya9 {ca : MBm} {x y : List Stmt} {mx my : MW} (hc : PT X c (TCm X.K ca)) (hx : PSsw X x mx) (hy : PSsw X y my) : PSw X (.If c x y pos) (zn8 ca mx my) := PS.imp (yk0 hc hx hy) fun D σ H ⟨F0, H0, F, ρ, β, o, β', ⟨B, fp, rl, k⟩, e, ok⟩ => by
 unfold zn8 at e
 split at e
 ·rename_i ρ1 h1
  exact ⟨F0, jn H0 B, F, ρ, true, ρ1, rl, h1, fun F1 H1 r1 x1 => iteT ⟨F0, H0, F1, ρ1, β, o, β', ⟨B, fp, r1, k.mono x1⟩, e, ok.mono x1⟩⟩
 ·rename_i ρ1 h1
  exact ⟨F0, jn H0 B, F, ρ, false, ρ1, rl, h1, fun F1 H1 r1 x1 => iteF ⟨F0, H0, F1, ρ1, β, o, β', ⟨B, fp, r1, k.mono x1⟩, e, ok.mono x1⟩⟩
 ·cases e
end
end
section
theorem TD.mono {K : W.Frag} {m : ME} {σ : St} {H : Hp} {Q Q' : VK} (h : TD K m σ H Q) (i : ∀ v H', Q v H' -> Q' v H') : TD K m σ H Q' := let ⟨F0, H0, F, ρ, d, rl, e, q⟩ := h; ⟨F0, H0, F, ρ, d, rl, e, fun v F' H' x r => i _ _ (q v F' H' x r)⟩
theorem yc3 {K : W.Frag} {σ : St} {H : Hp} {Q : List V -> Hp -> Prop} (h : TAs K anil σ H Q) : tNil σ H Q := by
 obtain ⟨F0, H0, F, ρ, ds, rl, e, q⟩ := h
 cases e
 exact q [] F H (.refl rl.fh) .nil
section
variable {X : Cx} {e o : Expr} {E : XK}
theorem xp7 {C : Addr} {mn : Str} {sp : Sp} {mo : ME} {σ : St} {H : Hp} {Q : VK} (h : D0 C mn sp [] E (TD X.K mo) (TAs X.K anil) σ H Q) : D0 C mn sp [] E (TD X.K mo) tNil σ H Q :=
 TD.mono h fun v H' ⟨a, dx, fs, e1, e2, e3, t⟩ => ⟨a, dx, fs, e1, e2, e3, yc3 t⟩
theorem xb3 {C : Addr} {mn : Str} {sp : Sp} {mo : ME} (h : PE X e (D0 C mn sp [] E (TD X.K mo) tNil)) : PE X e (D0 C mn sp [] E (TD X.K mo) (TAs X.K anil)) := PE.imp h fun _ _ _ q => xp7 q
theorem V1 {c mn : Str} {C : Addr} {mo : ME} {mf : MF} (hC : W.nsIn X.K mainGlobals c = some (some (.ref C))) (ho : PD X o mo) (h : ∀ ta, PE X o ta -> PE X e (D0 C mn (spR X.K 1 mf) [] E ta tNil)) : PD X e (Z9 c mn mf mo anil) := by
 have h' := xb3 (h _ ho)
 refine PE.imp h' fun σ H Q q => ?_
 obtain ⟨F0, H0, F, ρ, d, rl, e, q⟩ := q
 unfold Z9 at e
 split at e
 ·rename_i c' ns ds0 h0
  split at e
  ·rename_i hz
   obtain ⟨rfl, hz⟩ := hz
   have e : (match mf [.obj c' ns ds0] with | some (.sh d) => some d | some (.fr es) => some (.lst es) | some (.pr d es) => some (.tup [d, .lst es]) | none => none) = some d := e
   refine ⟨F0, H0, F, ρ, _, rl, h0, fun v F1 H1 x1 r1 => ?_⟩
   cases r1 with
   | obj a1 a2 a3 a4 a5 =>
    have a1' := a1
    rw [hC] at a1
    cases a1
    refine ⟨_, _, _, rfl, x1.fh _ _ a3, V5 hz _, F0, H0, F1, ρ, [], rl.go x1, rfl, fun vs F2 H2 x2 r2 => ?_⟩
    cases r2
    have ro := (Rep.obj a1' a2 a3 a4 a5).mono x2.ff
    refine ⟨rfl, F2, [D.obj c' ns ds0], ?_⟩
    have x12 := x1.trans x2
    split at e
    ·rename_i d' h2
     cases e
     exact ⟨_, x2.fh, .cons ro .nil, h2, fun v F3 H3 x3 r3 => q v F3 H3 (x12.trans x3) r3⟩
    ·rename_i es' h2
     cases e
     exact ⟨_, x2.fh, .cons ro .nil, h2, fun p xs F3 H3 x3 hp hF hH r3 => q _ (upd F3 p (.lst xs)) H3 (x12.trans (x3.freeze hF hp hH)) (.lst (SqL.of y6) (r3.mono ((Same.refl F3).put hF)))⟩
    ·rename_i d' es' h2
     cases e
     refine ⟨_, x2.fh, .cons ro .nil, h2, fun t v p xs F3 H3 x3 ht hp hne hFt hFp hHt hHp rv rs => ?_⟩
     have y3 := x3.freeze hFp hp hHp
     have hFt' : upd F3 p (.lst xs) t = none := by rw [y9 hne]; exact hFt
     have s2 : Same F3 (upd F3 p (.lst xs)) := (Same.refl F3).put hFp
     have s3 : Same (upd F3 p (.lst xs)) (upd (upd F3 p (.lst xs)) t (.tup [v, .ref p])) := (Same.refl _).put hFt'
     exact q _ (upd (upd F3 p (.lst xs)) t (.tup [v, .ref p])) H3 (x12.trans (y3.freeze hFt' ht hHt)) (.tup (SqT.of y6) (.cons (rv.mono (s2.trans s3)) (.cons (.lst (SqL.of (by rw [y9 (Ne.symm hne)]; exact y6)) (rs.mono (s2.trans s3))) .nil)))
    ·cases e
  ·cases e
 ·cases e
end
end
section
section
variable {X : Cx} {e : Expr} {pos : Pos}
end
end
section
section
variable {K : W.Frag} {F0 H0 F H B : Hp} {σ : St} {ρ : Ro} {β : Bx} {fp : List Addr}
end
abbrev MGW := Addr -> List D -> List D -> Bx -> Option (D × List D × Bx)
section
variable {X : Cx} {e : Expr} {pos : Pos} {st : Stmt} {es : List Expr} {E : XK} {mf : MGW} {m : ML}
end
end
section
end
section
def qfnD (K : W.Frag) (nm ql : Str) (st : Stmt) (x : Addr) : Prop := ∃ (oc : Value) (o1 : Option Addr) (kV dc pm : Value) (o2 : Option Addr) (cd ct : Value) (sl : Array (Option Value)), K.lookup x = some ⟨oc, o1, .func (W.fnOf nm ql (X6 st) (i7 st) (y0 st) .none kV dc pm o2 cd ct), sl⟩ /\ W.codeIn K cd ql = true /\ W.keepIn K (.ref x) = true
def QDn (K : W.Frag) (nm : Str) (st : Stmt) : Prop := ∃ x : Addr, W.nsIn K mainGlobals nm = some (some (.ref x)) /\ qfnD K nm nm st x
def QMn (K : W.Frag) (C : Addr) (nm ql : Str) (st : Stmt) : Prop := ∃ x : Addr, W.findIn K (.ref C) nm = some (some (.ref x)) /\ W.isFn K (.ref x) = true /\ qfnD K nm ql st x
theorem QDn.of {K : W.Frag} {nm : Str} {st : Stmt} {x : Addr} {oc : Value} {o1 : Option Addr} {kV dc pm : Value} {o2 : Option Addr} {cd ct : Value} {sl : Array (Option Value)} (e : W.nsIn K mainGlobals nm = some (some (.ref x))) (l : K.lookup x = some ⟨oc, o1, .func (W.fnOf nm nm (X6 st) (i7 st) (y0 st) .none kV dc pm o2 cd ct), sl⟩) (c : W.codeIn K cd nm = true) (k : W.keepIn K (.ref x) = true) : QDn K nm st := ⟨x, e, oc, o1, kV, dc, pm, o2, cd, ct, sl, l, c, k⟩
theorem QMn.of {K : W.Frag} {C : Addr} {nm ql : Str} {st : Stmt} {x : Addr} {oc : Value} {o1 : Option Addr} {kV dc pm : Value} {o2 : Option Addr} {cd ct : Value} {sl : Array (Option Value)} (e : W.findIn K (.ref C) nm = some (some (.ref x))) (i : W.isFn K (.ref x) = true) (l : K.lookup x = some ⟨oc, o1, .func (W.fnOf nm ql (X6 st) (i7 st) (y0 st) .none kV dc pm o2 cd ct), sl⟩) (c : W.codeIn K cd ql = true) (k : W.keepIn K (.ref x) = true) : QMn K C nm ql st := ⟨x, e, i, oc, o1, kV, dc, pm, o2, cd, ct, sl, l, c, k⟩
abbrev QBdD (nm ql : Str) (st : Stmt) (ps : List Str) (us : List Value) : Prop := ∀ (kV doc pm : Value) (an : Option Addr) (cdv ct : Value), bindArgs (W.fnOf nm ql (X6 st) (i7 st) (y0 st) .none kV doc pm an cdv ct) ⟨us, []⟩ = pure (ps.zip us)
section
variable {P : Program} {w : World} {K : W.Frag} {mg : Str -> Option Value} {base h : Heap} {nm ql cn : Str} {st : Stmt} {ps : List Str} {sp : Sp} {n : Nat} {C : Addr}
def QDf (K : W.Frag) (mg : Str -> Option Value) (nm : Str) (st : Stmt) (ps : List Str) : Prop := ∃ f fd, Fun K nm nm st f fd /\ Binds K fd ps [] /\ mg nm = some (.ref f)
def QHd (P : Program) (w : World) (K : W.Frag) (mg : Str -> Option Value) (base : Heap) (n : Nat) (nm : Str) (ps : List Str) (sp : Sp) : Prop := ∃ f fd, FnOk P w K mg base CX0 n f fd ps sp /\ Binds K fd ps [] /\ W.keepIn K (.ref f) = true /\ mg nm = some (.ref f)
def QMf (K : W.Frag) (C : Addr) (nm ql : Str) (st : Stmt) (ps : List Str) : Prop := ∃ f fd, Fun K nm ql st f fd /\ Binds K fd ps [] /\ Meth K C nm f
def QHm (P : Program) (w : World) (K : W.Frag) (mg : Str -> Option Value) (base : Heap) (n : Nat) (C : Addr) (nm : Str) (ps : List Str) (sp : Sp) : Prop := ∃ f fd, FnOk P w K mg base CX0 n f fd ps sp /\ Binds K fd ps [] /\ Meth K C nm f
def QHi (P : Program) (w : World) (K : W.Frag) (mg : Str -> Option Value) (base : Heap) (n : Nat) (C : Addr) (cn : Str) (ps : List Str) (sp : Sp) : Prop := ∃ f fd, FnOk P w K mg base CX0 n f fd ps sp /\ Binds K fd ps [] /\ Mk K C f /\ mg cn = some (.ref C)
theorem qfnD.mk {x : Addr} (D : qfnD K nm ql st x) (hb : ∀ us : List Value, us.length = ps.length -> QBdD nm ql st ps us) : ∃ fd, Fun K nm ql st x fd /\ Binds K fd ps [] := by
 obtain ⟨oc, o1, kV, dc, pm, o2, cd, ct, sl, l, c, k⟩ := D
 exact ⟨_, yr9 l c k, (yr9 l c k).binds fun _ _ _ _ _ _ us hl => hb us hl _ _ _ _ _ _⟩
theorem QDn.df (D : QDn K nm st) (X : K.In h) (G : h.Ns mainGlobals mg) (hb : ∀ us : List Value, us.length = ps.length -> QBdD nm nm st ps us) : QDf K mg nm st ps := by
 obtain ⟨x, e, D⟩ := D
 obtain ⟨fd, F, b⟩ := D.mk hb
 exact ⟨x, fd, F, b, W.mg_of X G e⟩
theorem QMn.mf (D : QMn K C nm ql st) (hb : ∀ us : List Value, us.length = ps.length -> QBdD nm ql st ps us) : QMf K C nm ql st ps := by
 obtain ⟨x, e, i, D⟩ := D
 obtain ⟨fd, F, b⟩ := D.mk hb
 exact ⟨x, fd, F, b, e, i, F.kp⟩
theorem QDf.mk (D : QDf K mg nm st ps) (h : ∀ f fd, Fun K nm nm st f fd -> FnOk P w K mg base CX0 n f fd ps sp) : QHd P w K mg base n nm ps sp := by
 obtain ⟨f, fd, F, b, a⟩ := D
 exact ⟨f, fd, h f fd F, b, F.kp, a⟩
theorem QMf.mk (D : QMf K C nm ql st ps) (h : ∀ f fd, Fun K nm ql st f fd -> FnOk P w K mg base CX0 n f fd ps sp) : QHm P w K mg base n C nm ps sp := by
 obtain ⟨f, fd, F, b, m⟩ := D
 exact ⟨f, fd, h f fd F, b, m⟩
theorem QHm.hi (H : QHm P w K mg base n C "__init__" ps sp) (m1 : W.makesIn K C = true) (m2 : W.keepIn K (.ref C) = true) (a : mg cn = some (.ref C)) : QHi P w K mg base n C cn ps sp := by
 obtain ⟨f, fd, F, b, m⟩ := H
 exact ⟨f, fd, F, b, ⟨m1, m.at_, m.fn, m2⟩, a⟩
theorem qbd1 {P : List Value -> Prop} (h : ∀ a, P [a]) : ∀ us : List Value, us.length = 1 -> P us
 | [a], _ => h a
theorem qbd2 {P : List Value -> Prop} (h : ∀ a b, P [a, b]) : ∀ us : List Value, us.length = 2 -> P us
 | [a, b], _ => h a b
theorem qbd3 {P : List Value -> Prop} (h : ∀ a b c, P [a, b, c]) : ∀ us : List Value, us.length = 3 -> P us
 | [a, b, c], _ => h a b c
theorem qbd4 {P : List Value -> Prop} (h : ∀ a b c d, P [a, b, c, d]) : ∀ us : List Value, us.length = 4 -> P us
 | [a, b, c, d], _ => h a b c d
end
section
variable {X : Cx} {n k : Nat} {nm cn : Str} {ps : List Str} {sp : Sp} {e o : Expr} {es : List Expr} {ta : TE} {t : TA} {p pos apos : Pos} {C : Addr} {pl : Sem Bool}
theorem qcl (H : QHd X.prog X.w X.K X.mg X.base n nm ps sp) (hr : Room k X.A) (ha : PA X (e :: es) t) (hn : n <= k := by decide) (hg : Gl X nm := by rfl) (hdb : (nm == ("__debug__" : Str)) = false := by decide) (he : starEach (e :: es) X.env = (false, eval e X.env) :: starEach es X.env := by rfl) (hpl : (backTo pos (starEach es X.env)).any (·.1) = false := by rfl) :
  PE X (.Call (.Name nm p) (e :: es) [] pos) (yz7 sp [] E0 t) := by
 obtain ⟨f, fd, F, b, kk, a⟩ := H
 exact xy8 (F.mono hn) hr hg a kk b .nil yj0 ha hdb he hpl
theorem qmt (H : QHm X.prog X.w X.K X.mg X.base n C nm ps sp) (c : Cls X.K C) (hr : Room k X.A) (ho : PE X o ta) (ha : PA X (e :: es) t) (hn : n <= k := by decide)
  (hst : starEach (e :: es) X.env = (false, eval e X.env) :: starEach es X.env := by rfl) (hpl : (backTo pos (starEach es X.env)).any (·.1) = false := by rfl)
  (ht : eval (.Call (.Attribute o nm apos) (e :: es) [] pos) X.env = (do
   let ov ← eval o X.env
   standAt apos.atName
   let (f, first) ← holding [ov] (getMethod ov nm pl)
   callWith pos f first (backTo pos (starEach (e :: es) X.env)) (backToKw pos (keywordEach [] X.env))) := by rfl) :
  PE X (.Call (.Attribute o nm apos) (e :: es) [] pos) (D0 C nm sp [] E0 ta t) := by
 obtain ⟨f, fd, F, b, m⟩ := H
 exact xy4 ho c m (F.mono hn) hr b .nil yj0 ha hst hpl ht
theorem qmt0 (H : QHm X.prog X.w X.K X.mg X.base n C nm ps sp) (c : Cls X.K C) (hr : Room k X.A) (ho : PE X o ta) (hn : n <= k := by decide)
  (ht : eval (.Call (.Attribute o nm apos) [] [] pos) X.env = (do
   let ov ← eval o X.env
   standAt apos.atName
   let (f, first) ← holding [ov] (getMethod ov nm pl)
   callWith pos f first (backTo pos (starEach [] X.env)) (backToKw pos (keywordEach [] X.env))) := by rfl) :
  PE X (.Call (.Attribute o nm apos) [] [] pos) (D0 C nm sp [] E0 ta tNil) := by
 obtain ⟨f, fd, F, b, m⟩ := H
 exact yk4 ho c m (F.mono hn) hr b .nil yj0 ht
theorem qmkO (H : QHi X.prog X.w X.K X.mg X.base n C cn ps sp) (hr : Room (k + 1) X.A) (ha : PA X (e :: es) t) (hn : n <= k := by decide) (hg : Gl X cn := by rfl) (hdb : (cn == ("__debug__" : Str)) = false := by decide) (he : starEach (e :: es) X.env = (false, eval e X.env) :: starEach es X.env := by rfl) (hpl : (backTo pos (starEach es X.env)).any (·.1) = false := by rfl) :
  PE X (.Call (.Name cn p) (e :: es) [] pos) (yc5 C sp [] E0 t) := by
 obtain ⟨f, fd, F, b, M, a⟩ := H
 exact xy5 M (F.mono hn) hr hg a b .nil yj0 ha hdb he hpl
end
theorem qap {X : Cx} {o e : Expr} {es : List Expr} {to : TE} {t : TA} {apos cpos : Pos} (ho : PE X o to) (ha : PA X (e :: es) t)
  (hbase : attributeBase o "append" X.env (eval o X.env) = eval o X.env := by rfl)
  (hfew : ((backTo cpos (starEach (e :: es) X.env)).all (fun x => !x.1) && (backToKw cpos (keywordEach [] X.env)).all (fun x => x.1.isSome)
   && decide ((e :: es).length + ([] : List Keyword).length + (if ([] : List Keyword).isEmpty then 0 else 1) < 30)) = true := by rfl)
  (hline : (apos.endLine == cpos.line) = true := by rfl) (hs : starEach (e :: es) X.env = (false, eval e X.env) :: starEach es X.env := by rfl) (hplain : (backTo cpos (starEach es X.env)).any (·.1) = false := by rfl) :
  PE X (.Call (.Attribute o "append" apos) (e :: es) [] cpos) (tBM X.K "list" K4 to t) := xd9 PySem.F.plainAttrs_list PySem.F.slot_list_append PySem.F.type_list_append zt7 ho ha hbase hfew hline hs hplain
section
variable {a b c d e f : ME} (ρ : Ro) (ds : List D)
theorem qal1 : z8 a anil ρ = some ds -> ds.length = 0 + 1 := P1 ze8 ρ ds
theorem qal2 : z8 a (z8 b anil) ρ = some ds -> ds.length = 0 + 1 + 1 := P1 qal1 ρ ds
theorem qal3 : z8 a (z8 b (z8 c anil)) ρ = some ds -> ds.length = 0 + 1 + 1 + 1 := P1 qal2 ρ ds
theorem qal4 : z8 a (z8 b (z8 c (z8 d anil))) ρ = some ds -> ds.length = 0 + 1 + 1 + 1 + 1 := P1 qal3 ρ ds
end
theorem qsc {N P : List Str} {sc : Scope} (a : sc.kind = .function := by rfl) (b : sc.isCoroutine = false := by rfl) (c : sc.isGenerator = false := by rfl) (d : N.Nodup := by decide +kernel) (e : N.take P.length = P := by rfl) (f : ∀ x ∈ P, sc.names.lookup x = some .local \/ sc.names.lookup x = some .cell := by decide +kernel) (g : ∀ y ∈ sc.names, y.2 ≠ .free := by decide +kernel) : FnScope N P sc := ⟨a, b, c, d, e, f, g⟩
abbrev QHF (K : W.Frag) (c f : Str) : Prop := ∀ C, W.nsIn K mainGlobals c = some (some (.ref C)) -> Cls K C /\ NoAttr K C f
end
section
section
variable {X : Cx} {a b c e : Expr} {pos : Pos} {st : Stmt}
@[irreducible] def zj2 (x y : MBm) : MBm := fun ρ => match x ρ with | some (true, ρ1) => y ρ1 | some (false, ρ1) => some (false, ρ1) | none => none
theorem ym3 {ca : MBm} (h : PT X a (TCm X.K ca)) : PW X (.BoolOp .And [a] pos) (TCm X.K ca) := yx2 h
theorem ya6 {ca cb : MBm} {rest : List Expr} (ha : PT X a (TCm X.K ca)) (hb : PW X (.BoolOp .And (b :: rest) pos) (TCm X.K cb)) : PW X (.BoolOp .And (a :: b :: rest) pos) (TCm X.K (zj2 ca cb)) := (yf7 ha hb).imp fun σ H Q hpat => by
 obtain ⟨F0, H0, F, ρ, g, ρ', rl, e, q⟩ := hpat
 unfold zj2 at e
 split at e
 ·rename_i ρ1 h1
  exact ⟨F0, H0, F, ρ, _, ρ1, rl, h1, fun F1 H1 rl1 s1 => iteT ⟨F0, H0, F1, ρ1, g, ρ', rl1, e, fun F2 H2 rl2 s2 => q F2 H2 rl2 (s1.trans s2)⟩⟩
 ·rename_i ρ1 h1
  cases e
  exact ⟨F0, H0, F, ρ, _, _, rl, h1, fun F1 H1 rl1 s1 => iteF (q F1 H1 rl1 s1)⟩
 ·cases e
theorem xc0 {ca : MBm} (h : PW X a (TCm X.K ca)) : PT X a (TCm X.K ca) := h.pt
@[irreducible] def cpu (x : MB) : MBm := fun ρ => match x ρ with | some b => some (b, ρ) | none => none
theorem yk9 {ca : MB} (h : PC' X a ca) : PT X a (TCm X.K (cpu ca)) := PT.imp h fun σ H Q hpat => by
 obtain ⟨F0, H0, F, ρ, g, ρ', rl, e, q⟩ := hpat
 unfold cpu at e
 split at e
 ·rename_i b h1
  cases e
  exact ⟨F0, H0, F, _, _, rl, h1, fun F1 H1 x1 => q F1 H1 (rl.go x1) x1.ff⟩
 ·cases e
def G8 (k j : Nat) (body : MS) : Nat -> List (List D) -> MS
 | _, [], ρ => some (.nx ρ)
 | n, ds :: dss, ρ => match body ((ρ.set k (some (.sh (.int n)))).set j (some (.own ds))) with
  | some (.nx ρ2) => G8 k j body (n + 1) dss ρ2
  | some (.ct ρ2) => G8 k j body (n + 1) dss ρ2
  | some (.bk ρ2) => some (.nx ρ2)
  | o => o
def zg1 (mi : MP) (k j : Nat) (body : MS) : MS := fun ρ => (mi ρ).bind fun dss => G8 k j body 0 dss ρ
theorem yx8 {iter : Expr} {body : List Stmt} {mi : MP} {k j : Nat} {p0 cpos : Pos} {es : List Expr} {tk : Nat} {tp : Pos} {mb : MS} (hp : PassesOwn (model X.prog X.w) X.A X.env X.xe) (hc : X.calm = true) (hgl : Gl X "enumerate") (hmm : X.mg "enumerate" = none) (hi : PP X iter mi) (hg : PG X (.Tuple es tk tp) (gTup X.K 2 (yh9 (M1 k) (yh9 (M1 j) gNil)))) (hb : PSsd X body mb)
  (hs1 : starEach [iter] X.env = [(false, eval iter X.env)] := by rfl) (hs : ∀ v, foldedSetIterable (.Call (.Name "enumerate" p0) [iter] [] cpos) X.env v = pure v := by intro _; rfl) : PSd X (.For (.Tuple es tk tp) (.Call (.Name "enumerate" p0) [iter] [] cpos) body [] pos) (zg1 mi k j mb) := (yx9 hp hc (yw5 hgl hmm (k6 hi pa_nil (by rw [hs1]; rfl)) hs1) hg hb hs).imp fun Dn σ H hpat => by
 obtain ⟨F0, H0, F, ρ, o, rl, e, ok⟩ := hpat
 unfold zg1 at e
 cases h1 : mi ρ with
 | none => rw [h1] at e; cases e
 | some dss =>
  rw [h1] at e
  have e : G8 k j mb 0 dss ρ = some o := e
  refine ⟨F0, H0, F, ρ, dss, rl, h1, fun p qs F1 H1 x1 pt => ?_⟩
  have pn := List.nodup_cons.mp pt.nd
  have h0p : H0 p = none := rl.ext.hh.free pt.hp
  have h0q : ∀ q ∈ qs, H0 q = none := fun q hq => rl.ext.hh.free (pt.new q hq).1
  have f0q : ∀ q ∈ qs, F0 q = none := fun q hq => (rl.ext.ff.trans x1.ff).free (pt.new q hq).2
  have sm : ∀ A : List Addr, (∀ b ∈ A, b = p \/ b ∈ qs) -> Same H0 (Hx H0 H1 A) := fun A hA b u e => by
   by_cases hb : b ∈ A
   ·rcases hA b hb with z | z
    ·rw [z, h0p] at e; cases e
    ·rw [h0q b z] at e; cases e
   ·rw [N6 hb]; exact e
  have sub : ∀ i, ∀ b ∈ p :: qs.drop i, b = p \/ b ∈ qs := fun i b hb => by
   rcases List.mem_cons.mp hb with z | z
   ·exact .inl z
   ·exact .inr (mem_of_mem_drop z)
  refine ⟨p, _, rfl, SqL.of pt.at', ?_⟩
  have rl1 := rl.go x1
  have rl0 : Rl X.K F0 (Hx H0 H1 (p :: qs.drop 0)) F1 H1 σ ρ := by
   have fr : ∀ b ∈ p :: qs.drop 0, H b = none /\ F1 b = none := fun b hb => by
    rcases sub 0 b hb with z | z
    ·rw [z]; exact ⟨pt.hp, pt.fp⟩
    ·exact pt.new b z
   have nin : ∀ b u, H b = some u -> b ∉ p :: qs.drop 0 := fun b u e hb => by rw [(fr b hb).1] at e; cases e
   refine ⟨⟨rl1.ext.ff, fun b u e => ?_, rl1.ext.fh, fun b e n => ?_, rl1.ext.nf⟩, rl1.len, rl1.sh, fun i ds h => ?_, rl1.inj, fun i w ds h => ?_, rl1.obn, rl1.ob1⟩
   ·by_cases hb : b ∈ p :: qs.drop 0
    ·rw [zi3 hb] at e; exact e
    ·rw [N6 hb] at e; exact rl1.ext.hh b u e
   ·have nb : b ∉ p :: qs.drop 0 := fun hb => n (fr b hb).2
    rw [N6 nb]; exact rl1.ext.new b e n
   ·obtain ⟨w, xs, a1, a2, a3, a4, a5⟩ := rl.own i ds h
    obtain ⟨w', xs', b1, b2, b3, b4, b5⟩ := rl1.own i ds h
    rw [a1] at b1; cases b1
    exact ⟨w, xs', a1, b2, b3, b4, by rw [N6 (nin _ _ a3)]; exact b5⟩
   ·obtain ⟨a1, a2, a3, xs, a4, a5⟩ := rl.ob i w ds h
    obtain ⟨b1, b2, b3, b4⟩ := rl1.ob i w ds h
    exact ⟨b1, b2, by rw [N6 (nin _ _ a4)]; exact b3, b4⟩
  have hn : qs.length = dss.length := pt.rep.length
  refine ⟨fun i m σ' H' => ∃ F' ρ', Rl X.K F0 (Hx H0 H1 (p :: qs.drop i)) F' H' σ' ρ' /\ Same F1 F' /\ i <= dss.length /\ m = dss.length - i /\ G8 k j mb i (dss.drop i) ρ' = some o, ⟨_, F1, ρ, rl0, Same.refl _, Nat.zero_le _, rfl, e⟩, ?_⟩
  clear e rl0 rl1
  rintro i m σ' H' ⟨F', ρ', rl', sf, hi', rfl, e'⟩
  have hHp : H' p = some (.lst (qs.map V.ref)) := rl'.ext.hh p _ (by rw [zi3 mem_cons_self]; exact pt.at')
  by_cases hlt : i < dss.length
  ·right
   have hd := getElem?_eq_getElem hlt
   obtain ⟨q, xs, hq, hqH, hqr⟩ := pt.rep.get hd
   have hqm : q ∈ qs := mem_of_getElem? hq
   have hdq : qs.drop i = q :: qs.drop (i + 1) := g6 hq
   have hqH' : H' q = some (.lst xs) := rl'.ext.hh q _ (by rw [zi3 (by rw [hdq]; simp)]; exact hqH)
   have hqF' : F' q = none := by
    cases z : F' q with
    | none => rfl
    | some u =>
     have := rl'.ext.new q (f0q q hqm) (by rw [z]; simp)
     rw [zi3 (by rw [hdq]; simp), hqH] at this; cases this
   have hqx : (qs.map V.ref)[i]? = some (V.ref q) := by rw [getElem?_map, hq]; rfl
   refine ⟨⟨_, _, SqL.of hHp, hqx⟩, fun σ2 H2 => ∃ F2 ρ2, Rl X.K F0 (Hx H0 H1 (p :: qs.drop (i + 1))) F2 H2 σ2 ρ2 /\ Same F1 F2 /\ G8 k j mb (i + 1) (dss.drop (i + 1)) ρ2 = some o, ?_, fun x H2 y => ?_⟩
   ·rintro σ2 H2 ⟨F2, ρ2, rl2, sf2, e2⟩
    exact ⟨dss.length - (i + 1), by omega, F2, ρ2, rl2, sf2, hlt, rfl, e2⟩
   ·obtain ⟨t, u, rfl, ht, rfl, y⟩ := y
    have yx := y _ (SqL.of hHp)
    rw [hqx] at yx; cases yx
    have ndi : (q :: qs.drop (i + 1)).Nodup := by rw [<- hdq]; exact pn.2.sublist (drop_sublist _ _)
    have nod : q ∉ p :: qs.drop (i + 1) := fun z => by
     rcases List.mem_cons.mp z with z | z
     ·exact pn.1 (z ▸ hqm)
     ·exact (List.nodup_cons.mp ndi).1 z
    have qin : q ∈ p :: qs.drop i := by rw [hdq]; simp
    have hxq : Hx H0 H1 (p :: qs.drop i) q = some (.lst xs) := by rw [zi3 qin]; exact hqH
    have sm2 : Same (Hx H0 H1 (p :: qs.drop (i + 1))) (Hx H0 H1 (p :: qs.drop i)) := fun b u e => by
     by_cases hb : b ∈ p :: qs.drop (i + 1)
     ·have hb2 : b ∈ p :: qs.drop i := by
       rw [hdq]
       rcases List.mem_cons.mp hb with z | z
       ·rw [z]; simp
       ·exact mem_cons_of_mem _ (mem_cons_of_mem _ z)
      rw [zi3 hb] at e; rw [zi3 hb2]; exact e
     ·rw [N6 hb] at e
      by_cases hb2 : b ∈ p :: qs.drop i
      ·rcases sub i b hb2 with z | z
       ·rw [z, h0p] at e; cases e
       ·rw [h0q b z] at e; cases e
      ·rw [N6 hb2]; exact e
    have rlk := (rl'.go (Ext.own (o := .tup [.int i, .ref q]) rl'.fh ht)).set (i := k) (d := .int i) (.int _)
    have hqt : q ≠ t := fun z => by rw [z, ht] at hqH'; cases hqH'
    have rl3 := (rlk.less sm2).setOwn (i := j) hqF' (by rw [y9 hqt]; exact hqH') (hqr.mono sf) (by rw [N6 nod]; exact h0q q hqm) (fun k es hk e1 e2 => by
     obtain ⟨w, zs, a1, a2, a3, a4, a5⟩ := rlk.own k es e1
     rw [a1] at e2; cases e2
     rw [hxq] at a5; cases a5) (fun k w es e1 z => by
     obtain ⟨a1, a2, a3, _⟩ := rlk.ob k w es e1
     rw [z, hxq] at a3; cases a3)
    rw [g6 hd] at e'
    unfold G8 at e'
    refine ⟨t, _, rfl, SqT.of y6, rfl, _, _, rfl, _, _, rfl, rfl, ?_⟩
    cases h3 : mb ((ρ'.set k (some (.sh (.int i)))).set j (some (.own dss[i]))) with
    | none => simp only [h3] at e'; cases e'
    | some o1 =>
     simp only [h3] at e'
     refine ⟨F0, _, F', _, o1, rl3, h3, ?_⟩
     cases o1 with
     | nx ρ2 => exact fun F4 H4 σ4 rl4 s4 => ⟨F4, ρ2, rl4, sf.trans s4, e'⟩
     | ct ρ2 => exact fun F4 H4 σ4 rl4 s4 => ⟨F4, ρ2, rl4, sf.trans s4, e'⟩
     | bk ρ2 =>
      cases e'
      exact fun F4 H4 σ4 rl4 s4 => ok F4 H4 σ4 (rl4.less (sm _ (sub _))) ((x1.ff.trans sf).trans s4)
     | rt d => cases e'; exact okO.less (o := .rt d) (sm _ (sub _)) ok
     | rf d => cases e'; exact okO.less (o := .rf d) (sm _ (sub _)) ok
     | rp d ds => cases e'; exact okO.less (o := .rp d ds) (sm _ (sub _)) ok
     | rg d p r => cases e'; exact okO.less (o := .rg d p r) (sm _ (sub _)) ok
     | rgf d p r => cases e'; exact okO.less (o := .rgf d p r) (sm _ (sub _)) ok
  ·left
   have hieq : i = dss.length := by omega
   subst hieq
   rw [drop_length] at e'
   have e' : some (Out.nx ρ') = some o := e'
   cases e'
   refine ⟨⟨_, SqL.of hHp, by rw [length_map, hn]; exact Nat.le_refl _⟩, ?_⟩
   exact ok F' H' σ' (rl'.less (sm _ (sub _))) (x1.ff.trans sf)
end
end
section
theorem O5 {H0 B : Hp} (h : ∀ a, B a ≠ none -> H0 a = none) : Same H0 (jn H0 B) := fun a o e => by
 cases q : B a with
 | none => rw [n9 q]; exact e
 | some u => rw [h a (by rw [q]; simp)] at e; cases e
theorem xw0 {K : W.Frag} {F0 H0 Fb : Hp} {Dn : Ends} : ∀ {o : Out} {β : Bx}, okO K F0 H0 Fb Dn o -> (∀ d es, o ≠ .rp d es) -> (∀ d p r, o ≠ .rgf d p r) -> okW K F0 H0 Fb Dn o β
 | .nx _, _, h, _, _ => fun F H σ ⟨B, fp, rl, ok⟩ s => h F H σ (rl.less (O5 fun a z => (ok.out a z).1)) s
 | .bk _, _, h, _, _ => fun F H σ ⟨B, fp, rl, ok⟩ s => h F H σ (rl.less (O5 fun a z => (ok.out a z).1)) s
 | .ct _, _, h, _, _ => fun F H σ ⟨B, fp, rl, ok⟩ s => h F H σ (rl.less (O5 fun a z => (ok.out a z).1)) s
 | .rt _, _, h, _, _ => fun v F H B fp x ok r => h v F H (x.less (O5 fun a z => (ok.out a z).1)) r
 | .rf _, _, h, _, _ => fun p xs F H B fp x ok a b c d => h p xs F H (x.less (O5 fun a z => (ok.out a z).1)) ((d6 a).2) b c d
 | .rg _ _ _, _, h, _, _ => fun v F H xs B fp x ok r a b c d => h v F H xs (x.less (O5 fun a z => (ok.out a z).1)) r b c d
 | .rp d es, _, _, n, _ => absurd rfl (n d es)
 | .rgf d p r, _, _, _, n => absurd rfl (n d p r)
def noRp : Out -> Bool
 | .rp _ _ => false
 | .rgf _ _ _ => false
 | _ => true
def lowS (m : MW) : MS := fun ρ => match m ρ [] with | some (o, _) => if noRp o = true then some o else none | none => none
section
variable {X : Cx} {st : Stmt} {sts : List Stmt}
theorem ym6 {m : MW} (h : PSsw X sts m) : PSsd X sts (lowS m) := PSs.imp h fun Dn σ H hpat => by
 obtain ⟨F0, H0, F, ρ, o, rl, e, ok⟩ := hpat
 unfold lowS at e
 split at e
 ·rename_i o' β' h1
  split at e
  ·rename_i hn
   cases e
   have hj : jn H0 (fun _ => none) = H0 := funext fun a => n9 rfl
   refine ⟨F0, H0, F, ρ, [], o, β', ⟨fun _ => none, [], by rw [hj]; exact rl, fun a z => absurd rfl z, .nil, nodup_nil, fun a o u z => by cases z⟩, h1, xw0 ok (fun d es z => ?_) fun d p r z => ?_⟩
   ·rw [z] at hn; cases hn
   ·rw [z] at hn; cases hn
  ·cases e
 ·cases e
@[irreducible] def G2 (is : List Nat) (x : MEm) : MS := fun ρ => match x ρ with
 | some (.lst ds, ρ1) => (match R5 is ds ρ1 with | some ρ2 => some (.nx ρ2) | none => none)
 | _ => none
theorem zu2 {is : List Nat} {n : Nat} {na : MEm} (h : PS X st (tAsg (TDm X.K na) (gLst X.K n (gAll is)))) (hn : is.length = n := by rfl) : PSd X st (G2 is na) := h.imp fun D σ H hpat => by
 obtain ⟨F0, H0, F, ρ, o, rl, e, ok⟩ := hpat
 unfold G2 at e
 split at e
 ·rename_i ds ρ1 h1
  split at e
  ·rename_i ρ2 h2
   cases e
   refine ⟨F0, H0, F, ρ, .lst ds, ρ1, rl, h1, fun v F1 H1 rl1 s1 r1 => ?_⟩
   obtain ⟨p, xs, rfl, sq, rs⟩ := r1.l'
   exact ⟨p, xs, rfl, rl1.fh.seq sq, by rw [rs.length, P3 _ _ _ _ h2, hn], zk2 is xs ds σ ρ1 ρ2 rl1 rs h2 fun σ' rl' => ok F1 H1 σ' rl' s1⟩
  ·cases e
 ·cases e
end
end
end L2
set_option maxHeartbeats 4000000
namespace Lw
open List
open PySem L2
section
noncomputable section
abbrev tab_OTHER_KIND : List (Str × Str) := [("up", "down"), ("down", "up")]
def xs4 : MS := (mif (v7 (m2 ltD (mvar 0) (mc (.int 1)))) J7 c9)
def zy7 : MF := runB 1 xs4
def ze1 : MS := (mseq (mapp 2 (mlst (Q6 [none, some 1, some 5, some 0] (r6 rng2 (z8 (m2 addD (mvar 4) (mc (.int 1))) (z8 (mlen (bvar 0)) anil))) (.nm 0) (v7 (m2 geD (m2 subD (mix (bvar 3) (mvar 0)) (mvar 2)) (mvar 1))) (mvar 0)))) (mapp 3 (mlst (Q6 [none, some 1, some 5, some 0] (r6 rng2 (z8 (m2 addD (mvar 4) (mc (.int 1))) (z8 (mlen (bvar 0)) anil))) (.nm 0) (v7 (m2 geD (m2 subD (mvar 2) (mix (bvar 3) (mvar 0))) (mvar 1))) (mvar 0)))))
def ze0 : MS := (k7 3 (k7 2 (mret (mtup (z8 (mvar 2) (z8 (mvar 3) anil))))))
def xs3 : MS := (mseq (f9 2 (w9 anil)) (mseq (f9 3 (w9 anil)) (mseq (mfor (r6 zk7 (z8 (mvar 0) anil)) (.tp [4, 5]) ze1) ze0)))
def zm6 : MF := runB 6 xs3
def b_Z9 : MS := (mret (mtup (z8 (m1 negD (mlen (bvar 0))) (z8 (mvar 0) anil))))
def m_Z9 : MF := runB 1 b_Z9
def zf9 : MS := (mseq (mset 6 (m2 subD (mix (bvar 0) (mvar 5)) (mix (bvar 0) (mvar 4)))) (mseq (mif (v7 (m2 eqSD (mvar 2) (mc (.str "down")))) (mset 6 (m1 negD (mvar 6))) c9) (mseq (mif (v7 (m2 leD (mvar 6) (m1 negD (mvar 1)))) (zy4 5) c9) (mif (v7 (m2 gtD (mvar 6) (mc (.int 0)))) (mset 4 (mvar 5)) c9))))
def xt9 : MS := (mseq (mset 4 (mvar 3)) (mseq (mfor (r6 rng2 (z8 (mvar 3) (z8 (mlen (bvar 0)) anil))) (.nm 5) zf9) (mret (mlen (bvar 0)))))
def zm5 : MF := runB 7 xt9
def L9 : MS := (mseq (mapp 6 (mvar 7)) (mseq (mset 7 (u0 zm5 (z8 (mvar 0) (z8 (mvar 1) (z8 (mvar 5) (z8 (mvar 7) anil)))))) (mset 5 (m1 (tabD tab_OTHER_KIND) (mvar 5)))))
def zf8 : MS := (k7 6 (mret (mtup (z8 (mvar 4) (z8 (mvar 6) anil)))))
def xt7 : MS := (mseq (U9 (u0 zy7 (z8 (mvar 1) anil))) (mseq (mset 2 (u0 zm5 (z8 (mvar 0) (z8 (mvar 1) (z8 (mc (.str "up")) (z8 (mc (.int 0)) anil)))))) (mseq (mset 3 (u0 zm5 (z8 (mvar 0) (z8 (mvar 1) (z8 (mc (.str "down")) (z8 (mc (.int 0)) anil)))))) (mseq (mset 4 (mite (v7 (m2 ltD (mvar 2) (mvar 3))) (mc (.str "down")) (mc (.str "up")))) (mseq (mset 5 (mvar 4)) (mseq (f9 6 (w9 anil)) (mseq (mset 7 (zx4 zc5 (z8 (mvar 2) (z8 (mvar 3) anil)))) (mseq (X9 (v7 (m2 ltD (mvar 7) (mlen (bvar 0)))) L9 1000) zf8))))))))
def ys0 : MF := runB 8 xt7
def b_Z1 : MS := (mret (O3 (Q6 [none, some 0] (l6 (mvar 1)) (.nm 0) cyes (mix (bvar 1) (mvar 0))) (mlst (w9 anil))))
def m_Z1 : MF := runB 2 b_Z1
def zj5 : MS := (mseq (g7 6 (mvar 10) (mlst (mcat (w9 (z8 (mvar 10) anil)) (l6 (zm0 8 (u0 m_Z1 (z8 (mvar 8) (z8 (mix (bvar 2) (mvar 10)) anil)))))))) (mseq (g7 7 (mvar 10) (mlst (mcat (w9 (z8 (mvar 10) anil)) (l6 (zm0 9 (u0 m_Z1 (z8 (mvar 9) (z8 (mix (bvar 3) (mvar 10)) anil)))))))) (mseq (g7 8 (mvar 10) (J8 (fun d => shOf (m_Z9 [d])) (z8 (mix (bvar 6) (mvar 10)) (z8 (mix (bvar 5) (mvar 10)) anil)))) (g7 9 (mvar 10) (J8 (fun d => shOf (m_Z9 [d])) (z8 (mix (bvar 7) (mvar 10)) (z8 (mix (bvar 4) (mvar 10)) anil)))))))
def yp8 : MS := (k7 6 (k7 7 (mret (mtup (z8 (mvar 6) (z8 (mvar 7) anil))))))
def b_Z6 : MS := (mseq (masg (.tp [2, 3]) (mvar 0)) (mseq (masg (.tp [4, 5]) (mvar 1)) (mseq (f9 6 (mrep (w9 (z8 (mlst (w9 anil)) anil)) (mlen (bvar 2)))) (mseq (f9 7 (mrep (w9 (z8 (mlst (w9 anil)) anil)) (mlen (bvar 2)))) (mseq (f9 8 (mrep (w9 (z8 (mlst (w9 anil)) anil)) (mlen (bvar 2)))) (mseq (f9 9 (mrep (w9 (z8 (mlst (w9 anil)) anil)) (mlen (bvar 2)))) (mseq (mfor (r6 rngD (z8 (mlen (bvar 2)) anil)) (.nm 10) zj5) yp8)))))))
def m_Z6 : MF := runB 11 b_Z6
def xt5 : MS := (mret (mtup (z8 (mlst (mrep (w9 (z8 (mlst (w9 anil)) anil)) (mlen (bvar 0)))) (z8 (mlst (mrep (w9 (z8 (mlst (w9 anil)) anil)) (mlen (bvar 0)))) anil))))
def yt8 : MF := runB 1 xt5
def xs8 : MS := (mseq (masg (.tp [1, 2]) (mvar 0)) (mret (zc2 (fun d => shOf (m_Z9 [d])) (l6 (m2 addD (mvar 1) (mvar 2))) (mlst (w9 anil)))))
def zs5 : MF := runB 3 xs8
def yo0 : MS := (mset 4 (u0 m_Z6 (z8 (mvar 3) (z8 (mvar 4) anil))))
def b_Z0 : MS := (mseq (U9 (u0 zy7 (z8 (mvar 1) anil))) (mseq (mif (v7 (m2 ltD (mvar 2) (mc (.int 0)))) J7 c9) (mseq (mset 3 (u0 zm6 (z8 (mvar 0) (z8 (mvar 1) anil)))) (mseq (mset 4 (u0 yt8 (z8 (mvar 0) anil))) (mseq (mfor (r6 rng1 (z8 (m2 addD (zx4 zc5 (z8 (mvar 2) (z8 (mlen (bvar 0)) anil))) (mc (.int 1))) anil)) (.nm 5) yo0) (mret (u0 zs5 (z8 (mvar 4) anil))))))))
def m_Z0 : MF := runB 6 b_Z0
def zw1 : MS := (g7 3 (mvar 4) (m2 addD (mc (.int 1)) (zs2 (V3 [none, some 3] (l6 (m2 addD (mix (bvar 1) (mvar 4)) (mix (bvar 2) (mvar 4)))) (.nm 0) cyes (mix (bvar 1) (mvar 0))) (mc (.int 0)))))
def ze4 : MS := (k7 3 (mret (zs2 (bvar 3) (mc (.int 0)))))
def yf0 : MS := (mseq (masg (.tp [1, 2]) (mvar 0)) (mseq (f9 3 (mrep (w9 (z8 (mc (.int 0)) anil)) (mlen (bvar 1)))) (mseq (mfor (r6 rngD (z8 (mlen (bvar 1)) anil)) (.nm 4) zw1) ze4)))
def xv3 : MF := runB 5 yf0
def zj6 : MS := (mseq (mset 4 (u0 m_Z6 (z8 (mvar 2) (z8 (mvar 4) anil)))) (mapp 5 (mlen (l6 (u0 zs5 (z8 (mvar 4) anil))))))
def b_Z5 : MS := (mseq (U9 (u0 zy7 (z8 (mvar 1) anil))) (mseq (mset 2 (u0 zm6 (z8 (mvar 0) (z8 (mvar 1) anil)))) (mseq (mset 3 (u0 xv3 (z8 (mvar 2) anil))) (mseq (mset 4 (u0 m_Z6 (z8 (mvar 2) (z8 (u0 yt8 (z8 (mvar 0) anil)) anil)))) (mseq (f9 5 (w9 (z8 (mlen (l6 (u0 zs5 (z8 (mvar 4) anil)))) anil))) (mseq (X9 (v7 (m2 ltD (mix (bvar 5) (m1 negD (mc (.int 1)))) (mvar 3))) zj6 1000) (zy4 5)))))))
def m_Z5 : MF := runB 6 b_Z5
def ze3 : MS := (mif (v7 (m2 geD (mvar 4) (mvar 2))) (zy4 3) c9)
def xs5 : MS := (mseq (U9 (u0 zy7 (z8 (mvar 1) anil))) (mseq (mif (v7 (m2 ltD (mvar 2) (mc (.int 0)))) J7 c9) (mseq (mfor (r6 zk7 (z8 (u0 m_Z5 (z8 (mvar 0) (z8 (mvar 1) anil))) anil)) (.tp [3, 4]) ze3) (mret (mc .non)))))
def ys1 : MF := runB 5 xs5
def b_Z4 : MS := (mif (v7 (m2 ltD (mvar 0) (mc (.int 0)))) J7 c9)
def m_Z4 : MF := runB 1 b_Z4
def yp9 : MS := (U9 (u0 m_Z4 (z8 (mvar 2) anil)))
def b_Z3 : MS := (mseq (mif (v7 (m2 neSD (mlen (bvar 1)) (mlen (bvar 0)))) J7 c9) (mfor (l6 (mvar 1)) (.nm 2) yp9))
def m_Z3 : MF := runB 3 b_Z3
def b_Z7 : MS := (mseq (masg (.tp [1, 2]) (mvar 0)) (mret (mtup (z8 (m1 negD (mvar 1)) (z8 (mlen (bvar 2)) (z8 (mvar 2) anil))))))
def m_Z7 : MF := runB 3 b_Z7
def b_Z2 : MS := (mret (yu8 (fun d => shOf (m_Z7 [d])) (mcat (w9 (z8 (mtup (z8 (mc (.int 0)) (z8 (mlst (w9 anil)) anil))) anil)) (bvar 0))))
def m_Z2 : MF := runB 1 b_Z2
def zw0 : MS := (mseq (masg (.tp [8, 9]) (u0 m_Z2 (z8 (mlst (V3 [none, some 6] (l6 (mix (bvar 3) (mvar 7))) (.nm 0) cyes (mix (bvar 1) (mvar 0)))) anil))) (mseq (g7 5 (mvar 7) (mtup (z8 (m2 addD (mix (bvar 2) (mvar 7)) (mvar 8)) (z8 (mlst (mcat (w9 (z8 (mvar 7) anil)) (bvar 9))) anil)))) (mseq (masg (.tp [8, 9]) (u0 m_Z2 (z8 (mlst (V3 [none, some 5] (l6 (mix (bvar 4) (mvar 7))) (.nm 0) cyes (mix (bvar 1) (mvar 0)))) anil))) (g7 6 (mvar 7) (mtup (z8 (m2 addD (mix (bvar 2) (mvar 7)) (mvar 8)) (z8 (mlst (mcat (w9 (z8 (mvar 7) anil)) (bvar 9))) anil)))))))
def ze2 : MS := (k7 5 (k7 6 (mret (mtup (z8 (mvar 5) (z8 (mvar 6) anil))))))
def yg9 : MS := (mseq (masg (.tp [3, 4]) (u0 zm6 (z8 (mvar 0) (z8 (mvar 1) anil)))) (mseq (f9 5 (mrep (w9 (z8 (mtup (z8 (mc (.int 0)) (z8 (mlst (w9 anil)) anil))) anil)) (mlen (bvar 0)))) (mseq (f9 6 (mrep (w9 (z8 (mtup (z8 (mc (.int 0)) (z8 (mlst (w9 anil)) anil))) anil)) (mlen (bvar 0)))) (mseq (mfor (r6 rngD (z8 (mlen (bvar 0)) anil)) (.nm 7) zw0) ze2))))
def xv2 : MF := runB 10 yg9
def xt6 : MS := (mseq (U9 (u0 zy7 (z8 (mvar 1) anil))) (mseq (U9 (u0 m_Z3 (z8 (mvar 0) (z8 (mvar 2) anil)))) (mseq (masg (.tp [3, 4]) (u0 xv2 (z8 (mvar 0) (z8 (mvar 1) (z8 (mvar 2) anil))))) (mret (u0 m_Z2 (z8 (m2 addD (mvar 3) (mvar 4)) anil))))))
def yt9 : MF := runB 5 xt6
def d9 : MW := (W6 (wS (U9 (u0 zy7 (z8 (mvar 1) anil)))) (W6 (yt3 0 "Grown" "least_step" (wE (mvar 1))) (W6 (G1 0 "Grown" "numbers" (wE (w9 anil))) (W6 (G1 0 "Grown" "weights" (wE (w9 anil))) (G1 0 "Grown" "lengths" (wE (w9 anil)))))))
def u9 : MFW := runW 2 d9
def xs6 : MS := (mret (u0 ys0 (z8 (mfld "Grown" "numbers" (mvar 0)) (z8 (mfld "Grown" "least_step" (mvar 0)) anil))))
def ys2 : MF := runB 1 xs6
def xs9 : MS := (mseq (masg (.tp [1, 2]) (Z9 "Grown" "pieces" ys2 (mvar 0) anil)) (mret (mite (mtru (mfld "Grown" "numbers" (mvar 0))) (m2 addD (mlen (bvar 2)) (mc (.int 1))) (mc (.int 0)))))
def zs6 : MF := runB 3 xs9
def R0 : MW := (W6 (wS (U9 (u0 m_Z4 (z8 (mvar 2) anil)))) (W6 (N0 0 "Grown" "numbers" (wE (mvar 1))) (W6 (N0 0 "Grown" "weights" (wE (mvar 2))) (N0 0 "Grown" "lengths" (zb1 (Z9 "Grown" "length" zs6 (mvar 0) anil))))))
def Z2 : MFW := runW 3 R0
def xs7 : MS := (mseq (masg (.tp [1, 2]) (u0 yt9 (z8 (mfld "Grown" "numbers" (mvar 0)) (z8 (mfld "Grown" "least_step" (mvar 0)) (z8 (mfld "Grown" "weights" (mvar 0)) anil))))) (zy4 1))
def yi6 : MF := runB 3 xs7
def b_Z8 : MS := (yu4 (l6 (mfld "Grown" "lengths" (mvar 0))))
def m_Z8 : MF := runB 1 b_Z8
def yg7 : MS := (mseq (g7 0 (mc (.int 1)) (m2 addD (mix (bvar 0) (mc (.int 1))) (mc (.int 1)))) (mseq (mset 2 (mix (bvar 0) (mc (.int 0)))) (mseq (mif (v7 (m2 geD (mvar 2) (m2 powD (mc (.int 10)) (mc (.int 18))))) (mseq (g7 0 (mc (.int 0)) (m2 yq0 (mvar 2) (mvar 1))) (D3 0 (mpu (m2 modD (mvar 2) (mvar 1))))) c9) (mseq (mset 3 (m2 modD (m2 addD (m2 addD (m2 mulD (mvar 2) (mc (.int 69621))) (m2 mulD (mix (bvar 0) (mc (.int 1))) (mc (.int 7919)))) (mc (.int 13))) (mc (.int 2147483647)))) (mseq (mset 3 (m2 modD (m2 mulD (mvar 3) (mvar 3)) (mc (.int 2147483629)))) (D3 0 (mpu (m2 modD (m2 yq0 (m2 modD (m2 addD (m2 mulD (mvar 3) (mc (.int 48271))) (m2 mulD (mix (bvar 0) (mc (.int 1))) (mc (.int 40692)))) (mc (.int 2147483587))) (mc (.int 8))) (mvar 1)))))))))
def Z1 : MG := runG 4 yg7
def U5 : MFP := runP 1 (v7 (m2 eqSD (mlen (bvar 0)) (mc (.int 0)))) (yt1 (w9 (z8 (mc (.int 0)) (z8 (mc (.int 0)) anil)))) (C4 [none] (l6 (mlst (mcut (bvar 0) D2 (K9 (mc (.int 63)))))) (.nm 0) (w9 (z8 (mvar 0) (z8 (mc (.int 0)) anil))))
def zx9 : MS := (mseq (zt8 4 (m2m addD (mpu (mvar 4)) (m2m mulD (mpu (mvar 5)) (m2m addD (mpu (mvar 1)) (t6 Z1 0 (j4 (m2m ixLD (mpu (mlst (w9 (z8 (mc (.int 1)) (z8 (mc (.int 3)) (z8 (mc (.int 50)) anil)))))) (t6 Z1 0 (apu (z8 (mc (.int 3)) anil)))) (apu anil))))))) (mapp 6 (mvar 4)))
def zx8 : MS := (mseq (yt7 7 (m2m addD (mpu (mc (.int 1))) (t6 Z1 0 (apu (z8 (mvar 3) anil))))) (mseq (mfor (r6 rng1 (z8 (mix (bvar 7) (m1 negD (mc (.int 1)))) anil)) (.nm 9) zx9) (mset 5 (m2 subD (mc (.int 0)) (mvar 5)))))
def zf7 : MS := (k7 7 (k7 6 (D3 0 (mpu (mlst (w9 (z8 (mvar 6) (z8 (mvar 7) anil))))))))
def yg8 : MS := (mseq (zt8 4 (m2m subD (t6 Z1 0 (apu (z8 (mc (.int 2001)) anil))) (mpu (mc (.int 1000))))) (mseq (zt8 5 (m2m ixLD (mpu (mlst (w9 (z8 (mc (.int 1)) (z8 (m1 negD (mc (.int 1))) anil))))) (t6 Z1 0 (apu (z8 (mc (.int 2)) anil))))) (mseq (f9 6 (w9 (z8 (mvar 4) anil))) (mseq (f9 7 (w9 anil)) (mseq (mfor (r6 rng1 (z8 (mvar 2) anil)) (.nm 8) zx8) zf7)))))
def zb0 : MG := runG 10 yg8
def xt8 : MS := (mseq (mset 3 (m2 subD (mlen (bvar 1)) (mc (.int 1)))) (mseq (mset 4 (u0 m_Z5 (z8 (mvar 0) (z8 (mvar 2) anil)))) (mseq (mif (cor (v7 (m2 neSD (mix (bvar 4) (m1 negD (mc (.int 1)))) (mlen (bvar 0)))) (cor (v7 (m2 neSD (mlen (bvar 4)) (m2 addD (mvar 3) (mc (.int 1))))) (v7 (m2 neSD (u0 ys1 (z8 (mvar 0) (z8 (mvar 2) (z8 (mlen (bvar 0)) anil)))) (mvar 3))))) (mret (mc (.bl false))) c9) (mseq (mif (cor (v7 (meqB true (l6 (u0 m_Z0 (z8 (mvar 0) (z8 (mvar 2) (z8 (mvar 3) anil))))) (r6 ys5 (z8 (mlen (bvar 0)) anil)))) (v7 (m2 ltD (mix (bvar 4) (mc (.int 0))) (m2 addD (zn7 (bvar 1)) (mc (.int 1)))))) (mret (mc (.bl false))) c9) (mseq (mset 5 (mlst (Q6 [none, none] (r6 zip2 (z8 (mvar 1) (z8 (mlst (mcut (bvar 1) (K9 (mc (.int 1))) D2)) anil))) (.tp [0, 1]) cyes (m2 addD (mvar 0) (mvar 1))))) (mseq (mif (cand (v7 (m2 gtD (mvar 3) (mc (.int 0)))) (v7 (m2 ltD (mix (bvar 4) (mc (.int 1))) (m2 addD (zn7 (bvar 5)) (mc (.int 1)))))) (mret (mc (.bl false))) c9) (mseq (mif (cand (v7 (m2 gtD (mvar 3) (mc (.int 0)))) (v7 (m2 geD (mlen (l6 (u0 m_Z0 (z8 (mvar 0) (z8 (mvar 2) (z8 (m2 subD (mvar 3) (mc (.int 1))) anil)))))) (mlen (bvar 0))))) (mret (mc (.bl false))) c9) (mret (m2 (isND false) (u0 ys1 (z8 (mvar 0) (z8 (mvar 2) (z8 (m2 addD (mlen (bvar 0)) (mc (.int 1))) anil)))) (mc .non))))))))))
def zm4 : MF := runB 6 xt8
def zx7 : MW := (zs3 (zs0 8 "Grown" "put" Z2 (z8 (mvar 9) (z8 (mc (.int 0)) anil))))
def zx6 : MW := (mifW (xv6 (cor (v7 (m2 neSD (Z9 "Grown" "length" zs6 (mvar 8) anil) (m2 addD (mlen (bvar 5)) (mc (.int 1))))) (cor (v7 (m2 neSD (Z9 "Grown" "weight" yi6 (mvar 8) anil) (mc (.int 0)))) (v7 (m2 neSD (mix (l6 (Z9 "Grown" "moments" m_Z8 (mvar 8) anil)) (m1 negD (mc (.int 1)))) (m2 addD (mlen (bvar 5)) (mc (.int 1)))))))) (zd9 (wE (mc (.bl false)))) (wS c9))
def zx5 : MW := (W6 (yi2 (l6 (mvar 4)) (.nm 9) zx7) zx6)
def X7 : MS := (lowS (W6 (wS (zt8 3 (m2m ixLD (yt0 (j4 (mpu (mc (.int 1))) (j4 (m2m addD (mpu (mc (.int 1))) (t6 Z1 2 (apu (z8 (mc (.int 9)) anil)))) (apu (z8 (m2 powD (mc (.int 10)) (mc (.int 25))) anil))))) (t6 Z1 2 (apu (z8 (mc (.int 3)) anil)))))) (W6 (wS (G2 [4, 5] (t6 zb0 2 (j4 (mpu (mvar 3)) (j4 (m2m addD (mpu (mc (.int 1))) (t6 Z1 2 (apu (z8 (mc (.int 12)) anil)))) (apu (z8 (mc (.int 7)) anil))))))) (W6 (mifW (wE (cnot (mtru (u0 zm4 (z8 (mvar 4) (z8 (mvar 5) (z8 (mvar 3) anil))))))) (zd9 (wE (mc (.bl false)))) (wS c9)) (W6 (zn8 (zj2 (cpu (v7 (m2 eqSD (mvar 1) (mc (.int 0))))) (J5 (m2m eqSD (t6 Z1 2 (apu (z8 (mc (.int 6)) anil))) (mpu (mc (.int 0)))))) (W6 (wS (G2 [6, 7] (t6 zb0 2 (j4 (mpu (mvar 3)) (j4 (m2m addD (mpu (mc (.int 1))) (t6 Z1 2 (apu (z8 (mc (.int 8)) anil)))) (apu (z8 (mc (.int 37)) anil))))))) (mifW (wE (cnot (mtru (u0 zm4 (z8 (mvar 6) (z8 (mvar 7) (z8 (mvar 3) anil))))))) (zd9 (wE (mc (.bl false)))) (wS c9))) (wS c9)) (zc0 8 "Grown" u9 (z8 (mvar 3) anil) zx5))))))
def xt4 : MS := (mseq (zg1 (zg4 U5 (z8 (mlst (mcut (bvar 0) D2 (K9 (mc (.int 3))))) anil)) 1 2 X7) (mret (mc (.bl true))))
def zm3 : MF := runB 10 xt4
end
end
section
theorem xh6 (i j : Int) : eqS (.int i) (.int j) = some (i == j) := rfl
theorem xh8 (i j : Bool) : eqS (.bl i) (.bl j) = some (i == j) := rfl
theorem xh1 (i j : Str) : eqS (.str i) (.str j) = some (i == j) := rfl
theorem xh2 : eqS .non .non = some true := rfl
theorem xh4 (j : Bool) : eqS .non (.bl j) = some false := rfl
theorem xh7 (j : Bool) : eqS (.bl j) .non = some false := rfl
theorem xh3 (j : Int) : eqS .non (.int j) = some false := rfl
theorem xh5 (j : Int) : eqS (.int j) .non = some false := rfl
local macro_rules | `(tactic| simp_arith [$ls,*]) => `(tactic| simp (config := {decide := true, implicitDefEqProofs := false}) only [runB, v3, map_cons, map_nil, length_cons, length_nil, List.replicate, cons_append, nil_append, mvar, bvar, mc, mlst, l6, m2, v7, subD, mulD, yq0, modD, powD, ltD, leD, gtD, geD, eqSD, neSD, xh6, xh8, xh1, xh2, xh4, xh7, xh3, xh5, m1, negD, mtru, truD, cand, cor, cnot, mite, anil, z8, w9, mtup, mlen, mix, D2, K9, mcut, mcat, addD, zx4, zc5, two2, intF, c9, mseq, mif, J7, mset, f9, U9, mret, yu4, zy4, mapp, g7, k7, masg, xb2, r6, zip2, zk7, cyes, u0, meqB, int2, tgD, R5, Option.bind_some, Option.map_some, Option.bind_none, Option.map_none, getElem?_cons_zero, getElem?_cons_succ, set_cons_zero, set_cons_succ, isEmpty_cons, isEmpty_nil, Bool.not_true, Bool.not_false, $ls,*])
def stir (c k : Int) : Int := if 10 ^ 18 <= c then (c - 10 ^ 18) / 2 ^ (28 * k).toNat % 2 ^ 28 else
 (((c + 1013 * k + 1) * 16807 % 2147483647) * ((c + 1013 * k + 1) * 16807 % 2147483647) % 2147483629) * 39373 % 2147483587 / 8
theorem zy2 (i j : Int) (h1 : -(2 ^ 64) < j) (h2 : j < 2 ^ 64) : O2 i j = true := by
 unfold O2; simp only [h1, h2, decide_true, Bool.and_self, Bool.or_true]
theorem zn4 (i j : Int) (h1 : -(2 ^ 64) < i) (h2 : i < 2 ^ 64) : O2 i j = true := by
 unfold O2; simp only [h1, h2, decide_true, Bool.and_self, Bool.true_or]
theorem Q4 (i j : Int) (h : 0 < j) : zn6 i j = true := by unfold zn6; simp only [h, decide_true]
theorem seqI {x y : MS} {ρ ρ' : Ro} {o : Option Out} (h : x ρ = some (.nx ρ')) (h2 : y ρ' = o) : mseq x y ρ = o := by
 unfold mseq; rw [h]; exact h2
def yc6 {α : Type} (I : List α -> Ro -> Prop) (Q : Out -> Prop) (ds : List α) : Out -> Prop
 | .nx ρ => I ds ρ | .ct ρ => I ds ρ | .bk ρ => Q (.nx ρ) | .rt d => Q (.rt d) | .rf es => Q (.rf es) | .rp d es => Q (.rp d es) | .rg d p r => Q (.rg d p r) | .rgf d p r => Q (.rgf d p r)
theorem G9 {α : Type} {g : Tg} {body : MS} {f : α -> D} (I : List α -> Ro -> Prop) (Q : Out -> Prop)
  (hs : ∀ d ds ρ, I (d :: ds) ρ -> ∃ ρ1 o, tgD g (f d) ρ = some ρ1 /\ body ρ1 = some o /\ yc6 I Q ds o) (hd : ∀ ρ, I [] ρ -> Q (.nx ρ)) :
  ∀ (ds : List α) (ρ : Ro), I ds ρ -> ∃ o, forD g body (ds.map f) ρ = some o /\ Q o
 | [], ρ, h => ⟨.nx ρ, rfl, hd ρ h⟩
 | d :: ds, ρ, h => by
  obtain ⟨ρ1, o, h1, h2, h3⟩ := hs d ds ρ h
  rw [map_cons]
  unfold forD
  rw [h1]
  simp only [h2]
  cases o with
  | nx ρ2 => exact G9 I Q hs hd ds ρ2 h3
  | ct ρ2 => exact G9 I Q hs hd ds ρ2 h3
  | bk ρ2 => exact ⟨_, rfl, h3⟩
  | rt d => exact ⟨_, rfl, h3⟩
  | rf d => exact ⟨_, rfl, h3⟩
  | rp d es => exact ⟨_, rfl, h3⟩
  | rg d p r => exact ⟨_, rfl, h3⟩
  | rgf d p r => exact ⟨_, rfl, h3⟩
theorem Q7 {α : Type} {g : Tg} {c : MB} {elt : ME} {f : α -> D} {G : α -> D} (I : List α -> Ro -> Prop)
  (hs : ∀ d ds ρ, I (d :: ds) ρ -> ∃ ρ1, tgD g (f d) ρ = some ρ1 /\ c ρ1 = some true /\ elt ρ1 = some (G d) /\ I ds ρ1) :
  ∀ (ds : List α) (ρ : Ro) (acc : List D), I ds ρ -> acc.length + ds.length <= sizeLine -> W7 g c elt (ds.map f) ρ acc = some (acc ++ ds.map G)
 | [], ρ, acc, h, hl => by simp [W7]
 | d :: ds, ρ, acc, h, hl => by
  obtain ⟨ρ1, h1, h2, h3, h4⟩ := hs d ds ρ h
  rw [map_cons]
  unfold W7
  rw [h1]
  simp only [h2, h3]
  rw [length_cons] at hl
  rw [if_pos (by omega), Q7 I hs ds ρ1 _ h4 (by simp; omega)]
  simp
def cutI {α : Type} (xs : List α) (lo hi : Option Int) : List α := (xs.drop (HT.sIx xs.length 0 lo)).take (HT.sIx xs.length xs.length hi - HT.sIx xs.length 0 lo)
theorem zx2 {α : Type} (f : α -> D) (xs : List α) (lo hi : Option Int) : cutL (xs.map f) lo hi = (cutI xs lo hi).map f := by
 unfold cutL cutI; rw [length_map, <- map_drop, <- map_take]
theorem yq7 {α : Type} (xs : List α) (k : Nat) : cutI xs (some (k : Int)) none = xs.drop k := by
 unfold cutI
 rw [HT.sIx_nat, HT.sIx_none]
 rcases Nat.le_total k xs.length with h | h
 ·rw [Nat.min_eq_left h]; exact take_of_length_le (by simp)
 ·rw [Nat.min_eq_right h]; simp [drop_eq_nil_of_le h]
theorem zw2 {α : Type} (f : α -> D) (xs : List α) (k : Int) (h0 : 0 <= k) (h1 : k < xs.length) (dflt : α) : atI (xs.map f) k = some (f (xs.getD k.toNat dflt)) := by
 unfold atI ixN
 rw [length_map, if_pos h0, if_pos h1]
 have hl : k.toNat < xs.length := by omega
 simp [getElem?_map, hl]
theorem atI_last {α : Type} (f : α -> D) (xs : List α) (x : α) : atI ((xs ++ [x]).map f) (-1) = some (f x) := by
 unfold atI ixN
 rw [length_map, if_neg (by decide), if_pos (by simp; omega)]
 have e : (-1 + ((xs ++ [x]).length : Int)).toNat = xs.length := by simp; omega
 rw [e]
 simp
theorem j5 {n : Nat} {m : MS} {ds : List D} {d : D} (h : m (v3 n ds) = some (.rt d)) : runB n m ds = some (.sh d) := by unfold runB; rw [h]
theorem yy5 {n : Nat} {m : MS} {ds : List D} {d : List D} (h : m (v3 n ds) = some (.rf d)) : runB n m ds = some (.fr d) := by unfold runB; rw [h]
theorem ya4 {n : Nat} {m : MS} {ds : List D} {ρ : Ro} (h : m (v3 n ds) = some (.nx ρ)) : runB n m ds = some (.sh .non) := by unfold runB; rw [h]
def after (rest : MS) : Out -> Option Out
 | .nx ρ => rest ρ | .bk ρ => some (.bk ρ) | .ct ρ => some (.ct ρ) | .rt d => some (.rt d) | .rf d => some (.rf d) | .rp d es => some (.rp d es) | .rg d p r => some (.rg d p r) | .rgf d p r => some (.rgf d p r)
theorem a0 {x y : MS} {ρ : Ro} {o : Out} (h : x ρ = some o) : mseq x y ρ = after y o := by
 unfold mseq; rw [h]; cases o <;> rfl
theorem xj7 (i j : Int) : (if j < i then j else i) = min i j := by omega
theorem p5 : 1000000 <= sizeLine := by rw [show sizeLine = 2 ^ 24 from rfl]; decide
theorem v4 {n : Nat} (h : n <= 1000000) : n <= sizeLine := Nat.le_trans h p5
theorem C2 (j n : Nat) (h : j < n) : List.range' j (n - j) = j :: List.range' (j + 1) (n - (j + 1)) := by
 have : n - j = (n - (j + 1)) + 1 := by omega
 rw [this, range'_succ]
theorem yu7 {x n : Int} (hn : 0 < n) : 0 <= x % n /\ x % n < n := ⟨Int.emod_nonneg _ (by omega), Int.emod_lt_of_pos _ hn⟩
def Run (m : MS) (ρ : Ro) (R : Out -> Prop) : Prop := ∃ o, m ρ = some o /\ R o
def xg8 (rest : MS) (R : Out -> Prop) : Out -> Prop
 | .nx ρ => Run rest ρ R | .bk ρ => R (.bk ρ) | .ct ρ => R (.ct ρ) | .rt d => R (.rt d) | .rf d => R (.rf d) | .rp d es => R (.rp d es) | .rg d p r => R (.rg d p r) | .rgf d p r => R (.rgf d p r)
theorem x9 {x y : MS} {ρ ρ' : Ro} {R : Out -> Prop} (h : x ρ = some (.nx ρ')) (h2 : Run y ρ' R) : Run (mseq x y) ρ R := by
 obtain ⟨o, e, r⟩ := h2
 exact ⟨o, seqI h e, r⟩
theorem l9 {x y : MS} {ρ : Ro} {R : Out -> Prop} (h : Run x ρ (xg8 y R)) : Run (mseq x y) ρ R := by
 obtain ⟨o, e, r⟩ := h
 cases o with
 | nx ρ' => exact x9 e r
 | bk ρ' => exact ⟨_, a0 e, r⟩
 | ct ρ' => exact ⟨_, a0 e, r⟩
 | rt d => exact ⟨_, a0 e, r⟩
 | rf d => exact ⟨_, a0 e, r⟩
 | rp d es => exact ⟨_, a0 e, r⟩
 | rg d p' r' => exact ⟨_, a0 e, r⟩
 | rgf d p' r' => exact ⟨_, a0 e, r⟩
theorem zo1 {α : Type} {mi : ML} {g : Tg} {body : MS} {ρ : Ro} {f : α -> D} (ds : List α) (hi : mi ρ = some (ds.map f)) (I : List α -> Ro -> Prop) (Q : Out -> Prop) (h0 : I ds ρ)
  (hs : ∀ d ds ρ, I (d :: ds) ρ -> ∃ ρ1, tgD g (f d) ρ = some ρ1 /\ Run body ρ1 (yc6 I Q ds)) (hd : ∀ ρ, I [] ρ -> Q (.nx ρ)) : Run (mfor mi g body) ρ Q := by
 obtain ⟨o, e, q⟩ := G9 (g := g) (body := body) I Q (fun d ds ρ h => by obtain ⟨ρ1, a, o, b, c⟩ := hs d ds ρ h; exact ⟨ρ1, o, a, b, c⟩) hd ds ρ h0
 exact ⟨o, by unfold mfor; rw [hi]; exact e, q⟩
theorem U2 {mi : ML} {g : Tg} {body : MS} {ρ : Ro} {f : Nat -> D} (n : Nat) (hi : mi ρ = some ((List.range n).map f)) (I : Nat -> Ro -> Prop) (Q : Out -> Prop) (h0 : I 0 ρ)
  (hs : ∀ j ρ, j < n -> I j ρ -> ∃ ρ1, tgD g (f j) ρ = some ρ1 /\ Run body ρ1 (yc6 (fun (_ : List Unit) ρ => I (j + 1) ρ) Q [])) (hd : ∀ ρ, I n ρ -> Q (.nx ρ)) : Run (mfor mi g body) ρ Q := by
 refine zo1 (List.range n) hi (I := fun ks ρ => ∃ j, j <= n /\ ks = List.range' j (n - j) /\ I j ρ) (Q := Q) ⟨0, by omega, by rw [range_eq_range']; rfl, h0⟩ ?_ ?_
 ·rintro d ds ρ ⟨j, hj, e, h⟩
  have hlt : j < n := by
   rcases Nat.lt_or_ge j n with z | z
   ·exact z
   ·rw [show n - j = 0 by omega] at e; cases e
  rw [C2 j n hlt] at e
  obtain ⟨e1, e2⟩ := List.cons.inj e
  subst e1
  obtain ⟨ρ1, a1, o, a2, a3⟩ := hs d ρ hlt h
  refine ⟨ρ1, a1, o, a2, ?_⟩
  cases o with
  | nx r => exact ⟨d + 1, by omega, e2, a3⟩
  | ct r => exact ⟨d + 1, by omega, e2, a3⟩
  | bk r => exact a3
  | rt r => exact a3
  | rf r => exact a3
  | rp r r2 => exact a3
  | rg r r2 r3 => exact a3
  | rgf r r2 r3 => exact a3
 ·rintro ρ ⟨j, hj, e, h⟩
  have : n - j = 0 := by
   rcases Nat.eq_zero_or_pos (n - j) with z | z
   ·exact z
   ·rw [C2 j n (by omega)] at e; cases e
  have : j = n := by omega
  subst this
  exact hd ρ h
theorem k8 {i : Nat} {m : MS} {ρ : Ro} {ds : List D} {R : Out -> Prop} (h : ρ[i]? = some (some (.own ds))) (h2 : Run m (ρ.set i (some (.sh (.lst ds)))) R) : Run (k7 i m) ρ R := by
 obtain ⟨o, e, r⟩ := h2
 exact ⟨o, by unfold k7; rw [h]; exact e, r⟩
theorem zv4 {c : MB} {x y : MS} {ρ : Ro} {R : Out -> Prop} {b : Bool} (h : c ρ = some b) (h2 : Run (if b then x else y) ρ R) : Run (mif c x y) ρ R := by
 obtain ⟨o, e, r⟩ := h2
 refine ⟨o, ?_, r⟩
 unfold mif; rw [h]
 cases b <;> exact e
theorem M4 {ρ : Ro} {R : Out -> Prop} (h : R (.nx ρ)) : Run c9 ρ R := ⟨_, rfl, h⟩
theorem ye8 {x : Int} (h : 0 <= x) : ∃ n : Nat, x = n := ⟨x.toNat, by omega⟩
theorem Y3 (lo : Int) (n : Nat) : a7 lo n = (List.range n).map fun (i : Nat) => D.int (lo + (i : Int)) := rfl
theorem yx1 (n : Nat) : a7 0 n = ((List.range n).map fun (i : Nat) => (i : Int)).map .int := by
 rw [Y3, map_map]
 apply map_congr_left
 intro i _
 simp
theorem Q3 {j : Int} (h1 : -(2 ^ 62) <= j) (h2 : j < 2 ^ 62) : okR j = true := by unfold okR; simp only [h1, h2, decide_true, Bool.and_self]
theorem yy7 {j : Int} (h : okR j = true) : rng1 [.int j] = some (a7 0 j.toNat) := by
 unfold rng1
 simp only [h, if_true]
theorem yy6 {i j : Int} (h : okR i = true) (h2 : okR j = true) : rng2 [.int i, .int j] = some (a7 i (j - i).toNat) := by
 unfold rng2
 simp only [h, h2, Bool.and_self, if_true]
theorem yn7 {i : Nat} {ρ : Ro} {ds : List D} {R : Out -> Prop} (h : ρ[i]? = some (some (.own ds))) (h2 : R (.rf ds)) : Run (zy4 i) ρ R := ⟨_, by unfold zy4; rw [h], h2⟩
theorem zr5 (i j : Int) (h : 0 < j) (h2 : j < 1073741824) : zr6 i j = true := by unfold zr6; simp only [h, h2, decide_true, Bool.and_self]
theorem zr8 : ∀ (row : List Int) (k : Nat), O6 k (row.map .int) = (List.range row.length).map fun (i : Nat) => D.tup [.int ((k + i : Nat) : Int), .int (row.getD i 0)]
 | [], k => rfl
 | x :: row, k => by
  rw [map_cons, O6, zr8 row (k + 1), length_cons, range_succ_eq_map, map_cons, map_map]
  congr 1
  apply map_congr_left
  intro i _
  simp only [Function.comp, Nat.succ_eq_add_one, getD_cons_succ]
  rw [show k + 1 + i = k + (i + 1) by omega]
theorem zf4 {α : Type} (xs : List α) (lo hi : Option Int) : (cutI xs lo hi).length <= xs.length := by
 unfold cutI; rw [length_take, length_drop]; omega
theorem zi5 (n : Nat) : ∀ xs : List Int, zipE (eqF (n + 1)) (xs.map .int) (xs.map .int) = some true
 | [] => rfl
 | x :: xs => by
  rw [map_cons, zipE, zi5 n xs]
  show (some (x == x)).bind _ = _
  rw [beq_self_eq_true]; rfl
theorem xg0 (n : Nat) (xs : List Int) : eqF (n + 2) (.lst (xs.map .int)) (.lst (xs.map .int)) = some true := by
 show (if _ = _ then zipE (eqF (n + 1)) (xs.map .int) (xs.map .int) else some false) = _
 rw [if_pos rfl, zi5]
theorem X2 {n : Nat} {m : MS} {ds : List D} {d : D} (h : Run m (v3 n ds) (fun o => o = .rt d)) : runB n m ds = some (.sh d) := by
 obtain ⟨o, e, rfl⟩ := h
 exact j5 e
theorem zg3 {f : MF} {m : ML} {ρ : Ro} {ds es : List D} (h : m ρ = some ds) (h2 : f ds = some (.fr es)) : u0 f m ρ = some (.lst es) := by
 unfold u0; rw [h]; show (match f ds with | some (.sh d) => some d | some (.fr es) => some (D.lst es) | some (.pr d es) => some (.tup [d, .lst es]) | none => none) = _; rw [h2]
theorem w6 {f : MF} {m : ML} {ρ : Ro} {ds : List D} {d : D} (h : m ρ = some ds) (h2 : f ds = some (.sh d)) : u0 f m ρ = some d := by
 unfold u0; rw [h]; show (match f ds with | some (.sh d) => some d | some (.fr es) => some (D.lst es) | some (.pr d es) => some (.tup [d, .lst es]) | none => none) = _; rw [h2]
theorem z6 {x : ME} {r : ML} {ρ : Ro} {d : D} {ds : List D} (h : x ρ = some d) (h2 : r ρ = some ds) : z8 x r ρ = some (d :: ds) := by
 unfold z8; rw [h, h2]; rfl
theorem y4 {ρ : Ro} : anil ρ = some [] := rfl
theorem ze5 (row : List Int) (i : Nat) (h : i < row.length) : atI (row.map D.int) (i : Int) = some (.int (row.getD i 0)) := by
 have := zw2 D.int row (i : Int) (by omega) (by omega) 0
 rw [Int.toNat_natCast] at this
 exact this
theorem F7 (row : List Int) (i : Nat) (h : i < row.length) : row.drop i = row.getD i 0 :: row.drop (i + 1) := by
 rw [drop_eq_getElem_cons h]
 simp [h]
theorem zi6 {x y : ME} {ρ : Ro} {i j : Int} (h1 : x ρ = some (.int i)) (h2 : y ρ = some (.int j)) : v7 (m2 ltD x y) ρ = some (decide (i < j)) := by
 unfold v7 m2; rw [h1, h2]; rfl
theorem Y0 {α : Type} {g : Tg} {c : MB} {elt : ME} {f : α -> D} {p : α -> Bool} {G : α -> D} (I : List α -> Ro -> Prop)
  (hs : ∀ d ds ρ, I (d :: ds) ρ -> ∃ ρ1, tgD g (f d) ρ = some ρ1 /\ c ρ1 = some (p d) /\ (p d = true -> elt ρ1 = some (G d)) /\ I ds ρ1) :
  ∀ (ds : List α) (ρ : Ro) (acc : List D), I ds ρ -> acc.length + ds.length <= sizeLine -> W7 g c elt (ds.map f) ρ acc = some (acc ++ (ds.filter p).map G)
 | [], ρ, acc, h, hl => by simp [W7]
 | d :: ds, ρ, acc, h, hl => by
  obtain ⟨ρ1, h1, h2, h3, h4⟩ := hs d ds ρ h
  rw [length_cons] at hl
  rw [map_cons]
  unfold W7
  rw [h1]
  simp only [h2]
  cases hp : p d with
  | false =>
   simp only
   rw [Y0 I hs ds ρ1 acc h4 (by omega), filter_cons, hp]
   rfl
  | true =>
   simp only [h3 hp]
   rw [if_pos (by omega), Y0 I hs ds ρ1 _ h4 (by simp; omega), filter_cons, hp]
   simp
theorem zq0 {x y : MB} {ρ : Ro} {a b : Bool} (h1 : x ρ = some a) (h2 : y ρ = some b) : cor x y ρ = some (a || b) := by
 unfold cor; rw [h1]; cases a <;> simp [h2]
theorem yp0 {x y : MB} {ρ : Ro} {a b : Bool} (h1 : x ρ = some a) (h2 : y ρ = some b) : cand x y ρ = some (a && b) := by
 unfold cand; rw [h1]; cases a <;> simp [h2]
theorem j9 {i : Nat} {x : ME} {ρ : Ro} {d : D} (h : x ρ = some d) : mset i x ρ = some (.nx (ρ.set i (some (.sh d)))) := by unfold mset; rw [h]; rfl
theorem p8 {m : ML} {ρ : Ro} {ds : List D} (h : m ρ = some ds) : mlst m ρ = some (.lst ds) := by unfold mlst; rw [h]; rfl
theorem v5 {m : ML} {ρ : Ro} {ds : List D} (h : m ρ = some ds) (hz : ds.length <= sizeLine) : w9 m ρ = some ds := by
 unfold w9; rw [h]; show (if ds.length <= sizeLine then some ds else none) = _; rw [if_pos hz]
theorem i5 {m : ML} {i : ME} {ρ : Ro} {ds : List D} {k : Int} {d : D} (h1 : m ρ = some ds) (h2 : i ρ = some (.int k)) (h3 : atI ds k = some d) : mix m i ρ = some d := by
 unfold mix; rw [h1, h2]; exact h3
theorem yq9 {x y : MB} {ρ : Ro} (h : x ρ = some false) : cand x y ρ = some false := by unfold cand; rw [h]
theorem i8 {m : ME} {ρ : Ro} {ds : List D} (h : m ρ = some (.lst ds)) : l6 m ρ = some ds := by unfold l6; rw [h]
theorem zn9 {x y : ML} {ρ : Ro} {ds es : List D} (h1 : x ρ = some ds) (h2 : y ρ = some es) (hz : ds.length + es.length <= sizeLine) : mcat x y ρ = some (ds ++ es) := by
 unfold mcat; rw [h1, h2]; show (if ds.length + es.length <= sizeLine then some (ds ++ es) else none) = _; rw [if_pos hz]
theorem S4 {m : ML} {ρ : Ro} {ds : List D} (h : m ρ = some ds) (hz : ds.length <= sizeLine) : mtup m ρ = some (.tup ds) := by
 unfold mtup; rw [v5 h hz]; rfl
theorem Z0 {x : ME} {ρ : Ro} {d : D} (h : x ρ = some d) : mret x ρ = some (.rt d) := by unfold mret; rw [h]; rfl
theorem xh0 (xs : List Int) : eqFD true (.lst (xs.map .int)) (.lst (xs.map .int)) = some (.bl false) := by
 unfold eqFD
 rw [xg0 6]; rfl
section
open PySem L2
theorem yd0 {c : MB} {x y : MS} {ρ : Ro} {b : Bool} (h : c ρ = some b) : mif c x y ρ = (if b then x else y) ρ := by unfold mif; rw [h]; cases b <;> rfl
theorem Q5 {x : ME} {ρ : Ro} {d : D} (h : x ρ = some d) : U9 x ρ = some (.nx ρ) := by unfold U9; rw [h]; rfl
theorem xp8 {x : ME} {ρ : Ro} {i k : Int} (h : x ρ = some (.int i)) : v7 (m2 eqSD x (mc (.int k))) ρ = some (i == k) := by unfold v7 m2 mc; rw [h]; rfl
theorem yf4 {x y : ME} {ρ : Ro} {i k : Int} (h : x ρ = some (.int i)) (h2 : y ρ = some (.int k)) : v7 (m2 ltD x y) ρ = some (decide (i < k)) := by unfold v7 m2; rw [h, h2]; rfl
end
section
open PySem L2
def lx : List Nat -> List Nat -> Bool
 | [], [] => false
 | [], _ :: _ => true
 | _ :: _, [] => false
 | a :: l, b :: m => decide (a < b) || (a == b && lx l m)
def n5 (l m : List Nat) : Bool := decide (m.length < l.length) || (l.length == m.length && lx l m)
theorem ys4 : ∀ l, lx l l = false
 | [] => rfl
 | a :: l => by unfold lx; simp [ys4 l]
theorem zg7 : ∀ {a b c : List Nat}, lx a b = true -> lx b c = true -> lx a c = true
 | [], [], _, h, _ => by cases h
 | [], _ :: _, [], _, h => by cases h
 | [], _ :: _, _ :: _, _, _ => rfl
 | _ :: _, [], _, h, _ => by cases h
 | _ :: _, _ :: _, [], _, h => by cases h
 | a :: l, b :: m, c :: k, h1, h2 => by
  unfold lx at *
  simp only [Bool.or_eq_true, Bool.and_eq_true, decide_eq_true_eq, beq_iff_eq] at *
  rcases h1 with h1 | ⟨rfl, h1⟩ <;> rcases h2 with h2 | ⟨rfl, h2⟩
  ·exact .inl (by omega)
  ·exact .inl h1
  ·exact .inl h2
  ·exact .inr ⟨rfl, zg7 h1 h2⟩
theorem yd2 : ∀ (a b : List Nat), a = b \/ lx a b = true \/ lx b a = true
 | [], [] => .inl rfl
 | [], _ :: _ => .inr (.inl rfl)
 | _ :: _, [] => .inr (.inr rfl)
 | a :: l, b :: m => by
  unfold lx
  simp only [Bool.or_eq_true, Bool.and_eq_true, decide_eq_true_eq, beq_iff_eq]
  rcases Nat.lt_trichotomy a b with h | h | h
  ·exact .inr (.inl (.inl h))
  ·subst h
   rcases yd2 l m with h | h | h
   ·exact .inl (by rw [h])
   ·exact .inr (.inl (.inr ⟨rfl, h⟩))
   ·exact .inr (.inr (.inr ⟨rfl, h⟩))
  ·exact .inr (.inr (.inl h))
theorem g8 (l m : List Nat) : n5 l m = true ↔ m.length < l.length \/ (l.length = m.length /\ lx l m = true) := by
 unfold n5
 simp only [Bool.or_eq_true, Bool.and_eq_true, decide_eq_true_eq, beq_iff_eq]
theorem X8 {a b c : List Nat} (h1 : n5 a b = true) (h2 : n5 b c = true) : n5 a c = true := by
 rw [g8] at *
 rcases h1 with h1 | ⟨h1, h1'⟩ <;> rcases h2 with h2 | ⟨h2, h2'⟩
 ·exact .inl (by omega)
 ·exact .inl (by omega)
 ·exact .inl (by omega)
 ·exact .inr ⟨by omega, zg7 h1' h2'⟩
theorem E4 (a b : List Nat) : a = b \/ n5 a b = true \/ n5 b a = true := by
 rw [g8, g8]
 rcases Nat.lt_trichotomy a.length b.length with h | h | h
 ·exact .inr (.inr (.inl h))
 ·rcases yd2 a b with z | z | z
  ·exact .inl z
  ·exact .inr (.inl (.inr ⟨h, z⟩))
  ·exact .inr (.inr (.inr ⟨h.symm, z⟩))
 ·exact .inr (.inl (.inl h))
theorem V8 (a : List Nat) : n5 a a = false := by
 unfold n5; simp [ys4]
theorem za1 (p : Nat) (a b : List Nat) : n5 (p :: a) (p :: b) = n5 a b := by
 unfold n5
 simp [lx]
def Best (P : List Nat -> Prop) (l : List Nat) : Prop := P l /\ ∀ m, P m -> n5 m l = false
theorem Best.unique {P : List Nat -> Prop} {l m : List Nat} (a : Best P l) (b : Best P m) : l = m := by
 rcases E4 l m with h | h | h
 ·exact h
 ·have := b.2 l a.1; rw [h] at this; cases this
 ·have := a.2 m b.1; rw [h] at this; cases this
theorem Best.iff {P Q : List Nat -> Prop} {l : List Nat} (a : Best P l) (h : ∀ m, P m ↔ Q m) : Best Q l := ⟨(h l).mp a.1, fun m hm => a.2 m ((h m).mpr hm)⟩
theorem Best.len {P : List Nat -> Prop} {l : List Nat} (a : Best P l) (m : List Nat) (h : P m) : m.length <= l.length := by
 have := a.2 m h
 rcases Nat.lt_or_ge l.length m.length with z | z
 ·rw [(g8 m l).mpr (.inl z)] at this; cases this
 ·exact z
def far (s : Int) (d : Bool) (a b : Int) : Prop := if d then s <= b - a else s <= a - b
instance (s : Int) (d : Bool) (a b : Int) : Decidable (far s d a b) := by unfold far; exact inferInstance
def Wd (x : Nat -> Int) (n : Nat) (s : Int) : Bool -> List Nat -> Prop
 | _, [] => False
 | _, [p] => p < n
 | d, p :: q :: l => p < q /\ far s d (x p) (x q) /\ Wd x n s (!d) (q :: l)
def Wv (x : Nat -> Int) (n : Nat) (s : Int) (l : List Nat) : Prop := l = [] \/ ∃ d, Wd x n s d l
def Hd (p : Nat) (l : List Nat) : Prop := ∃ m, l = p :: m
variable {x : Nat -> Int} {n : Nat} {s : Int}
theorem Wd.lt : ∀ {l : List Nat} {d : Bool} {p : Nat}, Wd x n s d (p :: l) -> p < n
 | [], d, p, h => h
 | q :: l, d, p, h => Nat.lt_trans h.1 h.2.2.lt
end
section
open PySem L2
def dN (p : Nat) : D := .int (p : Int)
def L (l : List Nat) : D := .lst (l.map dN)
def Ky (l : List Nat) : D := .tup [.int (-(l.length : Int)), L l]
theorem yd6 (k : Nat) (a b : Nat) : eqF (k + 1) (dN a) (dN b) = some (a == b) := by
 show some ((a : Int) == (b : Int)) = _
 congr 1
 rw [Bool.eq_iff_iff, beq_iff_eq, beq_iff_eq]
 omega
theorem za3 (k : Nat) : ∀ (l m : List Nat), l.length = m.length -> zipE (eqF (k + 1)) (l.map dN) (m.map dN) = some (l == m)
 | [], [], _ => rfl
 | [], _ :: _, h => by cases h
 | _ :: _, [], h => by cases h
 | a :: l, b :: m, h => by
  rw [map_cons, map_cons, zipE, yd6, za3 k l m (by simpa using h)]
  rfl
theorem ys8 (k : Nat) : ∀ (l m : List Nat), lexF (eqF (k + 1)) (ltF (k + 1)) (l.map dN) (m.map dN) = some (lx l m)
 | [], [] => rfl
 | [], _ :: _ => rfl
 | _ :: _, [] => rfl
 | a :: l, b :: m => by
  rw [map_cons, map_cons, lexF, yd6]
  unfold lx
  by_cases h : a = b
  ·subst h
   simp only [beq_self_eq_true, Nat.lt_irrefl, decide_false, Bool.true_and, Bool.false_or]
   exact ys8 k l m
  ·have e : (a == b) = false := by simpa using h
   rw [e]
   simp only [Bool.false_and, Bool.or_false]
   show some (decide ((a : Int) < (b : Int))) = _
   congr 1
   apply decide_eq_decide.mpr
   omega
theorem yd3 (l m : List Nat) : ltF 8 (Ky l) (Ky m) = some (n5 l m) := by
 show lexF (eqF 7) (ltF 7) [.int (-(l.length : Int)), L l] [.int (-(m.length : Int)), L m] = _
 rw [lexF, show eqF 7 (.int (-(l.length : Int))) (.int (-(m.length : Int))) = some (-(l.length : Int) == -(m.length : Int)) from rfl]
 unfold n5
 by_cases h : l.length = m.length
 ·rw [h]
  simp only [beq_self_eq_true, Nat.lt_irrefl, decide_false, Bool.true_and, Bool.false_or]
  have e : eqF 7 (L l) (L m) = some (l == m) := by
   show (if (l.map dN).length = (m.map dN).length then zipE (eqF 6) (l.map dN) (m.map dN) else some false) = _
   rw [if_pos (by simpa using h), za3 5 l m h]
  rw [lexF, e]
  by_cases hq : l = m
  ·subst hq
   simp only [beq_self_eq_true]
   rw [ys4]; rfl
  ·have e2 : (l == m) = false := by simpa using hq
   rw [e2]
   exact ys8 5 l m
 ·have e : (-(l.length : Int) == -(m.length : Int)) = false := by
   rw [beq_eq_false_iff_ne]; omega
  have e2 : (l.length == m.length) = false := by simpa using h
  rw [e, e2]
  simp only [Bool.false_and, Bool.or_false]
  show some (decide (-(l.length : Int) < -(m.length : Int))) = _
  congr 1
  apply decide_eq_decide.mpr
  omega
theorem zy5 {mk : D -> Option D} (hk : ∀ l, mk (L l) = some (Ky l)) : ∀ (ls : List (List Nat)) (b : List Nat), ∃ r, minF mk (ls.map L) (L b) (Ky b) = some (L r) /\ r ∈ b :: ls /\ ∀ m ∈ b :: ls, n5 m r = false
 | [], b => ⟨b, rfl, by simp, by simp [V8]⟩
 | m :: ls, b => by
  rw [map_cons]
  unfold minF
  rw [hk m]
  simp only [yd3 m b]
  cases h : n5 m b with
  | true =>
   obtain ⟨r, e, h1, h2⟩ := zy5 hk ls m
   refine ⟨r, e, mem_cons_of_mem _ h1, fun k hk' => ?_⟩
   rcases List.mem_cons.mp hk' with rfl | hk'
   ·cases z : n5 k r with
    | false => rfl
    | true => have := h2 m (by simp); rw [X8 h z] at this; cases this
   ·exact h2 k hk'
  | false =>
   obtain ⟨r, e, h1, h2⟩ := zy5 hk ls b
   refine ⟨r, e, ?_, fun k hk' => ?_⟩
   ·rcases List.mem_cons.mp h1 with h1 | h1
    ·simp [h1]
    ·simp [h1]
   ·have hb := h2 b (by simp)
    rcases List.mem_cons.mp hk' with rfl | hk'
    ·exact hb
    ·rcases List.mem_cons.mp hk' with rfl | hk'
     ·cases z : n5 k r with
      | false => rfl
      | true =>
       rcases E4 k b with w | w | w
       ·rw [w, hb] at z; cases z
       ·rw [h] at w; cases w
       ·rw [X8 w z] at hb; cases hb
     ·exact h2 k (mem_cons_of_mem _ hk')
abbrev xr (row : List Int) : Nat -> Int := fun i => row.getD i 0
theorem zi7 {x y : ME} {ρ : Ro} {i j : Int} (h1 : x ρ = some (.int i)) (h2 : y ρ = some (.int j)) : v7 (m2 geD x y) ρ = some (decide (j <= i)) := by
 unfold v7 m2; rw [h1, h2]; rfl
theorem i4 {m : ML} {ρ : Ro} {ds : List D} (h : m ρ = some ds) : mlen m ρ = some (.int ds.length) := by unfold mlen; rw [h]; rfl
theorem at_L (U : List (List Nat)) (p : Nat) (h : p < U.length) : atI (U.map L) (p : Int) = some (L (U.getD p [])) := by
 have := zw2 L U (p : Int) (by omega) (by omega) []
 rw [Int.toNat_natCast] at this
 exact this
theorem zm9 (n p : Nat) (h : p < n) : ixN n (p : Int) = some p := by
 unfold ixN
 rw [if_pos (by omega), if_pos (by omega), Int.toNat_natCast]
theorem X5 (U : List (List Nat)) (p q : Nat) (l : List Nat) (h : p ≠ q) : (U.set p l).getD q [] = U.getD q [] := by
 rw [getD_eq_getElem?_getD, getD_eq_getElem?_getD, getElem?_set_ne h]
theorem h6 (U : List (List Nat)) (p : Nat) (l : List Nat) (h : p < U.length) : (U.set p l).getD p [] = l := by
 rw [getD_eq_getElem?_getD, getElem?_set_self h]; rfl
end
section
open PySem L2
theorem n6 (step : Int) (h : 1 <= step) : zy7 [.int step] = some (.sh .non) := by
 have : ¬ step < 1 := by omega
 unfold zy7 xs4
 simp_arith [this, decide_false]
theorem zo3 {j : Int} (h : okR j = true) : rngD [.int j] = some (D5 j.toNat) := by
 unfold rngD
 simp only [h, if_true]
theorem xi3 (l : List Nat) : m_Z9 [L l] = some (.sh (Ky l)) := by
 unfold m_Z9 b_Z9
 have i2 : 0 + 1 + 1 <= sizeLine := v4 (by decide)
 refine j5 ?_
 unfold L
 simp_arith [i2, if_true, length_map]
 rfl
theorem zg2 {U : List (List Nat)} {m : List Nat} (h : m ∈ U) : ∃ q, q < U.length /\ m = U.getD q [] := by
 obtain ⟨q, hq, e⟩ := getElem_of_mem h
 exact ⟨q, hq, by rw [getD_eq_getElem?_getD, getElem?_eq_getElem hq, <- e]; rfl⟩
theorem zf0 {U : List (List Nat)} {q : Nat} (h : q < U.length) : U.getD q [] ∈ U := by
 rw [getD_eq_getElem?_getD, getElem?_eq_getElem h]; exact getElem_mem h
end
section
open PySem L2
def NI (cs : List Nat) : List Int := cs.map fun (c : Nat) => (c : Int)
end
section
open PySem L2
def Sd (x : Nat -> Int) (n : Nat) (s : Int) : List Nat -> Nat -> Bool -> Prop
 | [], _, _ => False
 | [p], _, _ => p < n
 | p :: q :: l, t, d => p < q /\ far s d (x p) (x q) /\ (Sd x n s (q :: l) t d \/ ∃ u, t = u + 1 /\ Sd x n s (q :: l) u (!d))
variable {x : Nat -> Int} {n : Nat} {s : Int}
theorem Sd.lt : ∀ {l : List Nat} {p t : Nat} {d : Bool}, Sd x n s (p :: l) t d -> p < n
 | [], _, _, _, h => h
 | q :: l, p, t, d, h => by
  rcases h.2.2 with z | ⟨u, _, z⟩
  ·exact Nat.lt_trans h.1 z.lt
  ·exact Nat.lt_trans h.1 z.lt
theorem Sd.mono : ∀ {l : List Nat} {t u : Nat} {d : Bool}, Sd x n s l t d -> t <= u -> Sd x n s l u d
 | [], _, _, _, h, _ => h
 | [p], _, _, _, h, _ => h
 | p :: q :: l, t, u, d, h, hu => by
  refine ⟨h.1, h.2.1, ?_⟩
  rcases h.2.2 with z | ⟨v, e, z⟩
  ·exact .inl (z.mono hu)
  ·exact .inr ⟨u - 1, by omega, z.mono (by omega)⟩
theorem Sd.len : ∀ {l : List Nat} {p t : Nat} {d : Bool}, Sd x n s (p :: l) t d -> l.length + p < n
 | [], p, _, _, h => by have h : p < n := h; simpa using h
 | q :: l, p, t, d, h => by
  have h1 := h.1
  have : l.length + q < n := by
   rcases h.2.2 with z | ⟨u, _, z⟩
   ·exact z.len
   ·exact z.len
  simp; omega
theorem Sd.enough : ∀ {l : List Nat} {t : Nat} {d : Bool}, Sd x n s l t d -> Sd x n s l l.length d
 | [], _, _, h => h
 | [p], _, _, h => h
 | p :: q :: l, t, d, h => by
  refine ⟨h.1, h.2.1, ?_⟩
  rcases h.2.2 with z | ⟨v, e, z⟩
  ·exact .inl (z.enough.mono (by simp))
  ·exact .inr ⟨(q :: l).length, rfl, z.enough⟩
def FS (x : Nat -> Int) (n : Nat) (s : Int) (t : Nat) (d : Bool) (p : Nat) (l : List Nat) : Prop := Sd x n s l t d /\ Hd p l
def FR (x : Nat -> Int) (n : Nat) (s : Int) (t : Nat) (d : Bool) (p : Nat) (l : List Nat) : Prop := (Sd x n s l t d \/ ∃ u, t = u + 1 /\ Sd x n s l u (!d)) /\ Hd p l
theorem zp5 (l : List Nat) (h : l ≠ []) : n5 [] l = false := by
 cases l with
 | nil => exact absurd rfl h
 | cons a l =>
  cases e : n5 [] (a :: l) with
  | false => rfl
  | true =>
   rw [g8] at e
   simp only [length_nil, length_cons] at e
   omega
theorem ahead_false {a b : List Nat} : n5 a b = false ↔ a = b \/ n5 b a = true := by
 constructor
 ·intro h
  rcases E4 a b with z | z | z
  ·exact .inl z
  ·rw [h] at z; cases z
  ·exact .inr z
 ·rintro (z | z)
  ·rw [z]; exact V8 _
  ·cases e : n5 a b with
   | false => rfl
   | true => have := X8 e z; rw [V8] at this; cases this
theorem U7 {a b c : List Nat} (h1 : n5 a b = false) (h2 : n5 b c = false) : n5 a c = false := by
 rw [ahead_false] at *
 rcases h1 with rfl | h1
 ·exact h2
 ·rcases h2 with rfl | h2
  ·exact .inr h1
  ·exact .inr (X8 h2 h1)
theorem yg6 {P Q R : List Nat -> Prop} {a b c : List Nat} (ha : Best P a) (hb : Best Q b) (hc : c = if n5 b a = true then b else a) (hR : ∀ l, R l ↔ P l \/ Q l) : Best R c := by
 subst hc
 cases h : n5 b a with
 | true =>
  simp only [if_true]
  exact ⟨(hR _).mpr (.inr hb.1), fun m hm => by
   rcases (hR m).mp hm with z | z
   ·exact U7 (ha.2 m z) (ahead_false.mpr (.inr h))
   ·exact hb.2 m z⟩
 | false =>
  simp only [Bool.false_eq_true, if_false]
  exact ⟨(hR _).mpr (.inl ha.1), fun m hm => by
   rcases (hR m).mp hm with z | z
   ·exact ha.2 m z
   ·exact U7 (hb.2 m z) h⟩
def fl : List (List Nat) -> List Nat -> List Nat
 | [], b => b
 | m :: ls, b => if b.length < m.length then fl ls m else fl ls b
theorem zk4 : ∀ (ls : List (List Nat)) (b : List Nat), (b :: ls).Pairwise (fun a c => lx a c = true) -> fl ls b ∈ b :: ls /\ ∀ m ∈ b :: ls, n5 m (fl ls b) = false
 | [], b, _ => ⟨by simp [fl], by simp [fl, V8]⟩
 | m :: ls, b, h => by
  have hp := List.pairwise_cons.mp h
  unfold fl
  by_cases hl : b.length < m.length
  ·rw [if_pos hl]
   obtain ⟨h1, h2⟩ := zk4 ls m hp.2
   refine ⟨mem_cons_of_mem _ h1, fun k hk => ?_⟩
   rcases List.mem_cons.mp hk with rfl | hk
   ·exact U7 (ahead_false.mpr (.inr ((g8 m k).mpr (.inl hl)))) (h2 m (by simp))
   ·exact h2 k hk
  ·rw [if_neg hl]
   have hs : (b :: ls).Pairwise (fun a c => lx a c = true) := List.pairwise_cons.mpr ⟨fun c hc => hp.1 c (by simp [hc]), (List.pairwise_cons.mp hp.2).2⟩
   obtain ⟨h1, h2⟩ := zk4 ls b hs
   refine ⟨?_, fun k hk => ?_⟩
   ·rcases List.mem_cons.mp h1 with z | z
    ·rw [z]; simp
    ·simp [z]
   ·rcases List.mem_cons.mp hk with rfl | hk
    ·exact h2 k (by simp)
    ·rcases List.mem_cons.mp hk with rfl | hk
     ·refine U7 (b := b) ?_ (h2 b (by simp))
      refine ahead_false.mpr (.inr ((g8 b k).mpr ?_))
      rcases Nat.lt_or_ge k.length b.length with z | z
      ·exact .inl z
      ·exact .inr ⟨by omega, hp.1 k (by simp)⟩
     ·exact h2 k (by simp [hk])
def flD : List (List Nat) -> List Nat
 | [] => []
 | m :: ls => fl ls m
theorem yi7 {a b : Nat} {l m : List Nat} (h : a < b) : lx (a :: l) (b :: m) = true := by
 unfold lx; simp [h]
theorem yp7 {t : Nat} {d : Bool} {p : Nat} {qs : List Nat} {R : Nat -> List Nat} (hp : p < n) (hq : ∀ q, q ∈ qs ↔ p < q /\ q < n /\ far s d (x p) (x q)) (hr : qs.Pairwise (· < ·)) (hR : ∀ q ∈ qs, Best (FR x n s t d q) (R q)) :
  Best (FS x n s t d p) (p :: flD (qs.map R)) := by
 have hd : ∀ q ∈ qs, ∃ m, R q = q :: m := fun q h => (hR q h).1.2
 cases qs with
 | nil =>
  refine ⟨⟨hp, [], rfl⟩, ?_⟩
  rintro m ⟨h1, k, rfl⟩
  cases k with
  | nil => exact V8 _
  | cons q k =>
   exfalso
   have hlt : q < n := by
    rcases h1.2.2 with z | ⟨u, _, z⟩
    ·exact z.lt
    ·exact z.lt
   have := (hq q).mpr ⟨h1.1, hlt, h1.2.1⟩
   cases this
 | cons q0 qs =>
  have pw : ((q0 :: qs).map R).Pairwise (fun a c => lx a c = true) := by
   rw [pairwise_map]
   refine hr.imp_of_mem fun {a b} ha hb hab => ?_
   obtain ⟨m1, e1⟩ := hd a ha
   obtain ⟨m2, e2⟩ := hd b hb
   rw [e1, e2]
   exact yi7 hab
  obtain ⟨h1, h2⟩ := zk4 (qs.map R) (R q0) (by simpa using pw)
  have h1 : flD ((q0 :: qs).map R) ∈ (q0 :: qs).map R := by simpa [flD] using h1
  have h2 : ∀ m ∈ (q0 :: qs).map R, n5 m (flD ((q0 :: qs).map R)) = false := by simpa [flD] using h2
  obtain ⟨q, hqm, e⟩ := List.mem_map.mp h1
  have hb := hR q hqm
  obtain ⟨m, em⟩ := hd q hqm
  obtain ⟨a1, a2, a3⟩ := (hq q).mp hqm
  rw [<- e]
  rw [<- e] at h2
  refine ⟨⟨?_, _, rfl⟩, ?_⟩
  ·rw [em]
   refine ⟨a1, a3, ?_⟩
   rw [<- em]
   exact hb.1.1
  ·rintro k ⟨g1, g2, rfl⟩
   cases g2 with
   | nil =>
    refine ahead_false.mpr (.inr ((g8 _ _).mpr (.inl ?_)))
    rw [em]; simp
   | cons r g2 =>
    rw [za1]
    have hlt : r < n := by
     rcases g1.2.2 with z | ⟨u, _, z⟩
     ·exact z.lt
     ·exact z.lt
    have hrm := (hq r).mpr ⟨g1.1, hlt, g1.2.1⟩
    exact U7 ((hR r hrm).2 (r :: g2) ⟨g1.2.2, _, rfl⟩) (h2 _ (List.mem_map.mpr ⟨r, hrm, rfl⟩))
def Tn (x : Nat -> Int) (n : Nat) (s : Int) (t : Nat) (l : List Nat) : Prop := l = [] \/ ∃ d, Sd x n s l t d
theorem Tn.mono {t u : Nat} {l : List Nat} (h : Tn x n s t l) (hu : t <= u) : Tn x n s u l := h.imp id fun ⟨d, z⟩ => ⟨d, z.mono hu⟩
theorem Tn.all {t : Nat} {l : List Nat} (h : Tn x n s t l) : Tn x n s n l := by
 rcases h with h | ⟨d, h⟩
 ·exact .inl h
 ·refine .inr ⟨d, h.enough.mono ?_⟩
  cases l with
  | nil => simp
  | cons p l => have := h.len; simp; omega
theorem zb8 {t : Nat} {l : List Nat} {ls : List (List Nat)} (hm : l ∈ ls) (hmin : ∀ m ∈ ls, n5 m l = false) (hw : ∀ m ∈ ls, Tn x n s t m) (hall : ∀ d p, p < n -> ∃ m ∈ ls, Best (FS x n s t d p) m) (hn : l ≠ []) : Best (Tn x n s t) l := by
 refine ⟨hw l hm, fun m h => ?_⟩
 rcases h with rfl | ⟨d, h⟩
 ·exact zp5 l hn
 ·cases m with
  | nil => exact h.elim
  | cons p m =>
   obtain ⟨k, hk, hb⟩ := hall d p h.lt
   exact U7 (hb.2 _ ⟨h, _, rfl⟩) (hmin k hk)
theorem zj4 {t : Nat} (hn : n = 0) : Best (Tn x n s t) [] := by
 refine ⟨.inl rfl, fun m h => ?_⟩
 rcases h with rfl | ⟨d, h⟩
 ·rfl
 ·cases m with
  | nil => exact h.elim
  | cons p m => have := h.lt; omega
end
section
open PySem L2
def St (x : Nat -> Int) (n : Nat) (s : Int) : List Nat -> Prop
 | [] => True
 | [p] => p < n
 | p :: q :: l => p < q /\ s <= ((x q - x p).natAbs : Int) /\ St x n s (q :: l)
def tnN (x : Nat -> Int) : List Nat -> Nat
 | p :: q :: r :: l => (if 0 < (x q - x p) * (x q - x r) then 1 else 0) + tnN x (q :: r :: l)
 | _ => 0
theorem yw2 {a b : Int} (ha : a ≠ 0) (hb : b ≠ 0) : 0 < a * b ↔ (0 < a ↔ 0 < b) := by
 rcases Int.lt_or_lt_of_ne ha with h1 | h1 <;> rcases Int.lt_or_lt_of_ne hb with h2 | h2
 ·have := Int.mul_pos_of_neg_of_neg h1 h2
  exact ⟨fun _ => by omega, fun _ => this⟩
 ·have := Int.mul_neg_of_neg_of_pos h1 h2
  exact ⟨fun h => by omega, fun h => by omega⟩
 ·have := Int.mul_neg_of_pos_of_neg h1 h2
  exact ⟨fun h => by omega, fun h => by omega⟩
 ·have := Int.mul_pos h1 h2
  exact ⟨fun _ => by omega, fun _ => this⟩
section
variable {x : Nat -> Int} {n : Nat} {s : Int}
theorem yq2 (hs : 1 <= s) (d : Bool) (a b : Int) : far s d a b ↔ s <= ((b - a).natAbs : Int) /\ d = decide (0 < b - a) := by
 unfold far
 cases d
 ·simp only [Bool.false_eq_true, if_false]
  constructor
  ·intro h; exact ⟨by omega, (decide_eq_false (by omega)).symm⟩
  ·rintro ⟨h1, h2⟩
   have := of_decide_eq_false h2.symm
   omega
 ·simp only [if_true]
  constructor
  ·intro h; exact ⟨by omega, (decide_eq_true (by omega)).symm⟩
  ·rintro ⟨h1, h2⟩
   have := of_decide_eq_true h2.symm
   omega
theorem yy0 (hs : 1 <= s) : ∀ (l : List Nat) (t : Nat) (d : Bool), Sd x n s l t d ↔ l ≠ [] /\ St x n s l /\ tnN x l <= t /\ ∀ p q m, l = p :: q :: m -> d = decide (0 < x q - x p)
 | [], t, d => ⟨fun h => h.elim, fun h => absurd rfl h.1⟩
 | [p], t, d => ⟨fun h => ⟨by simp, h, Nat.zero_le _, fun _ _ _ e => by simp at e⟩, fun h => h.2.1⟩
 | p :: q :: l, t, d => by
  have ih := yy0 hs (q :: l)
  show (p < q /\ far s d (x p) (x q) /\ (Sd x n s (q :: l) t d \/ ∃ u, t = u + 1 /\ Sd x n s (q :: l) u (!d))) ↔ _
  rw [yq2 hs]
  constructor
  ·rintro ⟨h1, ⟨h2, h3⟩, h4⟩
   refine ⟨by simp, ⟨h1, h2, ?_⟩, ?_, fun p' q' m e => by cases e; exact h3⟩
   ·rcases h4 with h4 | ⟨u, _, h4⟩
    ·exact ((ih t d).mp h4).2.1
    ·exact ((ih u (!d)).mp h4).2.1
   ·cases l with
    | nil => exact Nat.zero_le _
    | cons r l =>
     show (if 0 < (x q - x p) * (x q - x r) then 1 else 0) + tnN x (q :: r :: l) <= t
     rcases h4 with h4 | ⟨u, e, h4⟩
     ·obtain ⟨_, g1, g2, g3⟩ := (ih t d).mp h4
      have g3 := g3 q r l rfl
      have g4 := g1.2.1
      have : ¬ 0 < (x q - x p) * (x q - x r) := by
       rw [yw2 (by omega) (by omega)]
       rw [h3] at g3
       have := decide_eq_decide.mp g3
       omega
      rw [if_neg this]; omega
     ·obtain ⟨_, g1, g2, g3⟩ := (ih u (!d)).mp h4
      split <;> omega
  ·rintro ⟨_, ⟨h1, h2, h3⟩, h4, h5⟩
   have hd := h5 p q l rfl
   refine ⟨h1, ⟨h2, hd⟩, ?_⟩
   cases l with
   | nil => exact .inl ((ih t d).mpr ⟨by simp, h3, Nat.zero_le _, fun _ _ _ e => by simp at e⟩)
   | cons r l =>
    have h4 : (if 0 < (x q - x p) * (x q - x r) then 1 else 0) + tnN x (q :: r :: l) <= t := h4
    have g4 := h3.2.1
    have key : (0 < (x q - x p) * (x q - x r)) ↔ ¬ (decide (0 < x q - x p) = decide (0 < x r - x q)) := by
     rw [yw2 (by omega) (by omega), decide_eq_decide]
     omega
    by_cases ht : 0 < (x q - x p) * (x q - x r)
    ·rw [if_pos ht] at h4
     refine .inr ⟨t - 1, by omega, (ih (t - 1) (!d)).mpr ⟨by simp, h3, by omega, fun p' q' m e => ?_⟩⟩
     cases e
     have := key.mp ht
     rw [<- hd] at this
     generalize decide (0 < x r - x q) = b at this ⊢
     cases d <;> cases b <;> simp_all
    ·rw [if_neg ht] at h4
     refine .inl ((ih t d).mpr ⟨by simp, h3, by omega, fun p' q' m e => ?_⟩)
     cases e
     have : decide (0 < x q - x p) = decide (0 < x r - x q) := by
      apply Classical.byContradiction
      intro z
      exact ht (key.mpr z)
     rw [hd, this]
theorem yz3 (hs : 1 <= s) (t : Nat) (l : List Nat) : Tn x n s t l ↔ St x n s l /\ tnN x l <= t := by
 constructor
 ·rintro (rfl | ⟨d, h⟩)
  ·exact ⟨True.intro, Nat.zero_le _⟩
  ·obtain ⟨_, a, b, _⟩ := (yy0 hs l t d).mp h
   exact ⟨a, b⟩
 ·rintro ⟨a, b⟩
  match l, a, b with
  | [], _, _ => exact .inl rfl
  | [p], a, b => exact .inr ⟨true, a⟩
  | p :: q :: m, a, b => exact .inr ⟨_, (yy0 hs _ t (decide (0 < x q - x p))).mpr ⟨by simp, a, b, fun p' q' m' e => by cases e; rfl⟩⟩
def xb4 (l : List Nat) : Nat := l.getLastD 0
def okS (x : Nat -> Int) (s : Int) (k : Nat) (l : List Nat) : Bool := l.isEmpty || decide (s <= ((x k - x (xb4 l)).natAbs : Int))
def stp (x : Nat -> Int) (s : Int) : Nat -> List (List Nat)
 | 0 => [[]]
 | k + 1 => stp x s k ++ ((stp x s k).filter (okS x s k)).map (· ++ [k])
end
end
section
open PySem L2
theorem k9 {f : D -> D -> Option D} {x y : ME} {ρ : Ro} {a b : D} (h1 : x ρ = some a) (h2 : y ρ = some b) : m2 f x y ρ = f a b := by
 unfold m2; rw [h1, h2]; rfl
theorem zg6 {α : Type} (f : Nat -> α) (j : Nat) : (List.range (j + 1)).map f = (List.range j).map f ++ [f j] := by
 rw [range_succ, map_append]; rfl
def abv (row : List Int) (s : Int) (d : Bool) (p : Nat) : List Nat := ((List.range (row.length - (p + 1))).map fun j => p + 1 + j).filter fun q => decide (far s d (xr row p) (xr row q))
theorem abv_mem {row : List Int} {s : Int} {d : Bool} {p q : Nat} : q ∈ abv row s d p ↔ p < q /\ q < row.length /\ far s d (xr row p) (xr row q) := by
 unfold abv
 rw [mem_filter, mem_map, decide_eq_true_eq]
 constructor
 ·rintro ⟨⟨j, hj, rfl⟩, h⟩
  have := List.mem_range.mp hj
  exact ⟨by omega, by omega, h⟩
 ·rintro ⟨h1, h2, h3⟩
  exact ⟨⟨q - (p + 1), List.mem_range.mpr (by omega), by omega⟩, h3⟩
theorem U0 (row : List Int) (s : Int) (d : Bool) (p : Nat) : (abv row s d p).length <= row.length := by
 unfold abv
 refine Nat.le_trans (length_filter_le _ _) ?_
 rw [length_map, length_range]; omega
def zr7 (row : List Int) (s : Int) (A B : List (List Nat)) (o4 o5 : Option S) : Ro := [some (.sh (.lst (row.map .int))), some (.sh (.int s)), some (.own (A.map L)), some (.own (B.map L)), o4, o5]
theorem ym0 (row : List Int) (p : Nat) (hr : row.length <= 300) (hp : p < row.length) : a7 ((p : Int) + 1) ((row.length : Int) - ((p : Int) + 1)).toNat = ((List.range (row.length - (p + 1))).map fun j => p + 1 + j).map dN := by
 rw [Y3, show ((row.length : Int) - ((p : Int) + 1)).toNat = row.length - (p + 1) by omega, map_map]
 apply map_congr_left
 intro i _
 show D.int _ = D.int _
 congr 1
theorem zd0 (row : List Int) (s : Int) (d : Bool) (p : Nat) (hr : row.length <= 300) (hp : p < row.length) (A B : List (List Nat)) (test : MB)
  (ht : ∀ q : Nat, q < row.length -> test [some (.sh (dN q)), some (.sh (.int s)), some (.sh (.int (xr row p))), some (.sh (.lst (row.map .int)))] = some (decide (far s d (xr row p) (xr row q)))) :
  Q6 [none, some 1, some 5, some 0] (r6 rng2 (z8 (m2 addD (mvar 4) (mc (.int 1))) (z8 (mlen (bvar 0)) anil))) (.nm 0) test (mvar 0) (zr7 row s A B (some (.sh (.int (p : Int)))) (some (.sh (.int (xr row p))))) = some ((abv row s d p).map dN) := by
 have k1 : okR ((p : Int) + 1) = true := Q3 (by omega) (by omega)
 have k2 : okR (row.length : Int) = true := Q3 (by omega) (by omega)
 have e1 : r6 rng2 (z8 (m2 addD (mvar 4) (mc (.int 1))) (z8 (mlen (bvar 0)) anil)) (zr7 row s A B (some (.sh (.int (p : Int)))) (some (.sh (.int (xr row p))))) = some (((List.range (row.length - (p + 1))).map fun j => p + 1 + j).map dN) := by
  unfold zr7
  simp_arith [length_map, yy6 k1 k2, ym0 row p hr hp]
 unfold Q6
 rw [e1, Option.bind_some]
 show W7 _ _ _ _ [none, some (.sh (.int s)), some (.sh (.int (xr row p))), some (.sh (.lst (row.map .int)))] [] = _
 rw [Y0 (f := dN) (p := fun q => decide (far s d (xr row p) (xr row q))) (G := dN) (fun qs ρ => (∀ q ∈ qs, q < row.length) /\ ∃ o, ρ = [o, some (.sh (.int s)), some (.sh (.int (xr row p))), some (.sh (.lst (row.map .int)))])
  (by
   rintro q qs ρ ⟨hq, o, rfl⟩
   exact ⟨_, rfl, ht q (hq q (by simp)), fun _ => rfl, fun r hr => hq r (by simp [hr]), _, rfl⟩) _ _ [] ⟨fun q hq => by
    obtain ⟨j, hj, rfl⟩ := List.mem_map.mp hq
    have := List.mem_range.mp hj
    omega, _, rfl⟩ (v4 (by simp; omega)), nil_append]
 rfl
theorem T5 (row : List Int) (s : Int) (hr : row.length <= 300) : zm6 [.lst (row.map .int), .int s] = some (.sh (.tup [.lst (((List.range row.length).map (abv row s true)).map L), .lst (((List.range row.length).map (abv row s false)).map L)])) := by
 unfold zm6 xs3
 refine X2 ?_
 have big := p5
 have i0 : 0 <= sizeLine := Nat.zero_le _
 have i2 : 2 <= sizeLine := v4 (by decide)
 refine x9 (ρ' := [some (.sh (.lst (row.map .int))), some (.sh (.int s)), some (.own []), none, none, none]) (by unfold f9; rw [v5 y4 i0]; rfl) ?_
 refine x9 (ρ' := zr7 row s [] [] none none) (by unfold f9; rw [v5 y4 i0]; rfl) ?_
 have ee : r6 zk7 (z8 (mvar 0) anil) (zr7 row s [] [] none none) = some ((List.range row.length).map fun (i : Nat) => D.tup [.int (i : Int), .int (xr row i)]) := by
  unfold r6
  rw [z6 (x := mvar 0) (d := .lst (row.map .int)) rfl y4, Option.bind_some]
  show some (O6 0 (row.map .int)) = _
  rw [zr8]
  congr 1
  apply map_congr_left
  intro i _
  rw [Nat.zero_add]
 refine l9 (U2 row.length (f := fun (i : Nat) => D.tup [.int (i : Int), .int (xr row i)]) ee
  (I := fun j ρ => ∃ o4 o5, ρ = zr7 row s ((List.range j).map (abv row s true)) ((List.range j).map (abv row s false)) o4 o5) _ ⟨_, _, rfl⟩ ?_ ?_)
 ·rintro j ρ hj ⟨o4, o5, rfl⟩
  refine ⟨zr7 row s ((List.range j).map (abv row s true)) ((List.range j).map (abv row s false)) (some (.sh (.int (j : Int)))) (some (.sh (.int (xr row j)))), rfl, ?_⟩
  unfold ze1
  have aj : ∀ q : Nat, q < row.length -> mix (bvar 3) (mvar 0) [some (.sh (dN q)), some (.sh (.int s)), some (.sh (.int (xr row j))), some (.sh (.lst (row.map .int)))] = some (.int (xr row q)) := fun q hq => i5 rfl rfl (ze5 row q hq)
  have c1 := zd0 row s true j hr hj ((List.range j).map (abv row s true)) ((List.range j).map (abv row s false)) (v7 (m2 geD (m2 subD (mix (bvar 3) (mvar 0)) (mvar 2)) (mvar 1))) (fun q hq => by
   rw [zi7 ((k9 (aj q hq) rfl).trans (show subD (.int (xr row q)) (.int (xr row j)) = some (.int (xr row q - xr row j)) from rfl)) rfl]
   unfold far; simp)
  have c2 := zd0 row s false j hr hj ((List.range (j + 1)).map (abv row s true)) ((List.range j).map (abv row s false)) (v7 (m2 geD (m2 subD (mvar 2) (mix (bvar 3) (mvar 0))) (mvar 1))) (fun q hq => by
   rw [zi7 ((k9 (show mvar 2 _ = some (.int (xr row j)) from rfl) (aj q hq)).trans (show subD (.int (xr row j)) (.int (xr row q)) = some (.int (xr row j - xr row q)) from rfl)) rfl]
   unfold far; simp)
  have app : ∀ (ρ : Ro) (i : Nat) (M : List (List Nat)) (m : ML) (l : List Nat), ρ[i]? = some (some (.own (M.map L))) -> m ρ = some (l.map dN) -> M.length < sizeLine -> mapp i (mlst m) ρ = some (.nx (ρ.set i (some (.own ((M ++ [l]).map L))))) := by
   intro ρ i M m l h1 h2 h3
   unfold mapp
   rw [h1, p8 h2]
   show (some (D.lst (l.map dN))).bind (fun d => if (M.map L).length < sizeLine then some (Out.nx (ρ.set i (some (.own (M.map L ++ [d]))))) else none) = _
   rw [Option.bind_some, if_pos (by rw [length_map]; exact h3), map_append]
   rfl
  refine x9 (ρ' := zr7 row s ((List.range (j + 1)).map (abv row s true)) ((List.range j).map (abv row s false)) (some (.sh (.int (j : Int)))) (some (.sh (.int (xr row j))))) ?_ ?_
  ·rw [app _ 2 _ _ _ rfl c1 (by simp; omega), <- zg6]
   rfl
  ·refine ⟨_, app _ 3 _ _ _ rfl c2 (by simp; omega), ?_⟩
   rw [<- zg6]
   exact ⟨_, _, rfl⟩
 ·rintro ρ ⟨o4, o5, rfl⟩
  unfold ze0
  refine k8 (ds := ((List.range row.length).map (abv row s false)).map L) rfl (k8 (ds := ((List.range row.length).map (abv row s true)).map L) rfl ⟨_, Z0 (S4 (z6 (d := .lst (((List.range row.length).map (abv row s true)).map L)) rfl (z6 (d := .lst (((List.range row.length).map (abv row s false)).map L)) rfl y4)) i2), rfl⟩)
end
section
open PySem L2
theorem zm2 : ∀ (ls : List (List Nat)) (b : List Nat), maxF (ls.map L) (L b) (.int (b.length : Int)) = some (L (fl ls b))
 | [], b => rfl
 | m :: ls, b => by
  rw [map_cons]
  unfold maxF
  have e : N1 (L m) = some (.int (m.length : Int)) := by
   show some (D.int ((m.map dN).length : Int)) = _
   rw [length_map]
  rw [e]
  show (match some (decide ((m.length : Int) > (b.length : Int))) with | some true => _ | some false => _ | none => _) = _
  unfold fl
  by_cases h : b.length < m.length
  ·rw [if_pos h, decide_eq_true (by omega)]
   exact zm2 ls m
  ·rw [if_neg h, decide_eq_false (by omega)]
   exact zm2 ls b
theorem xv1 (ls : List (List Nat)) : maxD (ls.map L) (.lst []) = some (L (flD ls)) := by
 cases ls with
 | nil => rfl
 | cons m ls =>
  show (match N1 (L m) with | some kd => maxF (ls.map L) (L m) kd | none => none) = _
  have e : N1 (L m) = some (.int (m.length : Int)) := by
   show some (D.int ((m.map dN).length : Int)) = _
   rw [length_map]
  rw [e]
  exact zm2 ls m
theorem O4 (R : List (List Nat)) (qs : List Nat) (hl : qs.length <= 1000) (hq : ∀ q ∈ qs, q < R.length) : m_Z1 [.lst (R.map L), .lst (qs.map dN)] = some (.sh (L (flD (qs.map fun q => R.getD q [])))) := by
 unfold m_Z1 b_Z1
 refine j5 ?_
 have e1 : Q6 [none, some 0] (l6 (mvar 1)) (.nm 0) cyes (mix (bvar 1) (mvar 0)) (v3 2 [.lst (R.map L), .lst (qs.map dN)]) = some ((qs.map fun q => R.getD q []).map L) := by
  unfold Q6
  rw [i8 (m := mvar 1) (ds := qs.map dN) rfl, Option.bind_some]
  refine (Q7 (f := dN) (G := fun q => L (R.getD q [])) (fun ks ρ => (∀ q ∈ ks, q < R.length) /\ ∃ o, ρ = [o, some (.sh (.lst (R.map L)))]) (by
   rintro q ks ρ ⟨h, o, rfl⟩
   exact ⟨[some (.sh (dN q)), some (.sh (.lst (R.map L)))], rfl, rfl, i5 (m := bvar 1) rfl rfl (at_L R q (h q (by simp))), fun r hr => h r (by simp [hr]), _, rfl⟩) qs _ [] ⟨hq, none, rfl⟩ (v4 (by simp; omega))).trans ?_
  rw [nil_append, map_map]
  rfl
 unfold mret
 rw [zc3 e1 (p8 (v5 y4 (Nat.zero_le _))), xv1]
 rfl
theorem xt3 {i : Nat} {m : ME} {ρ : Ro} {ds : List D} {d : D} (h : ρ[i]? = some (some (.own ds))) (h2 : m (ρ.set i (some (.sh (.lst ds)))) = some d) (h3 : yn1 ds d = true) : zm0 i m ρ = some d := by
 unfold zm0
 rw [h]
 simp only [h2, h3, if_true]
theorem xw3 (l : List Nat) : zt5 (l.map dN) = true := by
 induction l with
 | nil => rfl
 | cons a l ih => exact ih
theorem xp1 (R : List (List Nat)) (l : List Nat) (h : R ≠ []) : yn1 (R.map L) (L l) = true := by
 cases R with
 | nil => exact absurd rfl h
 | cons a R =>
  show (zt5 (l.map dN) && true) = true
  rw [xw3]; rfl
theorem A6 {i : Nat} {ix v : ME} {ρ : Ro} {A : List (List Nat)} {l : List Nat} {p : Nat} (h : ρ[i]? = some (some (.own (A.map L)))) (hi : ix ρ = some (.int (p : Int))) (hv : v ρ = some (L l)) (hp : p < A.length) : g7 i ix v ρ = some (.nx (ρ.set i (some (.own ((A.set p l).map L))))) := by
 unfold g7
 rw [hv, h, hi]
 show ((ixN (A.map L).length (p : Int)).map fun j => Out.nx (ρ.set i (some (.own ((A.map L).set j (L l)))))) = _
 rw [length_map, zm9 _ _ hp]
 show some (Out.nx _) = _
 rw [map_set]
theorem ek (l : List Nat) : shOf (m_Z9 [L l]) = some (Ky l) := by rw [xi3]; rfl
theorem ye9 {x y : ME} {ρ : Ro} {a b : List Nat} (h1 : x ρ = some (L a)) (h2 : y ρ = some (L b)) : J8 (fun d => shOf (m_Z9 [d])) (z8 x (z8 y anil)) ρ = some (L (if n5 b a = true then b else a)) := by
 rw [yu9 (z6 h1 (z6 h2 y4))]
 show (match shOf (m_Z9 [L a]) with | some kd => minF _ [L b] (L a) kd | none => none) = _
 rw [ek a]
 show minF (fun d => shOf (m_Z9 [d])) [L b] (L a) (Ky a) = _
 unfold minF
 simp only [ek b, yd3 b a]
 cases n5 b a <;> simp [minF]
abbrev RI (r : List Int) : D := .lst (r.map .int)
def Ab (row : List Int) (s : Int) (d : Bool) : List (List Nat) := (List.range row.length).map (abv row s d)
abbrev SP (row : List Int) (s : Int) : D := .tup [.lst ((Ab row s true).map L), .lst ((Ab row s false).map L)]
theorem E9 (row : List Int) (s : Int) (d : Bool) : (Ab row s d).length = row.length := by unfold Ab; simp
theorem yo6 (row : List Int) (s : Int) (d : Bool) (p : Nat) (h : p < row.length) : (Ab row s d).getD p [] = abv row s d p := by
 unfold Ab
 rw [getD_eq_getElem?_getD, getElem?_map, getElem?_range h]; rfl
theorem yf1 (row : List Int) (s : Int) (d : Bool) (p : Nat) : (abv row s d p).Pairwise (· < ·) := by
 unfold abv
 refine List.Pairwise.filter _ ?_
 rw [pairwise_map]
 exact (pairwise_lt_range).imp fun h => by omega
abbrev BS (row : List Int) (s : Int) (t : Nat) (d : Bool) (p : Nat) : List Nat -> Prop := Best (FS (xr row) row.length s t d p)
abbrev BR (row : List Int) (s : Int) (t : Nat) (d : Bool) (p : Nat) : List Nat -> Prop := Best (FR (xr row) row.length s t d p)
theorem BS.len {row : List Int} {s : Int} {t : Nat} {d : Bool} {p : Nat} {l : List Nat} (h : BS row s t d p l) : l.length <= row.length := by
 obtain ⟨a, m, rfl⟩ := h.1
 have := a.len
 simp; omega
def Few (row : List Int) (s : Int) (t : Nat) (U V : List (List Nat)) : Prop := U.length = row.length /\ V.length = row.length /\ ∀ q, q < row.length -> (t = 0 /\ U.getD q [] = [] /\ V.getD q [] = []) \/ ∃ u, t = u + 1 /\ BS row s u true q (U.getD q []) /\ BS row s u false q (V.getD q [])
theorem zs9 {row : List Int} {s : Int} {t : Nat} {d : Bool} {q : Nat} {a b : List Nat} (ha : BS row s t d q a) (hb : (t = 0 /\ b = []) \/ ∃ u, t = u + 1 /\ BS row s u (!d) q b) : BR row s t d q (if n5 b a = true then b else a) := by
 rcases hb with ⟨ht, rfl⟩ | ⟨u, ht, hb⟩
 ·have hne : a ≠ [] := by
   obtain ⟨_, m, e⟩ := ha.1
   rw [e]; simp
  rw [zp5 a hne]
  simp only [Bool.false_eq_true, if_false]
  refine ha.iff fun m => ⟨fun h => ⟨.inl h.1, h.2⟩, fun h => ⟨?_, h.2⟩⟩
  rcases h.1 with z | ⟨u, e, _⟩
  ·exact z
  ·omega
 ·refine yg6 ha hb rfl fun l => ?_
  constructor
  ·rintro ⟨z | ⟨v, e, z⟩, hd⟩
   ·exact .inl ⟨z, hd⟩
   ·have : v = u := by omega
    subst this
    exact .inr ⟨z, hd⟩
  ·rintro (⟨z, hd⟩ | ⟨z, hd⟩)
   ·exact ⟨.inl z, hd⟩
   ·exact ⟨.inr ⟨u, ht, z⟩, hd⟩
def envT (row : List Int) (s : Int) (fU fV U V R G : List (List Nat)) (o : Option S) : Ro :=
 [some (.sh (SP row s)), some (.sh (.tup [.lst (fU.map L), .lst (fV.map L)])), some (.sh (.lst ((Ab row s true).map L))), some (.sh (.lst ((Ab row s false).map L))), some (.sh (.lst (fU.map L))), some (.sh (.lst (fV.map L))), some (.own (U.map L)), some (.own (V.map L)), some (.own (R.map L)), some (.own (G.map L)), o]
structure Tnd (row : List Int) (s : Int) (t p : Nat) (U V R G : List (List Nat)) : Prop where
 lU : U.length = row.length
 lV : V.length = row.length
 lR : R.length = row.length
 lG : G.length = row.length
 at' : ∀ q, p <= q -> q < row.length -> BS row s t true q (U.getD q []) /\ BS row s t false q (V.getD q []) /\ BR row s t true q (R.getD q []) /\ BR row s t false q (G.getD q [])
theorem yz2 {row : List Int} {s : Int} {t p : Nat} {fU fV U V R G : List (List Nat)} {o : Option S} (hr : row.length <= 300) (hp : p < row.length) (hf : Few row s t fU fV) (h : Tnd row s t (p + 1) U V R G) :
  ∃ U' V' R' G', zj5 (envT row s fU fV U V R G (some (.sh (.int (p : Int))))) = some (.nx (envT row s fU fV U' V' R' G' (some (.sh (.int (p : Int)))))) /\ Tnd row s t p U' V' R' G' := by
 have i1 : 0 + 1 <= sizeLine := v4 (by decide)
 have stp : ∀ (d : Bool) (T : List (List Nat)), T.length = row.length -> (∀ q, p + 1 <= q -> q < row.length -> BR row s t d q (T.getD q [])) -> BS row s t d p (p :: flD ((abv row s d p).map fun q => T.getD q [])) := fun d T hT hb =>
  yp7 hp (fun q => abv_mem) (yf1 row s d p) fun q hq => by
   obtain ⟨a, b, _⟩ := abv_mem.mp hq
   exact hb q a b
 have ab : ∀ (d : Bool), ∀ q ∈ abv row s d p, q < row.length := fun d q hq => (abv_mem.mp hq).2.1
 have bU := stp true R h.lR fun q a b => (h.at' q a b).2.2.1
 have bV := stp false G h.lG fun q a b => (h.at' q a b).2.2.2
 generalize eU : flD ((abv row s true p).map fun q => R.getD q []) = u at bU
 generalize eV : flD ((abv row s false p).map fun q => G.getD q []) = v at bV
 have lu : u.length + 1 <= row.length := by have := bU.len; simpa using this
 have lv : v.length + 1 <= row.length := by have := bV.len; simpa using this
 obtain ⟨f1, f2, f3⟩ := hf
 have jU := zs9 (b := fV.getD p []) bU (by
  rcases f3 p hp with ⟨a, _, b⟩ | ⟨w, a, _, b⟩
  ·exact .inl ⟨a, b⟩
  ·exact .inr ⟨w, a, b⟩)
 have jV := zs9 (b := fU.getD p []) bV (by
  rcases f3 p hp with ⟨a, b, _⟩ | ⟨w, a, b, _⟩
  ·exact .inl ⟨a, b⟩
  ·exact .inr ⟨w, a, b⟩)
 have rne : R ≠ [] := fun z => by have := h.lR; rw [z] at this; simp at this; omega
 have gne : G ≠ [] := fun z => by have := h.lG; rw [z] at this; simp at this; omega
 refine ⟨U.set p (p :: u), V.set p (p :: v), R.set p (if n5 (fV.getD p []) (p :: u) = true then fV.getD p [] else p :: u), G.set p (if n5 (fU.getD p []) (p :: v) = true then fU.getD p [] else p :: v), ?_, ?_⟩
 ·unfold zj5
  have told : ∀ (ρ : Ro) (i k : Nat) (d : Bool) (T : List (List Nat)), ρ[i]? = some (some (.own (T.map L))) -> i ≠ 10 -> i ≠ k -> k ≠ 10 -> i < 11 -> ρ.length = 11 -> ρ[k]? = some (some (.sh (.lst ((Ab row s d).map L)))) -> ρ[10]? = some (some (.sh (.int (p : Int)))) -> T.length = row.length -> T ≠ [] ->
    l6 (zm0 i (u0 m_Z1 (z8 (mvar i) (z8 (mix (bvar k) (mvar 10)) anil)))) ρ = some ((flD ((abv row s d p).map fun q => T.getD q [])).map dN) := by
   intro ρ i k d T hi h10 hik hk10 hi11 hl hk hp10 lT hT
   refine i8 (xt3 hi ?_ (xp1 T _ hT))
   have g1 : mvar i (ρ.set i (some (.sh (.lst (T.map L))))) = some (.lst (T.map L)) := by
    unfold mvar
    rw [getElem?_set_self (by omega)]
   have g2 : mix (bvar k) (mvar 10) (ρ.set i (some (.sh (.lst (T.map L))))) = some (L (abv row s d p)) := by
    refine i5 (ds := (Ab row s d).map L) (k := (p : Int)) ?_ ?_ ?_
    ·unfold bvar; rw [getElem?_set_ne hik, hk]
    ·unfold mvar; rw [getElem?_set_ne h10, hp10]
    ·rw [at_L _ p (by rw [E9]; exact hp), yo6 row s d p hp]
   exact w6 (z6 g1 (z6 g2 y4)) (O4 T (abv row s d p) (by have := U0 row s d p; omega) fun q hq => by have := ab d q hq; omega)
  have put : ∀ (ρ : Ro) (m : ML) (w : List Nat), ρ[10]? = some (some (.sh (.int (p : Int)))) -> m ρ = some (w.map dN) -> w.length + 1 <= row.length -> mlst (mcat (w9 (z8 (mvar 10) anil)) m) ρ = some (L (p :: w)) := by
   intro ρ m w h10 hm hw
   have g : mvar 10 ρ = some (.int (p : Int)) := by unfold mvar; rw [h10]
   rw [p8 (zn9 (v5 (z6 g y4) i1) hm (by rw [length_map, length_singleton]; exact v4 (by omega)))]
   rfl
  refine seqI (ρ' := envT row s fU fV (U.set p (p :: u)) V R G (some (.sh (.int (p : Int))))) ?_ (seqI (ρ' := envT row s fU fV (U.set p (p :: u)) (V.set p (p :: v)) R G (some (.sh (.int (p : Int))))) ?_ (seqI (ρ' := envT row s fU fV (U.set p (p :: u)) (V.set p (p :: v)) (R.set p (if n5 (fV.getD p []) (p :: u) = true then fV.getD p [] else p :: u)) G (some (.sh (.int (p : Int))))) ?_ ?_))
  ·exact A6 (A := U) rfl rfl (put _ _ u rfl (by rw [told _ 8 2 true R rfl (by decide) (by decide) (by decide) (by decide) rfl rfl rfl h.lR rne, eU]) lu) (by rw [h.lU]; exact hp)
  ·exact A6 (A := V) rfl rfl (put _ _ v rfl (by rw [told _ 9 3 false G rfl (by decide) (by decide) (by decide) (by decide) rfl rfl rfl h.lG gne, eV]) lv) (by rw [h.lV]; exact hp)
  ·refine A6 (A := R) rfl rfl (ye9 (a := p :: u) (b := fV.getD p []) ?_ ?_) (by rw [h.lR]; exact hp)
   ·exact i5 (m := bvar 6) rfl rfl ((at_L (U.set p (p :: u)) p (by rw [length_set, h.lU]; exact hp)).trans (by rw [h6 _ _ _ (by rw [h.lU]; exact hp)]))
   ·exact i5 (m := bvar 5) rfl rfl (at_L fV p (by rw [f2]; exact hp))
  ·refine A6 (A := G) rfl rfl (ye9 (a := p :: v) (b := fU.getD p []) ?_ ?_) (by rw [h.lG]; exact hp)
   ·exact i5 (m := bvar 7) rfl rfl ((at_L (V.set p (p :: v)) p (by rw [length_set, h.lV]; exact hp)).trans (by rw [h6 _ _ _ (by rw [h.lV]; exact hp)]))
   ·exact i5 (m := bvar 4) rfl rfl (at_L fU p (by rw [f1]; exact hp))
 ·refine ⟨by rw [length_set]; exact h.lU, by rw [length_set]; exact h.lV, by rw [length_set]; exact h.lR, by rw [length_set]; exact h.lG, fun q h1 h2 => ?_⟩
  by_cases hq : p = q
  ·subst hq
   rw [h6 _ _ _ (by rw [h.lU]; exact hp), h6 _ _ _ (by rw [h.lV]; exact hp), h6 _ _ _ (by rw [h.lR]; exact hp), h6 _ _ _ (by rw [h.lG]; exact hp)]
   exact ⟨bU, bV, jU, jV⟩
  ·rw [X5 _ _ _ _ hq, X5 _ _ _ _ hq, X5 _ _ _ _ hq, X5 _ _ _ _ hq]
   exact h.at' q (by omega) h2
theorem yu3 (n : Nat) (hn : n <= 300) (ρ : Ro) (m : ML) (ds : List D) (hm : m ρ = some ds) (hd : ds.length = n) : mrep (w9 (z8 (mlst (w9 anil)) anil)) (mlen m) ρ = some ((List.replicate n ([] : List Nat)).map L) := by
 have i1 : 0 + 1 <= sizeLine := v4 (by decide)
 have big := p5
 rw [zn5 (ds := [.lst []]) (k := (n : Int)) (v5 (z6 (p8 (v5 y4 (Nat.zero_le _))) y4) i1) (by rw [i4 hm, hd]) (by unfold zv9; simp only [Bool.and_eq_true, decide_eq_true_eq, length_singleton]; omega), Int.toNat_natCast]
 congr 1
 rw [map_replicate, flatten_replicate_singleton]
 rfl
theorem yy9 (n q : Nat) : (List.replicate n ([] : List Nat)).getD q [] = [] := by
 rw [getD_eq_getElem?_getD, getElem?_replicate]
 split <;> rfl
theorem f7 {row : List Int} {s : Int} {t : Nat} {fU fV : List (List Nat)} (hr : row.length <= 300) (hf : Few row s t fU fV) :
  ∃ U V, m_Z6 [SP row s, .tup [.lst (fU.map L), .lst (fV.map L)]] = some (.sh (.tup [.lst (U.map L), .lst (V.map L)])) /\ Few row s (t + 1) U V := by
 suffices h : Run b_Z6 (v3 11 [SP row s, .tup [.lst (fU.map L), .lst (fV.map L)]]) (fun o => ∃ U V : List (List Nat), o = .rt (.tup [.lst (U.map L), .lst (V.map L)]) /\ Few row s (t + 1) U V) by
  obtain ⟨o, e, U, V, rfl, r⟩ := h
  exact ⟨U, V, j5 e, r⟩
 unfold b_Z6
 have k2 : okR (row.length : Int) = true := Q3 (by omega) (by omega)
 have i2 : 2 <= sizeLine := v4 (by decide)
 refine x9 (ρ' := [some (.sh (SP row s)), some (.sh (.tup [.lst (fU.map L), .lst (fV.map L)])), some (.sh (.lst ((Ab row s true).map L))), some (.sh (.lst ((Ab row s false).map L))), none, none, none, none, none, none, none]) rfl ?_
 refine x9 (ρ' := [some (.sh (SP row s)), some (.sh (.tup [.lst (fU.map L), .lst (fV.map L)])), some (.sh (.lst ((Ab row s true).map L))), some (.sh (.lst ((Ab row s false).map L))), some (.sh (.lst (fU.map L))), some (.sh (.lst (fV.map L))), none, none, none, none, none]) rfl ?_
 have sF : ∀ (i : Nat) (ρ : Ro), bvar 2 ρ = some ((Ab row s true).map L) -> f9 i (mrep (w9 (z8 (mlst (w9 anil)) anil)) (mlen (bvar 2))) ρ = some (.nx (ρ.set i (some (.own ((List.replicate row.length ([] : List Nat)).map L))))) := fun i ρ hb => by
  unfold f9
  rw [yu3 row.length hr ρ (bvar 2) _ hb (by rw [length_map, E9])]
  rfl
 refine x9 (sF 6 _ rfl) (x9 (sF 7 _ rfl) (x9 (sF 8 _ rfl) (x9 (ρ' := envT row s fU fV (List.replicate row.length []) (List.replicate row.length []) (List.replicate row.length []) (List.replicate row.length []) none) (sF 9 _ rfl) ?_)))
 have ed : D5 row.length = (List.range row.length).map fun (j : Nat) => D.int ((row.length : Int) - 1 - (j : Int)) := rfl
 refine l9 (U2 row.length (f := fun (j : Nat) => D.int ((row.length : Int) - 1 - (j : Int))) ?_
  (I := fun j ρ => ∃ U V R G o, Tnd row s t (row.length - j) U V R G /\ ρ = envT row s fU fV U V R G o) _
  ⟨_, _, _, _, _, ⟨by simp, by simp, by simp, by simp, fun q h1 h2 => by omega⟩, rfl⟩ ?_ ?_)
 ·unfold r6
  rw [z6 (x := mlen (bvar 2)) (d := .int (((Ab row s true).map L).length : Int)) (i4 rfl) y4, Option.bind_some, length_map, E9, zo3 k2, Int.toNat_natCast, ed]
 ·rintro j ρ hj ⟨U, V, R, G, o, h, rfl⟩
  have e : (row.length : Int) - 1 - (j : Int) = ((row.length - 1 - j : Nat) : Int) := by omega
  rw [e]
  refine ⟨envT row s fU fV U V R G (some (.sh (.int ((row.length - 1 - j : Nat) : Int)))), rfl, ?_⟩
  have e2 : row.length - 1 - j + 1 = row.length - j := by omega
  obtain ⟨U', V', R', G', eb, hT⟩ := yz2 (o := o) hr (show row.length - 1 - j < row.length by omega) hf (by rw [e2]; exact h)
  exact ⟨_, eb, U', V', R', G', _, by rw [show row.length - (j + 1) = row.length - 1 - j by omega]; exact hT, rfl⟩
 ·rintro ρ ⟨U, V, R, G, o, h, rfl⟩
  rw [Nat.sub_self] at h
  unfold yp8
  refine k8 (ds := U.map L) rfl (k8 (ds := V.map L) rfl ⟨_, Z0 (S4 (z6 (d := .lst (U.map L)) rfl (z6 (d := .lst (V.map L)) rfl y4)) i2), U, V, rfl, h.lU, h.lV, fun q hq => ?_⟩)
  obtain ⟨a, b, _⟩ := h.at' q (Nat.zero_le _) hq
  exact .inr ⟨t, rfl, a, b⟩
end
section
open PySem L2
theorem xa0 (a b : Nat) : gtI (dN b) (dN a) = some (decide (a < b)) := by
 show some (decide ((a : Int) < (b : Int))) = _
 congr 1
 apply decide_eq_decide.mpr
 omega
theorem zm1 : ∀ (ns : List Nat) (a : Nat), ∃ v, maxP (ns.map dN) (dN a) = some (dN v) /\ (∀ y ∈ a :: ns, y <= v) /\ v ∈ a :: ns
 | [], a => ⟨a, rfl, by simp, by simp⟩
 | b :: ns, a => by
  rw [map_cons, maxP, xa0]
  by_cases h : a < b
  ·rw [decide_eq_true h]
   obtain ⟨v, e, g1, g2⟩ := zm1 ns b
   refine ⟨v, e, fun y hy => ?_, mem_cons_of_mem _ g2⟩
   rcases List.mem_cons.mp hy with z | z
   ·have := g1 b (by simp); omega
   ·exact g1 y z
  ·rw [decide_eq_false h]
   obtain ⟨v, e, g1, g2⟩ := zm1 ns a
   refine ⟨v, e, fun y hy => ?_, ?_⟩
   ·rcases List.mem_cons.mp hy with z | z
    ·exact g1 y (by simp [z])
    ·rcases List.mem_cons.mp z with z | z
     ·have := g1 a (by simp); omega
     ·exact g1 y (by simp [z])
   ·rcases List.mem_cons.mp g2 with z | z
    ·simp [z]
    ·simp [z]
theorem yt6 (ns : List Nat) : ∃ v, maxE (ns.map dN) (.int 0) = some (dN v) /\ (∀ y ∈ ns, y <= v) /\ (ns = [] /\ v = 0 \/ v ∈ ns) := by
 cases ns with
 | nil => exact ⟨0, rfl, by simp, .inl ⟨rfl, rfl⟩⟩
 | cons a ns =>
  obtain ⟨v, e, g1, g2⟩ := zm1 ns a
  exact ⟨v, e, g1, .inr g2⟩
theorem dns (ns : List Nat) : ns.map dN = (ns.map fun (k : Nat) => (k : Int)).map .int := by rw [map_map]; rfl
end
section
open PySem L2
theorem zh7 (row : List Int) (s : Int) : Few row s 0 (List.replicate row.length []) (List.replicate row.length []) :=
 ⟨by simp, by simp, fun q _ => .inl ⟨rfl, yy9 _ _, yy9 _ _⟩⟩
abbrev TP2 (U V : List (List Nat)) : D := .tup [.lst (U.map L), .lst (V.map L)]
theorem J4 (row : List Int) (hr : row.length <= 300) : yt8 [RI row] = some (.sh (TP2 (List.replicate row.length []) (List.replicate row.length []))) := by
 unfold yt8 xt5
 have i2 : 2 <= sizeLine := v4 (by decide)
 have e := yu3 row.length hr (v3 1 [RI row]) (bvar 0) _ rfl (by rw [length_map])
 exact j5 (Z0 (S4 (z6 (p8 e) (z6 (p8 e) y4)) i2))
abbrev BTn (row : List Int) (s : Int) (t : Nat) : List Nat -> Prop := Best (Tn (xr row) row.length s t)
theorem Z4 {row : List Int} {s : Int} {t : Nat} {U V : List (List Nat)} (hr : row.length <= 300) (h : Few row s (t + 1) U V) : ∃ l, zs5 [TP2 U V] = some (.sh (L l)) /\ BTn row s t l := by
 obtain ⟨hU, hV, hd⟩ := h
 have hd : ∀ q, q < row.length -> BS row s t true q (U.getD q []) /\ BS row s t false q (V.getD q []) := fun q hq => by
  rcases hd q hq with ⟨z, _⟩ | ⟨u, e, a, b⟩
  ·omega
  ·have : u = t := by omega
   subst this
   exact ⟨a, b⟩
 have hres : ∃ l, minD (fun d => shOf (m_Z9 [d])) ((U ++ V).map L) (.lst []) = some (L l) /\ BTn row s t l := by
  cases hc : U ++ V with
  | nil =>
   have : row.length = 0 := by
    have := congrArg List.length hc
    rw [length_append, length_nil] at this
    omega
   exact ⟨[], rfl, zj4 this⟩
  | cons b ls =>
   obtain ⟨r, e, h1, h2⟩ := zy5 (mk := fun d => shOf (m_Z9 [d])) ek ls b
   refine ⟨r, ?_, ?_⟩
   ·show (match shOf (m_Z9 [L b]) with | some kd => minF _ (ls.map L) (L b) kd | none => none) = _
    rw [ek b]
    exact e
   ·rw [<- hc] at h1 h2
    have all : ∀ m ∈ U ++ V, ∃ d q, BS row s t d q m := by
     intro m hm
     rcases List.mem_append.mp hm with h | h
     ·obtain ⟨q, hq, rfl⟩ := zg2 h
      exact ⟨true, q, (hd q (by omega)).1⟩
     ·obtain ⟨q, hq, rfl⟩ := zg2 h
      exact ⟨false, q, (hd q (by omega)).2⟩
    refine zb8 h1 h2 (fun m hm => ?_) (fun d p hp => ?_) ?_
    ·obtain ⟨d, q, h⟩ := all m hm
     exact .inr ⟨d, h.1.1⟩
    ·cases d
     ·exact ⟨_, mem_append_right _ (zf0 (q := p) (by omega)), (hd p hp).2⟩
     ·exact ⟨_, mem_append_left _ (zf0 (q := p) (by omega)), (hd p hp).1⟩
    ·obtain ⟨d, q, h⟩ := all r h1
     intro z
     rw [z] at h
     exact h.1.1
 obtain ⟨l, e, hb⟩ := hres
 refine ⟨l, ?_, hb⟩
 unfold zs5 xs8
 refine X2 (x9 (ρ' := [some (.sh (TP2 U V)), some (.sh (.lst (U.map L))), some (.sh (.lst (V.map L)))]) rfl ⟨_, ?_, rfl⟩)
 have e1 : l6 (m2 addD (mvar 1) (mvar 2)) [some (.sh (TP2 U V)), some (.sh (.lst (U.map L))), some (.sh (.lst (V.map L)))] = some ((U ++ V).map L) := by
  have hz : (U.map L).length + (V.map L).length <= sizeLine := v4 (by simp; omega)
  refine i8 ?_
  unfold m2
  show (if (U.map L).length + (V.map L).length <= sizeLine then some (D.lst (U.map L ++ V.map L)) else none) = _
  rw [if_pos hz, map_append]
 unfold mret
 rw [yj8 e1 (p8 (v5 y4 (Nat.zero_le _))), e]
 rfl
theorem xt1 {row : List Int} {s : Int} {t u : Nat} {l : List Nat} (h : BTn row s t l) (e : ∀ m, Tn (xr row) row.length s t m ↔ Tn (xr row) row.length s u m) : BTn row s u l := h.iff e
theorem xq8 {row : List Int} {s : Int} (k : Nat) (m : List Nat) : Tn (xr row) row.length s (min k row.length) m ↔ Tn (xr row) row.length s k m := by
 constructor
 ·exact fun h => h.mono (Nat.min_le_left _ _)
 ·intro h
  rcases Nat.le_total k row.length with z | z
  ·rw [Nat.min_eq_left z]; exact h
  ·rw [Nat.min_eq_right z]; exact h.all
theorem C0 {row : List Int} {s : Int} (hr : row.length <= 300) {ρ : Ro} (h0 : mvar 0 ρ = some (RI row)) (h1 : mvar 1 ρ = some (.int s)) : u0 zm6 (z8 (mvar 0) (z8 (mvar 1) anil)) ρ = some (SP row s) :=
 w6 (z6 h0 (z6 h1 y4)) (T5 row s hr)
theorem i6 (row : List Int) (s : Int) (k : Nat) (hs : 1 <= s) (hr : row.length <= 300) : ∃ l, m_Z0 [RI row, .int s, .int (k : Int)] = some (.sh (L l)) /\ BTn row s k l := by
 suffices h : Run b_Z0 (v3 6 [RI row, .int s, .int (k : Int)]) (fun o => ∃ l, o = .rt (L l) /\ BTn row s k l) by
  obtain ⟨o, e, l, rfl, r⟩ := h
  exact ⟨l, j5 e, r⟩
 unfold b_Z0
 refine x9 (ρ' := [some (.sh (RI row)), some (.sh (.int s)), some (.sh (.int (k : Int))), none, none, none]) (Q5 (w6 (z6 (d := .int s) rfl y4) (n6 s hs))) ?_
 refine x9 (ρ' := [some (.sh (RI row)), some (.sh (.int s)), some (.sh (.int (k : Int))), none, none, none]) (by rw [yd0 (yf4 (i := (k : Int)) (k := 0) rfl rfl), decide_eq_false (by omega)]; rfl) ?_
 refine x9 (ρ' := [some (.sh (RI row)), some (.sh (.int s)), some (.sh (.int (k : Int))), some (.sh (SP row s)), none, none]) ((j9 (C0 hr rfl rfl)).trans rfl) ?_
 refine x9 (ρ' := [some (.sh (RI row)), some (.sh (.int s)), some (.sh (.int (k : Int))), some (.sh (SP row s)), some (.sh (TP2 (List.replicate row.length []) (List.replicate row.length []))), none]) ((j9 (w6 (z6 (d := RI row) rfl y4) (J4 row hr))).trans rfl) ?_
 have k2 : okR ((min k row.length + 1 : Nat) : Int) = true := Q3 (by omega) (by omega)
 have er : r6 rng1 (z8 (m2 addD (zx4 zc5 (z8 (mvar 2) (z8 (mlen (bvar 0)) anil))) (mc (.int 1))) anil) [some (.sh (RI row)), some (.sh (.int s)), some (.sh (.int (k : Int))), some (.sh (SP row s)), some (.sh (TP2 (List.replicate row.length []) (List.replicate row.length []))), none] = some ((List.range (min k row.length + 1)).map dN) := by
  have e1 : zx4 zc5 (z8 (mvar 2) (z8 (mlen (bvar 0)) anil)) [some (.sh (RI row)), some (.sh (.int s)), some (.sh (.int (k : Int))), some (.sh (SP row s)), some (.sh (TP2 (List.replicate row.length []) (List.replicate row.length []))), none] = some (.int ((min k row.length : Nat) : Int)) := by
   unfold zx4
   rw [z6 (d := .int (k : Int)) rfl (z6 (i4 (m := bvar 0) (ds := row.map .int) rfl) y4), length_map]
   have q : (if (row.length : Int) < (k : Int) then (row.length : Int) else (k : Int)) = ((min k row.length : Nat) : Int) := by split <;> omega
   show some (D.int (if (row.length : Int) < (k : Int) then (row.length : Int) else (k : Int))) = _
   rw [q]
  unfold r6
  rw [z6 ((k9 e1 rfl).trans (show addD (.int ((min k row.length : Nat) : Int)) (.int 1) = some (.int ((min k row.length + 1 : Nat) : Int)) from rfl)) y4, Option.bind_some, yy7 k2, Int.toNat_natCast, yx1, map_map]
  rfl
 refine l9 (U2 (min k row.length + 1) (f := dN) er
  (I := fun j ρ => ∃ U V o, Few row s j U V /\ ρ = [some (.sh (RI row)), some (.sh (.int s)), some (.sh (.int (k : Int))), some (.sh (SP row s)), some (.sh (TP2 U V)), o]) _ ⟨_, _, _, zh7 row s, rfl⟩ ?_ ?_)
 ·rintro j ρ hj ⟨U, V, o, hf, rfl⟩
  obtain ⟨U', V', e, hf'⟩ := f7 hr hf
  refine ⟨[some (.sh (RI row)), some (.sh (.int s)), some (.sh (.int (k : Int))), some (.sh (SP row s)), some (.sh (TP2 U V)), some (.sh (dN j))], rfl, ⟨_, (show yo0 _ = _ from j9 (w6 (z6 (d := SP row s) rfl (z6 (d := TP2 U V) rfl y4)) e)), U', V', _, hf', rfl⟩⟩
 ·rintro ρ ⟨U, V, o, hf, rfl⟩
  obtain ⟨l, e, hb⟩ := Z4 hr hf
  exact ⟨_, Z0 (w6 (z6 (d := TP2 U V) rfl y4) e), l, rfl, xt1 hb (xq8 k)⟩
def Mx (row : List Int) (s : Int) (p m : Nat) : Prop := (∃ l d, Sd (xr row) row.length s l row.length d /\ Hd p l /\ l.length = m) /\ ∀ l t d, Sd (xr row) row.length s l t d -> Hd p l -> l.length <= m
theorem xw5 {row : List Int} {s : Int} {p v : Nat} {ms : Nat -> Nat} (hp : p < row.length) (hm : ∀ q, p < q -> q < row.length -> Mx row s q (ms q))
  (h1 : ∀ d, ∀ q ∈ abv row s d p, ms q <= v) (h2 : v = 0 \/ ∃ d, ∃ q ∈ abv row s d p, ms q = v) : Mx row s p (1 + v) := by
 constructor
 ·rcases h2 with rfl | ⟨d, q, hq, e⟩
  ·exact ⟨[p], true, hp, ⟨[], rfl⟩, rfl⟩
  ·obtain ⟨a, b, c⟩ := abv_mem.mp hq
   obtain ⟨⟨l, d', hl, ⟨m, rfl⟩, e2⟩, _⟩ := hm q a b
   have hS : Sd (xr row) row.length s (p :: q :: m) (row.length + 1) d := by
    refine ⟨a, c, ?_⟩
    by_cases hd : d' = d
    ·subst hd; exact .inl (hl.mono (by omega))
    ·have : d' = !d := by cases d <;> cases d' <;> simp_all
     subst this
     exact .inr ⟨row.length, rfl, hl⟩
   have hlen := hS.len
   refine ⟨p :: q :: m, d, hS.enough.mono (by simp at hlen ⊢; omega), ⟨_, rfl⟩, ?_⟩
   rw [length_cons, e2, e]; omega
 ·rintro l t d hl ⟨m, rfl⟩
  cases m with
  | nil => simp
  | cons q m =>
   have hq : q < row.length := by
    rcases hl.2.2 with z | ⟨u, _, z⟩
    ·exact z.lt
    ·exact z.lt
   have hqm := abv_mem.mpr ⟨hl.1, hq, hl.2.1⟩
   have := h1 d q hqm
   have h3 : (q :: m).length <= ms q := by
    rcases hl.2.2 with z | ⟨u, _, z⟩
    ·exact (hm q hl.1 hq).2 _ _ _ z ⟨_, rfl⟩
    ·exact (hm q hl.1 hq).2 _ _ _ z ⟨_, rfl⟩
   rw [length_cons]; omega
def envM (row : List Int) (s : Int) (ms : List Nat) (o : Option S) : Ro := [some (.sh (SP row s)), some (.sh (.lst ((Ab row s true).map L))), some (.sh (.lst ((Ab row s false).map L))), some (.own (ms.map dN)), o]
theorem xg5 (ms : List Nat) (p : Nat) (h : p < ms.length) : atI (ms.map dN) (p : Int) = some (dN (ms.getD p 0)) := by
 have := zw2 dN ms (p : Int) (by omega) (by omega) 0
 rw [Int.toNat_natCast] at this
 exact this
theorem yu6 {row : List Int} {s : Int} {p : Nat} {ms : List Nat} {o : Option S} (hr : row.length <= 300) (hp : p < row.length) (hl : ms.length = row.length) (h : ∀ q, p < q -> q < row.length -> Mx row s q (ms.getD q 0)) :
  ∃ v, zw1 (envM row s ms (some (.sh (.int (p : Int))))) = some (.nx (envM row s (ms.set p v) (some (.sh (.int (p : Int)))))) /\ Mx row s p v := by
 unfold zw1
 have ab : ∀ (d : Bool), ∀ q ∈ abv row s d p, q < ms.length := fun d q hq => by rw [hl]; exact (abv_mem.mp hq).2.1
 have e1 : l6 (m2 addD (mix (bvar 1) (mvar 4)) (mix (bvar 2) (mvar 4))) (envM row s ms (some (.sh (.int (p : Int))))) = some ((abv row s true p ++ abv row s false p).map dN) := by
  refine i8 ?_
  have g1 : mix (bvar 1) (mvar 4) (envM row s ms (some (.sh (.int (p : Int))))) = some (L (abv row s true p)) := i5 (ds := (Ab row s true).map L) (k := (p : Int)) rfl rfl (by rw [at_L _ p (by rw [E9]; exact hp), yo6 row s true p hp])
  have g2 : mix (bvar 2) (mvar 4) (envM row s ms (some (.sh (.int (p : Int))))) = some (L (abv row s false p)) := i5 (ds := (Ab row s false).map L) (k := (p : Int)) rfl rfl (by rw [at_L _ p (by rw [E9]; exact hp), yo6 row s false p hp])
  rw [k9 g1 g2]
  have hz : ((abv row s true p).map dN).length + ((abv row s false p).map dN).length <= sizeLine := v4 (by have := U0 row s true p; have := U0 row s false p; simp; omega)
  show (if ((abv row s true p).map dN).length + ((abv row s false p).map dN).length <= sizeLine then some (D.lst ((abv row s true p).map dN ++ (abv row s false p).map dN)) else none) = _
  rw [if_pos hz, map_append]
 have e2 : V3 [none, some 3] (l6 (m2 addD (mix (bvar 1) (mvar 4)) (mix (bvar 2) (mvar 4)))) (.nm 0) cyes (mix (bvar 1) (mvar 0)) (envM row s ms (some (.sh (.int (p : Int))))) = some (((abv row s true p ++ abv row s false p).map fun q => ms.getD q 0).map dN) := by
  unfold V3
  rw [e1, Option.bind_some]
  refine (Q7 (f := dN) (G := fun q => dN (ms.getD q 0)) (fun ks ρ => (∀ q ∈ ks, q < ms.length) /\ ∃ x, ρ = [x, some (.own (ms.map dN))]) (by
   rintro q ks ρ ⟨hh, x, rfl⟩
   exact ⟨[some (.sh (dN q)), some (.own (ms.map dN))], rfl, rfl, i5 (m := bvar 1) rfl rfl (xg5 ms q (hh q (by simp))), fun r hr => hh r (by simp [hr]), _, rfl⟩) _ _ [] ⟨fun q hq => ?_, none, rfl⟩ (v4 ?_)).trans ?_
  ·rcases List.mem_append.mp hq with z | z
   ·exact ab true q z
   ·exact ab false q z
  ·have := U0 row s true p; have := U0 row s false p
   simp; omega
  ·rw [nil_append, map_map]; rfl
 obtain ⟨v, ev, g1, g2⟩ := yt6 ((abv row s true p ++ abv row s false p).map fun q => ms.getD q 0)
 refine ⟨1 + v, ?_, ?_⟩
 ·have e3 : m2 addD (mc (.int 1)) (zs2 (V3 [none, some 3] (l6 (m2 addD (mix (bvar 1) (mvar 4)) (mix (bvar 2) (mvar 4)))) (.nm 0) cyes (mix (bvar 1) (mvar 0))) (mc (.int 0))) (envM row s ms (some (.sh (.int (p : Int))))) = some (dN (1 + v)) := by
   rw [k9 (a := .int 1) (b := dN v) rfl ((zh9 e2 rfl).trans ev)]
   have q : (1 + (v : Int)) = ((1 + v : Nat) : Int) := by omega
   show some (D.int (1 + (v : Int))) = some (D.int ((1 + v : Nat) : Int))
   rw [q]
  unfold g7
  rw [e3]
  show ((ixN (ms.map dN).length (p : Int)).map fun j => Out.nx ((envM row s ms (some (.sh (.int (p : Int))))).set 3 (some (.own ((ms.map dN).set j (dN (1 + v))))))) = _
  rw [length_map, zm9 _ _ (by omega)]
  show some (Out.nx _) = _
  rw [<- map_set]
  rfl
 ·refine xw5 (ms := fun q => ms.getD q 0) hp h (fun d q hq => g1 _ (List.mem_map.mpr ⟨q, ?_, rfl⟩)) ?_
  ·cases d
   ·exact mem_append_right _ hq
   ·exact mem_append_left _ hq
  ·rcases g2 with ⟨_, z⟩ | z
   ·exact .inl z
   ·obtain ⟨q, hq, e⟩ := List.mem_map.mp z
    rcases List.mem_append.mp hq with hq | hq
    ·exact .inr ⟨true, q, hq, e⟩
    ·exact .inr ⟨false, q, hq, e⟩
theorem yr8 (ms : List Nat) (p q v : Nat) (h : p < ms.length) : (ms.set p v).getD q 0 = if p = q then v else ms.getD q 0 := by
 rw [getD_eq_getElem?_getD, getD_eq_getElem?_getD]
 by_cases e : p = q
 ·subst e; rw [getElem?_set_self h, if_pos rfl]; rfl
 ·rw [getElem?_set_ne e, if_neg e]
theorem J6 (row : List Int) (s : Int) (hr : row.length <= 300) : ∃ M, xv3 [SP row s] = some (.sh (dN M)) /\ (∀ t l, Tn (xr row) row.length s t l -> l.length <= M) /\ ∃ l, Tn (xr row) row.length s row.length l /\ l.length = M := by
 suffices h : Run yf0 (v3 5 [SP row s]) (fun o => ∃ M, o = .rt (dN M) /\ (∀ t l, Tn (xr row) row.length s t l -> l.length <= M) /\ ∃ l, Tn (xr row) row.length s row.length l /\ l.length = M) by
  obtain ⟨o, e, M, rfl, r⟩ := h
  exact ⟨M, j5 e, r⟩
 unfold yf0
 have k2 : okR (row.length : Int) = true := Q3 (by omega) (by omega)
 have i1 : 0 + 1 <= sizeLine := v4 (by decide)
 have big := p5
 refine x9 (ρ' := [some (.sh (SP row s)), some (.sh (.lst ((Ab row s true).map L))), some (.sh (.lst ((Ab row s false).map L))), none, none]) rfl ?_
 refine x9 (ρ' := envM row s (List.replicate row.length 0) none) ?_ ?_
 ·unfold f9
  rw [zn5 (ds := [.int 0]) (k := (row.length : Int)) (v5 (z6 (d := .int 0) rfl y4) i1) (by rw [i4 (m := bvar 1) (ds := (Ab row s true).map L) rfl, length_map, E9]) (by unfold zv9; simp only [Bool.and_eq_true, decide_eq_true_eq, length_singleton]; omega), Int.toNat_natCast, flatten_replicate_singleton]
  show some (Out.nx _) = _
  unfold envM
  rw [map_replicate]
  rfl
 have ed : D5 row.length = (List.range row.length).map fun (j : Nat) => D.int ((row.length : Int) - 1 - (j : Int)) := rfl
 refine l9 (U2 row.length (f := fun (j : Nat) => D.int ((row.length : Int) - 1 - (j : Int))) ?_
  (I := fun j ρ => ∃ ms o, ms.length = row.length /\ (∀ q, row.length - j <= q -> q < row.length -> Mx row s q (ms.getD q 0)) /\ ρ = envM row s ms o) _
  ⟨_, _, by simp, fun q h1 h2 => by omega, rfl⟩ ?_ ?_)
 ·unfold r6
  rw [z6 (x := mlen (bvar 1)) (d := .int (((Ab row s true).map L).length : Int)) (i4 rfl) y4, Option.bind_some, length_map, E9, zo3 k2, Int.toNat_natCast, ed]
 ·rintro j ρ hj ⟨ms, o, hl, h, rfl⟩
  have e : (row.length : Int) - 1 - (j : Int) = ((row.length - 1 - j : Nat) : Int) := by omega
  rw [e]
  refine ⟨envM row s ms (some (.sh (.int ((row.length - 1 - j : Nat) : Int)))), rfl, ?_⟩
  obtain ⟨v, eb, hv⟩ := yu6 (o := o) hr (show row.length - 1 - j < row.length by omega) hl fun q h1 h2 => h q (by omega) h2
  refine ⟨_, eb, ms.set (row.length - 1 - j) v, _, by rw [length_set]; exact hl, fun q h1 h2 => ?_, rfl⟩
  rw [yr8 _ _ _ _ (by omega)]
  by_cases hq : row.length - 1 - j = q
  ·rw [if_pos hq, <- hq]; exact hv
  ·rw [if_neg hq]; exact h q (by omega) h2
 ·rintro ρ ⟨ms, o, hl, h, rfl⟩
  rw [Nat.sub_self] at h
  unfold ze4
  obtain ⟨v, ev, g1, g2⟩ := yt6 ms
  refine k8 (ds := ms.map dN) rfl ⟨_, Z0 ((zh9 (ds := ms.map dN) (d0 := .int 0) rfl rfl).trans ev), v, rfl, fun t l hl' => ?_, ?_⟩
  ·rcases hl' with rfl | ⟨d, hS⟩
   ·simp
   ·cases l with
    | nil => exact hS.elim
    | cons p l =>
     have hp := hS.lt
     refine Nat.le_trans ((h p (Nat.zero_le _) hp).2 _ _ _ hS ⟨_, rfl⟩) (g1 _ ?_)
     rw [getD_eq_getElem?_getD, getElem?_eq_getElem (by omega)]
     exact getElem_mem _
  ·rcases g2 with ⟨z, rfl⟩ | z
   ·exact ⟨[], .inl rfl, rfl⟩
   ·obtain ⟨p, hp, e⟩ := getElem_of_mem z
    obtain ⟨⟨l, d, hS, hH, e2⟩, _⟩ := h p (Nat.zero_le _) (by omega)
    refine ⟨l, .inr ⟨d, hS⟩, ?_⟩
    rw [e2, getD_eq_getElem?_getD, getElem?_eq_getElem hp, <- e]; rfl
end
section
open PySem L2
theorem zw5 {c : MB} {body : MS} {I : Nat -> Ro -> Prop} {Q : Ro -> Prop}
  (h : ∀ k ρ, I k ρ -> (c ρ = some false /\ Q ρ) \/ (c ρ = some true /\ ∃ ρ', body ρ = some (.nx ρ') /\ ∃ k', k' < k /\ I k' ρ')) :
  ∀ (f k : Nat) (ρ : Ro), k < f -> I k ρ -> ∃ ρ', X9 c body f ρ = some (.nx ρ') /\ Q ρ'
 | 0, k, ρ, hk, _ => by omega
 | f + 1, k, ρ, hk, hI => by
  unfold X9
  rcases h k ρ hI with ⟨hc, hq⟩ | ⟨hc, ρ', hb, k', hk', hI'⟩
  ·exact ⟨ρ, by rw [hc], hq⟩
  ·obtain ⟨ρ2, e, q⟩ := zw5 h f k' ρ' (by omega) hI'
   refine ⟨ρ2, ?_, q⟩
   rw [hc]
   simp only [hb]
   exact e
def Kt (row : List Int) (s : Int) (t k : Nat) : Prop := ∃ l, BTn row s t l /\ l.length = k
theorem Kt.uniq {row : List Int} {s : Int} {t a b : Nat} (h1 : Kt row s t a) (h2 : Kt row s t b) : a = b := by
 obtain ⟨l, hl, rfl⟩ := h1
 obtain ⟨m, hm, rfl⟩ := h2
 rw [hl.unique hm]
structure Kpt (row : List Int) (s : Int) (ks : List Nat) : Prop where
 pos : 0 < ks.length
 few : ks.length <= row.length + 1
 at' : ∀ i, i < ks.length -> Kt row s i (ks.getD i 0)
 last : ∀ t k, Kt row s t k -> k <= ks.getD (ks.length - 1) 0
 less : ∀ i, i + 1 < ks.length -> ks.getD i 0 < ks.getD (ks.length - 1) 0
def envK (row : List Int) (s : Int) (M : Nat) (U V : List (List Nat)) (ks : List Nat) : Ro := [some (.sh (RI row)), some (.sh (.int s)), some (.sh (SP row s)), some (.sh (dN M)), some (.sh (TP2 U V)), some (.own (ks.map dN))]
theorem zj7 (ks : List Nat) (h : 0 < ks.length) : atI (ks.map dN) (-1) = some (dN (ks.getD (ks.length - 1) 0)) := by
 unfold atI ixN
 rw [length_map, if_neg (by decide), if_pos (by omega)]
 have e : (-1 + (ks.length : Int)).toNat = ks.length - 1 := by omega
 rw [e]
 rw [Option.bind_some, getElem?_map, getD_eq_getElem?_getD, getElem?_eq_getElem (by omega)]
 rfl
theorem zf2 (ks : List Nat) (v i : Nat) : (ks ++ [v]).getD i 0 = if i < ks.length then ks.getD i 0 else if i = ks.length then v else 0 := by
 rw [getD_eq_getElem?_getD, getD_eq_getElem?_getD]
 by_cases h : i < ks.length
 ·rw [if_pos h, getElem?_append_left h]
 ·rw [if_neg h, getElem?_append_right (by omega)]
  by_cases h2 : i = ks.length
  ·rw [if_pos h2, h2, Nat.sub_self]; rfl
  ·rw [if_neg h2, getElem?_eq_none (by simp; omega)]; rfl
theorem M0 (row : List Int) (s : Int) (hs : 1 <= s) (hr : row.length <= 300) : ∃ ks, m_Z5 [RI row, .int s] = some (.fr (ks.map dN)) /\ Kpt row s ks := by
 obtain ⟨M, eM, hM1, lM, hM2, hM3⟩ := J6 row s hr
 have i1 : 0 + 1 <= sizeLine := v4 (by decide)
 have big := p5
 suffices h : Run b_Z5 (v3 6 [RI row, .int s]) (fun o => ∃ ks : List Nat, o = .rf (ks.map dN) /\ Kpt row s ks) by
  obtain ⟨o, e, ks, rfl, r⟩ := h
  exact ⟨ks, yy5 e, r⟩
 unfold b_Z5
 refine x9 (ρ' := [some (.sh (RI row)), some (.sh (.int s)), none, none, none, none]) (Q5 (w6 (z6 (d := .int s) rfl y4) (n6 s hs))) ?_
 refine x9 (ρ' := [some (.sh (RI row)), some (.sh (.int s)), some (.sh (SP row s)), none, none, none]) ((j9 (C0 hr rfl rfl)).trans rfl) ?_
 refine x9 (ρ' := [some (.sh (RI row)), some (.sh (.int s)), some (.sh (SP row s)), some (.sh (dN M)), none, none]) ((j9 (w6 (z6 (d := SP row s) rfl y4) eM)).trans rfl) ?_
 obtain ⟨U, V, e0, hf0⟩ := f7 hr (zh7 row s)
 obtain ⟨l0, el0, hb0⟩ := Z4 hr hf0
 refine x9 (ρ' := [some (.sh (RI row)), some (.sh (.int s)), some (.sh (SP row s)), some (.sh (dN M)), some (.sh (TP2 U V)), none]) ((j9 (w6 (z6 (d := SP row s) rfl (z6 (w6 (z6 (d := RI row) rfl y4) (J4 row hr)) y4)) e0)).trans rfl) ?_
 have tl : ∀ (ρ : Ro) (U V : List (List Nat)) (l : List Nat), mvar 4 ρ = some (TP2 U V) -> zs5 [TP2 U V] = some (.sh (L l)) -> mlen (l6 (u0 zs5 (z8 (mvar 4) anil))) ρ = some (dN l.length) := fun ρ U V l h4 h => by
  rw [i4 (i8 (ds := l.map dN) (w6 (z6 h4 y4) h)), length_map]; rfl
 refine x9 (ρ' := envK row s M U V [l0.length]) (by unfold f9; rw [v5 (z6 (tl _ U V l0 rfl el0) y4) i1]; rfl) ?_
 have hW := zw5 (c := v7 (m2 ltD (mix (bvar 5) (m1 negD (mc (.int 1)))) (mvar 3))) (body := zj6)
  (I := fun k ρ => ∃ U V ks, Few row s ks.length U V /\ 0 < ks.length /\ ks.length + k = row.length + 1 /\ (∀ i, i < ks.length -> Kt row s i (ks.getD i 0)) /\ (∀ i, i + 1 < ks.length -> ks.getD i 0 < M) /\ ρ = envK row s M U V ks)
  (Q := fun ρ => ∃ U V ks, Kpt row s ks /\ ρ = envK row s M U V ks) ?_ 1000 row.length (envK row s M U V [l0.length]) (by omega) ⟨U, V, [l0.length], hf0, by simp, by simp; omega, fun i hi => ?_, fun i hi => by simp at hi, rfl⟩
 ·obtain ⟨ρ', e, U', V', ks, hk, rfl⟩ := hW
  refine x9 e ?_
  exact yn7 (ds := ks.map dN) rfl ⟨ks, rfl, hk⟩
 ·rintro k ρ ⟨U, V, ks, hf, hpos, hlen, hat, hless, rfl⟩
  have hc : v7 (m2 ltD (mix (bvar 5) (m1 negD (mc (.int 1)))) (mvar 3)) (envK row s M U V ks) = some (decide (ks.getD (ks.length - 1) 0 < M)) := by
   rw [zi6 (i := ((ks.getD (ks.length - 1) 0 : Nat) : Int)) (j := (M : Int)) (i5 (m := bvar 5) (k := -1) rfl rfl (zj7 ks hpos)) rfl]
   have : ((((ks.getD (ks.length - 1) 0 : Nat) : Int) < (M : Int)) ↔ ks.getD (ks.length - 1) 0 < M) := by omega
   rw [decide_eq_decide.mpr this]
  have hlast := hat (ks.length - 1) (by omega)
  have hle : ks.getD (ks.length - 1) 0 <= M := by
   obtain ⟨l, hl, e⟩ := hlast
   rw [<- e]; exact hM1 _ l hl.1
  by_cases hlt : ks.getD (ks.length - 1) 0 < M
  ·rw [decide_eq_true hlt] at hc
   refine .inr ⟨hc, ?_⟩
   have hkl : ks.length <= row.length := by
    rcases Nat.lt_or_ge row.length ks.length with z | z
    ·exfalso
     obtain ⟨l, hl, e⟩ := hlast
     have : lM.length <= l.length := hl.len lM (hM2.mono (by omega))
     omega
    ·exact z
   obtain ⟨U', V', e1, hf'⟩ := f7 hr hf
   obtain ⟨l, el, hb⟩ := Z4 hr hf'
   refine ⟨envK row s M U' V' (ks ++ [l.length]), ?_, row.length - ks.length, by omega, U', V', ks ++ [l.length], by simpa using hf', by simp, by simp; omega, fun i hi => ?_, fun i hi => ?_, rfl⟩
   ·unfold zj6
    refine seqI (ρ' := envK row s M U' V' ks) ((j9 (w6 (z6 (d := SP row s) rfl (z6 (d := TP2 U V) rfl y4)) e1)).trans rfl) ?_
    unfold mapp
    rw [tl _ U' V' l rfl el]
    show (some (dN l.length)).bind (fun d => if (ks.map dN).length < sizeLine then some (Out.nx ((envK row s M U' V' ks).set 5 (some (.own (ks.map dN ++ [d]))))) else none) = _
    rw [Option.bind_some, if_pos (by rw [length_map]; omega)]
    unfold envK
    rw [map_append]
    rfl
   ·rw [zf2]
    by_cases h : i < ks.length
    ·rw [if_pos h]; exact hat i h
    ·have : i = ks.length := by simp at hi; omega
     rw [if_neg h, if_pos this, this]
     exact ⟨l, hb, rfl⟩
   ·have hi : i < ks.length := by simp at hi; omega
    rw [zf2, if_pos hi]
    by_cases h : i + 1 < ks.length
    ·exact hless i h
    ·have : i = ks.length - 1 := by omega
     rw [this]; exact hlt
  ·rw [decide_eq_false hlt] at hc
   have hM : ks.getD (ks.length - 1) 0 = M := by omega
   exact .inl ⟨hc, U, V, ks, ⟨hpos, by omega, hat, fun t k hpat => by obtain ⟨l, hl, e⟩ := hpat; rw [hM, <- e]; exact hM1 t l hl.1, fun i hi => by rw [hM]; exact hless i hi⟩, rfl⟩
 ·have : i = 0 := by simp at hi; omega
  subst this
  exact ⟨l0, hb0, rfl⟩
def d7 (m : Nat) : List Nat -> Nat -> Option Nat
 | [], _ => none
 | k :: ks, i => if m <= k then some i else d7 m ks (i + 1)
def oD : Option Nat -> D
 | some i => dN i
 | none => .non
theorem yq4 : ∀ (ks : List Nat) (i : Nat), O6 i (ks.map dN) = (ks.zipIdx i).map fun p => D.tup [.int (p.2 : Int), dN p.1]
 | [], _ => rfl
 | k :: ks, i => by
  rw [map_cons, O6, yq4 ks (i + 1), zipIdx_cons, map_cons]
theorem V6 (row : List Int) (s : Int) (m : Nat) (hs : 1 <= s) (hr : row.length <= 300) {ks : List Nat} (hk : m_Z5 [RI row, .int s] = some (.fr (ks.map dN))) : ys1 [RI row, .int s, .int (m : Int)] = some (.sh (oD (d7 m ks 0))) := by
 unfold ys1 xs5
 refine X2 ?_
 refine x9 (ρ' := [some (.sh (RI row)), some (.sh (.int s)), some (.sh (.int (m : Int))), none, none]) (Q5 (w6 (z6 (d := .int s) rfl y4) (n6 s hs))) ?_
 refine x9 (ρ' := [some (.sh (RI row)), some (.sh (.int s)), some (.sh (.int (m : Int))), none, none]) (by rw [yd0 (yf4 (i := (m : Int)) (k := 0) rfl rfl), decide_eq_false (by omega)]; rfl) ?_
 have ee : r6 zk7 (z8 (u0 m_Z5 (z8 (mvar 0) (z8 (mvar 1) anil))) anil) [some (.sh (RI row)), some (.sh (.int s)), some (.sh (.int (m : Int))), none, none] = some ((ks.zipIdx 0).map fun p => D.tup [.int (p.2 : Int), dN p.1]) := by
  unfold r6
  rw [z6 (zg3 (z6 (d := RI row) rfl (z6 (d := .int s) rfl y4)) hk) y4, Option.bind_some]
  show some (O6 0 (ks.map dN)) = _
  rw [yq4]
 refine l9 (zo1 (ks.zipIdx 0) (f := fun p => D.tup [.int (p.2 : Int), dN p.1]) ee
  (I := fun ps ρ => ∃ js i o3 o4, ps = List.zipIdx js i /\ d7 m ks 0 = d7 m js i /\ ρ = [some (.sh (RI row)), some (.sh (.int s)), some (.sh (.int (m : Int))), o3, o4]) _ ⟨ks, 0, _, _, rfl, rfl, rfl⟩ ?_ ?_)
 ·rintro ⟨k, j⟩ ps ρ ⟨js, i, o3, o4, e, ef, rfl⟩
  cases js with
  | nil => cases e
  | cons a js =>
   rw [zipIdx_cons] at e
   obtain ⟨e1, e2⟩ := List.cons.inj e
   cases e1
   refine ⟨[some (.sh (RI row)), some (.sh (.int s)), some (.sh (.int (m : Int))), some (.sh (dN j)), some (.sh (dN k))], rfl, ?_⟩
   unfold ze3
   have ht : v7 (m2 geD (mvar 4) (mvar 2)) [some (.sh (RI row)), some (.sh (.int s)), some (.sh (.int (m : Int))), some (.sh (dN j)), some (.sh (dN k))] = some (decide (m <= k)) := by
    rw [zi7 (i := (k : Int)) (j := (m : Int)) rfl rfl]
    have : (((m : Int) <= (k : Int)) ↔ m <= k) := by omega
    rw [decide_eq_decide.mpr this]
   refine zv4 ht ?_
   rw [d7] at ef
   by_cases h : m <= k
   ·rw [if_pos h] at ef
    rw [decide_eq_true h]
    refine ⟨.rt (dN j), rfl, ?_⟩
    show Out.rt (dN j) = .rt (oD (d7 m ks 0))
    rw [ef]; rfl
   ·rw [if_neg h] at ef
    rw [decide_eq_false h]
    exact ⟨_, rfl, js, j + 1, _, _, e2, ef, rfl⟩
 ·rintro ρ ⟨js, i, o3, o4, e, ef, rfl⟩
  cases js with
  | nil =>
   refine ⟨.rt .non, rfl, ?_⟩
   rw [ef]; rfl
  | cons a js => rw [zipIdx_cons] at e; cases e
end
section
open PySem L2
def tb (x : Nat -> Int) (a b c : Nat) : Nat := if 0 < (x b - x a) * (x b - x c) then 1 else 0
section
variable {x y : Nat -> Int} {n : Nat} {s : Int}
theorem St.len : ∀ {l : List Nat}, St x n s l -> l.length <= n := fun {l} hl => by
 have aux : ∀ (l : List Nat) (p : Nat), St x n s (p :: l) -> l.length + p < n := by
  intro l
  induction l with
  | nil => intro p h; simpa using (show p < n from h)
  | cons q l ih => intro p h; have := ih q h.2.2; have := h.1; simp; omega
 cases l with
 | nil => simp
 | cons p l => have := aux l p hl; simp; omega
end
theorem Kt.iff {row : List Int} {s : Int} {t k : Nat} (h : ∃ l, BTn row s t l) : Kt row s t k ↔ (∃ l, Tn (xr row) row.length s t l /\ l.length = k) /\ ∀ l, Tn (xr row) row.length s t l -> l.length <= k := by
 constructor
 ·rintro ⟨l, hl, rfl⟩
  exact ⟨⟨l, hl.1, rfl⟩, fun m hm => hl.len m hm⟩
 ·rintro ⟨⟨l, hl, rfl⟩, hm⟩
  obtain ⟨b, hb⟩ := h
  refine ⟨b, hb, ?_⟩
  have h1 := hm b hb.1
  have h2 := hb.len l hl
  omega
end
section
open PySem L2
theorem W1 (w : Int) (h : 0 <= w) : m_Z4 [.int w] = some (.sh .non) := by
 have : ¬ w < 0 := by omega
 unfold m_Z4 b_Z4
 simp_arith [this, decide_false]
theorem P6 (row ws : List Int) (hw : ws.length = row.length) (h0 : ∀ x ∈ ws, 0 <= x) : m_Z3 [.lst (row.map .int), .lst (ws.map .int)] = some (.sh .non) := by
 unfold m_Z3 b_Z3
 suffices h : Run _ (v3 3 [.lst (row.map .int), .lst (ws.map .int)]) (fun o => ∃ ρ, o = .nx ρ) by
  obtain ⟨o, e, ρ, rfl⟩ := h
  exact ya4 e
 ((apply x9; focus (simp_arith [length_map, hw, beq_self_eq_true, Bool.not_true]; rfl)))
 refine zo1 ws (f := D.int) (by simp_arith []) (I := fun ys ρ => (∀ x ∈ ys, 0 <= x) /\ ∃ o2, ρ = [some (.sh (.lst (row.map .int))), some (.sh (.lst (ws.map .int))), o2]) _ ⟨h0, _, rfl⟩ ?_ ?_
 ·rintro x ys ρ ⟨hx, o2, rfl⟩
  refine ⟨_, rfl, ?_⟩
  unfold yp9
  refine ⟨_, by simp_arith [W1 x (hx x (by simp))]; rfl, ?_⟩
  exact ⟨fun y hy => hx y (by simp [hy]), _, rfl⟩
 ·rintro ρ ⟨_, o2, rfl⟩
  exact ⟨_, rfl⟩
end
section
open PySem L2
def gn (up : Bool) (x b : Int) : Int := if up then x - b else b - x
def okP (up : Bool) (s : Int) : Int -> List Int -> Bool
 | _, [] => true
 | b, x :: r => if gn up x b <= -s then false else okP up s (if 0 < gn up x b then x else b) r
def fb (up : Bool) (s : Int) : Int -> List Int -> Nat
 | _, [] => 0
 | b, x :: r => if gn up x b <= -s then 0 else fb up s (if 0 < gn up x b then x else b) r + 1
def pr (up : Bool) (s : Int) : List Int -> Bool
 | [] => true
 | x :: r => okP up s x r
def fbs (up : Bool) (s : Int) : List Int -> Nat
 | [] => 0
 | x :: r => fb up s x (x :: r)
theorem xu1 (up : Bool) (x : Int) : gn up x x = 0 := by unfold gn; split <;> omega
theorem yq1 (up : Bool) (s x : Int) (r : List Int) (hs : 1 <= s) : fb up s x (x :: r) = fb up s x r + 1 := by
 rw [fb, xu1, if_neg (by omega), if_neg (by omega)]
theorem xi8 (up : Bool) (s : Int) : ∀ (r : List Int) (b : Int) (k : Nat), k <= r.length -> (decide (fb up s b r < k) = !okP up s b (r.take k))
 | r, b, 0, _ => by simp [okP]
 | [], b, k + 1, h => by simp at h
 | x :: r, b, k + 1, h => by
  rw [fb, take_succ_cons, okP]
  split
  ·simp
  ·rw [<- xi8 up s r _ k (by simpa using h)]
   simp
theorem xi7 (up : Bool) (s : Int) (hs : 1 <= s) (xs : List Int) (k : Nat) (h : k <= xs.length) : decide (fbs up s xs < k) = !pr up s (xs.take k) := by
 cases xs with
 | nil => simp at h; subst h; rfl
 | cons x r =>
  cases k with
  | zero => simp [pr]
  | succ k =>
   rw [take_succ_cons, pr, fbs, yq1 up s x r hs, <- xi8 up s r x k (by simpa using h)]
   simp
def rel (up : Bool) (s a c : Int) : Prop := -(gn up c a) < s
theorem yu1 (up : Bool) (s : Int) : ∀ (r : List Int) (b : Int), okP up s b r = true ↔ (b :: r).Pairwise (rel up s)
 | [], b => by simp [okP]
 | x :: r, b => by
  rw [okP, pairwise_cons]
  by_cases h : gn up x b <= -s
  ·rw [if_pos h]
   refine ⟨fun z => (by cases z), fun z => ?_⟩
   have := z.1 x (by simp)
   unfold rel at this
   omega
  ·rw [if_neg h, yu1 up s r, pairwise_cons, pairwise_cons]
   have key : ∀ c, rel up s (if 0 < gn up x b then x else b) c ↔ (rel up s x c /\ rel up s b c) := by
    intro c
    unfold rel gn at *
    cases up <;> simp at * <;> split <;> omega
   constructor
   ·rintro ⟨h1, h2⟩
    refine ⟨fun c hc => ?_, fun c hc => ((key c).mp (h1 c hc)).1, h2⟩
    rcases List.mem_cons.mp hc with z | z
    ·subst z; unfold rel; omega
    ·exact ((key c).mp (h1 c z)).2
   ·rintro ⟨h1, h2, h3⟩
    exact ⟨fun c hc => (key c).mpr ⟨h2 c hc, h1 c (mem_cons_of_mem _ hc)⟩, h3⟩
theorem C3 (up : Bool) (s : Int) (xs : List Int) : pr up s xs = true ↔ xs.Pairwise (rel up s) := by
 cases xs with
 | nil => simp [pr]
 | cons x r => exact yu1 up s r x
theorem zf6 (s : Int) (hs : 1 <= s) : ∀ (xs : List Int), (xs.Pairwise (rel true s) /\ xs.Pairwise (rel false s)) ↔ ∀ a ∈ xs, ∀ c ∈ xs, a - c < s
 | [] => by simp
 | x :: r => by
  rw [pairwise_cons, pairwise_cons]
  have ih := zf6 s hs r
  constructor
  ·rintro ⟨⟨h1, h2⟩, h3, h4⟩ a ha c hc
   have ih := ih.mp ⟨h2, h4⟩
   rcases List.mem_cons.mp ha with za | za <;> rcases List.mem_cons.mp hc with zc | zc
   ·subst za zc; omega
   ·subst za; have := h1 c zc; unfold rel gn at this; simp at this; omega
   ·subst zc; have := h3 a za; unfold rel gn at this; simp at this; omega
   ·exact ih a za c zc
  ·intro h
   have ih := ih.mpr fun a ha c hc => h a (mem_cons_of_mem _ ha) c (mem_cons_of_mem _ hc)
   refine ⟨⟨fun c hc => ?_, ih.1⟩, fun c hc => ?_, ih.2⟩
   ·have := h x (by simp) c (mem_cons_of_mem _ hc); unfold rel gn; simp; omega
   ·have := h c (mem_cons_of_mem _ hc) x (by simp); unfold rel gn; simp; omega
def seg (row : List Int) (p : Nat × Nat) : List Int := (row.take p.2).drop p.1
def rise (n : Nat) : Nat -> List Nat -> Prop
 | _, [] => True
 | l, c :: cs => l < c /\ c < n /\ rise n c cs
def alt (s : Int) (row : List Int) : Bool -> Nat -> List Nat -> Bool
 | up, st, [] => pr up s (seg row (st, row.length))
 | up, st, c :: cs => pr up s (seg row (st, c)) && alt s row (!up) c cs
theorem yz9 (up : Bool) (s : Int) (hs : 1 <= s) (row : List Int) (st e : Nat) (h1 : st <= e) (h2 : e <= row.length) : decide (((st + fbs up s (row.drop st) : Nat) : Int) < (e : Int)) = !pr up s (seg row (st, e)) := by
 unfold seg
 rw [drop_take, <- xi7 up s hs (row.drop st) (e - st) (by simp; omega)]
 apply decide_eq_decide.mpr
 omega
def kd (up : Bool) : Str := if up then "up" else "down"
theorem ud : (("up" : Str) == ("down" : Str)) = false := by decide
theorem dd : (("down" : Str) == ("down" : Str)) = true := by decide
theorem yg0 (up : Bool) (s : Int) (row : List Int) (st : Nat) : fbs up s (row.drop st) = fb up s (row.getD st 0) (row.drop st) := by
 by_cases h : st < row.length
 ·rw [F7 row st h]; rfl
 ·rw [drop_eq_nil_of_le (by omega)]; rfl
def envB (row : List Int) (s : Int) (up : Bool) (st e : Nat) (o5 o6 : Option S) : Ro := [some (.sh (.lst (row.map .int))), some (.sh (.int s)), some (.sh (.str (kd up))), some (.sh (.int (st : Int))), some (.sh (.int (e : Int))), o5, o6]
theorem Y2 (row : List Int) (s : Int) (up : Bool) (st : Nat) (hst : st <= row.length) (hr : row.length <= 1000) :
  zm5 [.lst (row.map .int), .int s, .str (kd up), .int (st : Int)] = some (.sh (.int ((st + fbs up s (row.drop st) : Nat) : Int))) := by
 unfold zm5 xt9
 refine X2 ?_
 ((apply x9; focus (simp_arith []; rfl)))
 have k1 : okR (st : Int) = true := Q3 (by omega) (by omega)
 have k2 : okR (row.length : Int) = true := Q3 (by omega) (by omega)
 have er : a7 (st : Int) ((row.length : Int) - (st : Int)).toNat = (List.range (row.length - st)).map fun (j : Nat) => D.int ((st + j : Nat) : Int) := by
  rw [Y3, show ((row.length : Int) - (st : Int)).toNat = row.length - st by omega]
  apply map_congr_left
  intro i _
  congr 1
 refine l9 (U2 (row.length - st) (f := fun (j : Nat) => D.int ((st + j : Nat) : Int)) (by simp_arith [length_map, yy6 k1 k2, er])
  (I := fun j ρ => ∃ (e : Nat) (o5 o6 : Option S), (j < row.length - st -> e < row.length) /\ st + fbs up s (row.drop st) = st + j + fb up s (row.getD e 0) (row.drop (st + j)) /\ ρ = envB row s up st e o5 o6) _ ⟨st, none, none, by omega, by rw [yg0]; rfl, rfl⟩ ?_ ?_)
 ·rintro j ρ hj ⟨e, o5, o6, he, ht, rfl⟩
  have he := he hj
  have hx : st + j < row.length := by omega
  have a1 := ze5 row (st + j) hx
  have a2 := ze5 row e he
  rw [F7 row (st + j) hx, fb] at ht
  generalize hx' : row.getD (st + j) 0 = x at a1 ht
  generalize hb' : row.getD e 0 = b at a2 ht
  refine ⟨_, rfl, ?_⟩
  unfold zf9 envB
  ((apply x9; focus (simp_arith [a1, a2]; rfl)))
  refine x9 (ρ' := envB row s up st e (some (.sh (.int ((st + j : Nat) : Int)))) (some (.sh (.int (gn up x b))))) ?_ ?_
  ·unfold envB
   cases up
   ·have : gn false x b = -(x - b) := by unfold gn; simp; omega
    rw [this]
    simp_arith [kd, dd, Bool.false_eq_true, if_false]
   ·have : gn true x b = x - b := rfl
    rw [this]
    simp_arith [kd, ud, if_true]
  unfold envB
  by_cases hb : gn up x b <= -s
  ·rw [if_pos hb] at ht
   refine l9 ⟨.rt (.int ((st + j : Nat) : Int)), by simp_arith [hb, decide_true], ?_⟩
   show Out.rt _ = Out.rt _
   rw [ht]; rfl
  ·rw [if_neg hb] at ht
   ((apply x9; focus (simp_arith [hb, decide_false]; rfl)))
   by_cases hg : 0 < gn up x b
   ·rw [if_pos hg] at ht
    refine ⟨_, by simp_arith [hg, decide_true]; rfl, ?_⟩
    refine ⟨st + j, _, _, fun _ => hx, ?_, rfl⟩
    rw [hx', ht, show st + (j + 1) = st + j + 1 by omega]; omega
   ·rw [if_neg hg] at ht
    refine ⟨_, by simp_arith [hg, decide_false]; rfl, ?_⟩
    refine ⟨e, _, _, fun _ => he, ?_, rfl⟩
    rw [hb', ht, show st + (j + 1) = st + j + 1 by omega]; omega
 ·rintro ρ ⟨e, o5, o6, he, ht, rfl⟩
  refine ⟨_, by unfold envB; simp_arith [length_map]; rfl, ?_⟩
  rw [show st + (row.length - st) = row.length by omega, drop_length, fb] at ht
  rw [ht]; rfl
theorem xp4 (up : Bool) : tabD tab_OTHER_KIND (.str (kd up)) = some (.str (kd (!up))) := by
 have h : tab_OTHER_KIND.lookup (kd up) = some (kd (!up)) := by cases up <;> decide +kernel
 show (tab_OTHER_KIND.lookup (kd up)).map D.str = _
 rw [h]; rfl
def ent (n : Nat) (cs : List Nat) : Nat := match cs with | [] => n | c :: _ => c
def T1 (s : Int) (row : List Int) : Nat -> Bool -> Nat -> List Nat
 | 0, _, _ => []
 | f + 1, k, c => if c < row.length then c :: T1 s row f (!k) (c + fbs k s (row.drop c)) else []
def brk (k : Bool) (s : Int) (row : List Int) (st e : Nat) : Bool := (seg row (st, e)).any fun x => decide (s <= -(gn k (row.getD e 0) x))
theorem yn4 (row : List Int) (st e : Nat) (h1 : st <= e) (h2 : e < row.length) : seg row (st, e + 1) = seg row (st, e) ++ [row.getD e 0] := by
 unfold seg
 have : row.take (e + 1) = row.take e ++ [row.getD e 0] := by
  rw [take_succ]
  simp [h2]
 show (row.take (e + 1)).drop st = (row.take e).drop st ++ [row.getD e 0]
 rw [this, drop_append_of_le_length (by simp; omega)]
theorem xz3 (k : Bool) (s : Int) (row : List Int) (st e : Nat) (h1 : st <= e) (h2 : e < row.length) : pr k s (seg row (st, e + 1)) = (pr k s (seg row (st, e)) && !brk k s row st e) := by
 rw [Bool.eq_iff_iff, Bool.and_eq_true, C3, C3, yn4 row st e h1 h2, pairwise_append]
 unfold brk
 constructor
 ·rintro ⟨a, _, b⟩
  refine ⟨a, ?_⟩
  rw [Bool.not_eq_true', any_eq_false]
  intro x hx z
  have := b x hx _ (List.mem_singleton.mpr rfl)
  unfold rel at this
  have z := of_decide_eq_true z
  omega
 ·rintro ⟨a, b⟩
  refine ⟨a, pairwise_singleton _ _, fun x hx y hy => ?_⟩
  rw [List.mem_singleton.mp hy]
  rw [Bool.not_eq_true', any_eq_false] at b
  have := b x hx
  unfold rel
  have this : ¬ s <= -(gn k (row.getD e 0) x) := fun z => this (decide_eq_true z)
  omega
theorem S5 (k : Bool) (s : Int) (hs : 1 <= s) (row : List Int) (c : Nat) (h : c < row.length) : 1 <= fbs k s (row.drop c) := by
 rw [F7 row c h]
 show 1 <= fb k s (row.getD c 0) (row.getD c 0 :: row.drop (c + 1))
 rw [yq1 k s _ _ hs]
 omega
theorem xi9 (k : Bool) (s : Int) : ∀ (r : List Int) (b : Int), fb k s b r <= r.length
 | [], b => Nat.le_refl _
 | x :: r, b => by
  rw [fb]
  split
  ·exact Nat.zero_le _
  ·have := xi9 k s r (if 0 < gn k x b then x else b); rw [length_cons]; omega
theorem yd5 (k : Bool) (s : Int) (r : List Int) : fbs k s r <= r.length := by
 cases r with
 | nil => exact Nat.le_refl _
 | cons x r => exact xi9 k s _ _
def envQ (row : List Int) (s fall rise : Int) (k0 k : Bool) (cs : List Nat) (c : Nat) : Ro := [some (.sh (.lst (row.map .int))), some (.sh (.int s)), some (.sh (.int fall)), some (.sh (.int rise)), some (.sh (.str (kd k0))), some (.sh (.str (kd k))), some (.own ((NI cs).map .int)), some (.sh (.int (c : Int)))]
theorem xw2 (row : List Int) (s : Int) (hr : row.length <= 300) (fall rise : Int) (k0 k : Bool) (cs : List Nat) (c : Nat) (hc : c < row.length) (hl : cs.length <= c) :
  L9 (envQ row s fall rise k0 k cs c) = some (.nx (envQ row s fall rise k0 (!k) (cs ++ [c]) (c + fbs k s (row.drop c)))) := by
 have big := p5
 unfold L9
 refine seqI (ρ' := envQ row s fall rise k0 k (cs ++ [c]) c) ?_ ?_
 ·have l2 : ((NI cs).map D.int).length < sizeLine := by unfold NI; simp; omega
  unfold envQ
  simp_arith [l2, if_true]
  unfold NI
  simp
 have hfb : u0 zm5 (z8 (mvar 0) (z8 (mvar 1) (z8 (mvar 5) (z8 (mvar 7) anil)))) (envQ row s fall rise k0 k (cs ++ [c]) c) = some (.int ((c + fbs k s (row.drop c) : Nat) : Int)) :=
  w6 (z6 (d := .lst (row.map .int)) rfl (z6 (d := .int s) rfl (z6 (d := .str (kd k)) rfl (z6 (d := .int (c : Int)) rfl y4)))) (Y2 row s k c (by omega) (by omega))
 refine seqI (ρ' := envQ row s fall rise k0 k (cs ++ [c]) (c + fbs k s (row.drop c))) ((j9 hfb).trans rfl) ?_
 unfold envQ
 simp_arith [xp4]
theorem K2 (row : List Int) (s : Int) (hs : 1 <= s) (hr : row.length <= 300) (fall rise : Int) (k0 : Bool) : ∀ (f : Nat) (k : Bool) (cs : List Nat) (c : Nat), row.length - c < f -> cs.length <= c ->
  ∃ k' c', X9 (v7 (m2 ltD (mvar 7) (mlen (bvar 0)))) L9 f (envQ row s fall rise k0 k cs c) = some (.nx (envQ row s fall rise k0 k' (cs ++ T1 s row f k c) c'))
 | 0, _, _, _, h, _ => by omega
 | f + 1, k, cs, c, h, hl => by
  have ht : v7 (m2 ltD (mvar 7) (mlen (bvar 0))) (envQ row s fall rise k0 k cs c) = some (decide ((c : Int) < (row.length : Int))) := zi6 rfl (by unfold envQ; simp_arith [length_map])
  unfold X9
  rw [ht]
  by_cases hc : c < row.length
  ·have hci : ((c : Int) < (row.length : Int)) := by omega
   simp only [hci, decide_true]
   rw [xw2 row s hr fall rise k0 k cs c hc hl]
   have hp := S5 k s hs row c hc
   obtain ⟨k', c', e⟩ := K2 row s hs hr fall rise k0 f (!k) (cs ++ [c]) (c + fbs k s (row.drop c)) (by omega) (by simp; omega)
   refine ⟨k', c', ?_⟩
   simp only
   rw [e, T1, if_pos hc]
   simp
  ·have hci : ¬ ((c : Int) < (row.length : Int)) := by omega
   simp only [hci, decide_false]
   refine ⟨k, c, ?_⟩
   rw [T1, if_neg hc, append_nil]
def T0 (s : Int) (row : List Int) : Nat := fbs true s row
def U8 (s : Int) (row : List Int) : Nat := fbs false s row
def Z5 (s : Int) (row : List Int) : Bool := !decide (T0 s row < U8 s row)
def cut0 (s : Int) (row : List Int) : Nat := min (T0 s row) (U8 s row)
def Y9 (s : Int) (row : List Int) : List Nat := T1 s row 1000 (Z5 s row) (cut0 s row)
theorem zu7 (row : List Int) (s : Int) (hs : 1 <= s) (hr : row.length <= 300) : ys0 [.lst (row.map .int), .int s] = some (.sh (.tup [.str (kd (Z5 s row)), .lst ((NI (Y9 s row)).map .int)])) := by
 unfold ys0 xt7
 refine X2 ?_
 ((apply x9; focus (simp_arith [n6 s hs]; rfl)))
 have f1 := Y2 row s true 0 (Nat.zero_le _) (by omega)
 have f2 := Y2 row s false 0 (Nat.zero_le _) (by omega)
 rw [drop_zero, Nat.zero_add] at f1 f2
 refine x9 ((j9 (w6 (z6 (d := .lst (row.map .int)) rfl (z6 (d := .int s) rfl (z6 (d := .str (kd true)) rfl (z6 (d := .int ((0 : Nat) : Int)) rfl y4)))) f1)).trans rfl) ?_
 refine x9 (ρ' := [some (.sh (.lst (row.map .int))), some (.sh (.int s)), some (.sh (.int (T0 s row : Int))), some (.sh (.int (U8 s row : Int))), none, none, none, none]) ((j9 (w6 (z6 (d := .lst (row.map .int)) rfl (z6 (d := .int s) rfl (z6 (d := .str (kd false)) rfl (z6 (d := .int ((0 : Nat) : Int)) rfl y4)))) f2)).trans rfl) ?_
 refine x9 (ρ' := [some (.sh (.lst (row.map .int))), some (.sh (.int s)), some (.sh (.int (T0 s row : Int))), some (.sh (.int (U8 s row : Int))), some (.sh (.str (kd (Z5 s row)))), none, none, none]) ?_ ?_
 ·by_cases h : T0 s row < U8 s row
  ·have hi : (T0 s row : Int) < (U8 s row : Int) := by omega
   have hk : Z5 s row = false := by unfold Z5; simp [h]
   rw [hk]
   simp_arith [hi, decide_true]
   rfl
  ·have hi : ¬ (T0 s row : Int) < (U8 s row : Int) := by omega
   have hk : Z5 s row = true := by unfold Z5; simp [h]
   rw [hk]
   simp_arith [hi, decide_false]
   rfl
 ((apply x9; focus (simp_arith []; rfl)))
 have i0 : 0 <= sizeLine := Nat.zero_le _
 ((apply x9; focus (simp_arith [i0, if_true]; rfl)))
 refine x9 (ρ' := envQ row s (T0 s row) (U8 s row) (Z5 s row) (Z5 s row) [] (cut0 s row)) ?_ ?_
 ·have hm : min (T0 s row : Int) (U8 s row : Int) = ((cut0 s row : Nat) : Int) := by unfold cut0; omega
  simp_arith [xj7, hm]
  rfl
 obtain ⟨k', c', e⟩ := K2 row s hs hr (T0 s row) (U8 s row) (Z5 s row) 1000 (Z5 s row) [] (cut0 s row) (by omega) (by simp)
 refine x9 e ?_
 unfold zf8
 refine k8 (ds := (NI (Y9 s row)).map .int) rfl ?_
 refine ⟨_, ?_, rfl⟩
 have i2 : 0 + 1 + 1 <= sizeLine := v4 (by decide)
 unfold envQ
 simp_arith [i2, if_true, Y9, nil_append]
section
variable {x y : Nat -> Int} {n k : Nat} {s t : Int}
end
section
variable {x y : Nat -> Int} {n k : Nat} {s t : Int}
end
theorem E1 (s : Int) (row : List Int) (f : Nat) (k : Bool) (c : Nat) (h : row.length <= c) : T1 s row f k c = [] := by
 cases f with
 | zero => rfl
 | succ f => rw [T1, if_neg (by omega)]
theorem W5 (s : Int) (d : Bool) (a b : Int) : far s d a b ↔ s <= gn d b a := by
 unfold far gn; cases d <;> simp
theorem N3 (d : Bool) (a b : Int) : gn (!d) a b = -(gn d a b) := by
 unfold gn; cases d <;> simp <;> omega
theorem P4 (row : List Int) (st e p : Nat) (h1 : st <= p) (h2 : p < e) (h3 : e <= row.length) : (seg row (st, e))[p - st]? = some (xr row p) := by
 unfold seg
 show ((row.take e).drop st)[p - st]? = some (row.getD p 0)
 rw [getElem?_drop, show st + (p - st) = p by omega, getElem?_take_of_lt h2, getD_eq_getElem?_getD, getElem?_eq_getElem (by omega)]
 rfl
theorem X3 {k : Bool} {s : Int} {row : List Int} {st e p q : Nat} (h : pr k s (seg row (st, e)) = true) (h1 : st <= p) (h2 : p < q) (h3 : q < e) (h4 : e <= row.length) : ¬ far s (!k) (xr row p) (xr row q) := by
 rw [C3, pairwise_iff_getElem] at h
 have a := P4 row st e p h1 (by omega) h4
 have b := P4 row st e q (by omega) h3 h4
 obtain ⟨ha, ea⟩ := List.getElem?_eq_some_iff.mp a
 obtain ⟨hb, eb⟩ := List.getElem?_eq_some_iff.mp b
 have := h (p - st) (q - st) ha hb (by omega)
 rw [ea, eb] at this
 unfold rel at this
 rw [W5, N3]
 omega
theorem X0 (row : List Int) (s : Int) : ∀ (cs : List Nat) (k : Bool) (st : Nat) (d : Bool) (p : Nat) (l : List Nat), rise row.length st cs -> alt s row k st cs = true -> st <= p -> Wd (xr row) row.length s d (p :: l) -> (p :: l).length <= cs.length + 1 + (if d = k then 1 else 0)
 | [], k, st, d, p, l, hr, h, hp, hw => by
  have h : pr k s (seg row (st, row.length)) = true := h
  cases l with
  | nil => simp
  | cons q l =>
   have hq := hw.2.2.lt
   by_cases e : d = k
   ·rw [if_pos e]
    cases l with
    | nil => simp
    | cons r l =>
     exfalso
     have h2 := hw.2.2
     rw [e] at h2
     exact X3 h (by have := hw.1; omega) h2.1 h2.2.2.lt (Nat.le_refl _) h2.2.1
   ·exfalso
    have e2 : d = !k := by cases d <;> cases k <;> simp_all
    rw [e2] at hw
    exact X3 h hp hw.1 hq (Nat.le_refl _) hw.2.1
 | c :: cs, k, st, d, p, l, hr, h, hp, hw => by
  obtain ⟨r1, r2, r3⟩ := hr
  have h : (pr k s (seg row (st, c)) && alt s row (!k) c cs) = true := h
  rw [Bool.and_eq_true] at h
  obtain ⟨h1, h2⟩ := h
  rcases Nat.lt_or_ge p c with z | z
  ·cases l with
   | nil => simp; omega
   | cons q l =>
    by_cases e : d = k
    ·rw [if_pos e]
     rcases Nat.lt_or_ge q c with w | w
     ·cases l with
      | nil => simp
      | cons r l =>
       have hw2 := hw.2.2
       have hrc : c <= r := by
        rcases Nat.lt_or_ge r c with y | y
        ·exfalso
         rw [e] at hw2
         exact X3 h1 (by have := hw.1; omega) hw2.1 y (by omega) hw2.2.1
        ·exact y
       have := X0 row s cs (!k) c (!(!d)) r l r3 h2 hrc hw2.2.2
       rw [e, Bool.not_not, if_neg (by cases k <;> simp)] at this
       simp only [length_cons] at this ⊢
       omega
     ·have := X0 row s cs (!k) c (!d) q l r3 h2 w hw.2.2
      rw [e, if_pos rfl] at this
      simp only [length_cons] at this ⊢
      omega
    ·have e2 : d = !k := by cases d <;> cases k <;> simp_all
     have hqc : c <= q := by
      rcases Nat.lt_or_ge q c with y | y
      ·exfalso
       rw [e2] at hw
       exact X3 h1 hp hw.1 y (by omega) hw.2.1
      ·exact y
     have := X0 row s cs (!k) c (!d) q l r3 h2 hqc hw.2.2
     rw [e2, Bool.not_not, if_neg (by cases k <;> simp)] at this
     rw [if_neg e]
     simp only [length_cons] at this ⊢
     omega
  ·have := X0 row s cs (!k) c d p l r3 h2 z hw
   simp only [length_cons] at this ⊢
   split at this <;> split <;> omega
theorem zo8 (row : List Int) (s : Int) (k : Bool) (cs : List Nat) (hr : rise row.length 0 cs) (h1 : pr (!k) s (row.take (ent row.length cs)) = true) (h2 : alt s row k 0 cs.tail = true) {l : List Nat} (h : Wv (xr row) row.length s l) : l.length <= cs.length + 1 := by
 rcases h with rfl | ⟨d, h⟩
 ·simp
 ·cases l with
  | nil => exact h.elim
  | cons p l =>
   cases cs with
   | nil =>
    have b := X0 row s [] k 0 d p l True.intro h2 (Nat.zero_le _) h
    cases l with
    | nil => simp
    | cons q l =>
     exfalso
     have hq := h.2.2.lt
     have h1 : pr (!k) s (seg row (0, row.length)) = true := h1
     have h2 : pr k s (seg row (0, row.length)) = true := h2
     by_cases e : d = k
     ·rw [e] at h
      have := X3 h1 (Nat.zero_le _) h.1 hq (Nat.le_refl _)
      rw [Bool.not_not] at this
      exact this h.2.1
     ·have e2 : d = !k := by cases d <;> cases k <;> simp_all
      rw [e2] at h
      exact X3 h2 (Nat.zero_le _) h.1 hq (Nat.le_refl _) h.2.1
   | cons c cs =>
    obtain ⟨r1, r2, r3⟩ := hr
    have r4 : rise row.length 0 cs := by
     cases cs with
     | nil => exact True.intro
     | cons c2 cs => exact ⟨by have := r3.1; omega, r3.2.1, r3.2.2⟩
    have b := X0 row s cs k 0 d p l r4 h2 (Nat.zero_le _) h
    simp only [length_cons] at b ⊢
    split at b <;> omega
theorem zj3 {k : Bool} {s : Int} {row : List Int} {st e : Nat} (h : brk k s row st e = true) (h2 : e <= row.length) : ∃ j, st <= j /\ j < e /\ far s (!k) (xr row j) (xr row e) := by
 unfold brk at h
 obtain ⟨x, hx, hd⟩ := List.any_eq_true.mp h
 have hd := of_decide_eq_true hd
 obtain ⟨i, hi, ei⟩ := getElem_of_mem hx
 have hl : (seg row (st, e)).length = e - st := by unfold seg; simp; omega
 have g := P4 row st e (st + i) (by omega) (by omega) h2
 rw [show st + i - st = i by omega, getElem?_eq_getElem hi, ei] at g
 cases g
 refine ⟨st + i, by omega, by omega, ?_⟩
 rw [W5, N3]
 exact hd
theorem zk5 (k : Bool) (s : Int) (hs : 1 <= s) (row : List Int) (c e : Nat) (hc : c < row.length) (he : c + fbs k s (row.drop c) = e) (hn : e < row.length) : c < e /\ pr k s (seg row (c, e)) = true /\ brk k s row c e = true := by
 have hp := S5 k s hs row c hc
 have a := yz9 k s hs row c e (by omega) (by omega)
 have b := yz9 k s hs row c (e + 1) (by omega) (by omega)
 rw [he, decide_eq_false (show ¬ ((e : Nat) : Int) < (e : Int) by omega)] at a
 rw [he, decide_eq_true (show ((e : Nat) : Int) < ((e + 1 : Nat) : Int) by omega), xz3 k s row c e (by omega) hn] at b
 cases h : pr k s (seg row (c, e)) with
 | false => rw [h] at a; cases a
 | true =>
  rw [h] at b
  cases h2 : brk k s row c e with
  | false => rw [h2] at b; cases b
  | true => exact ⟨by omega, rfl, rfl⟩
theorem xo8 (row : List Int) (s : Int) (hs : 1 <= s) : ∀ (f : Nat) (k : Bool) (c p : Nat), p < c -> c < row.length -> far s k (xr row p) (xr row c) -> ∃ l, Wd (xr row) row.length s k (p :: l) /\ l.length = (T1 s row f k c).length
 | 0, k, c, p, h1, h2, h3 => ⟨[], show p < row.length by omega, rfl⟩
 | f + 1, k, c, p, h1, h2, h3 => by
  rw [T1, if_pos h2]
  generalize he : c + fbs k s (row.drop c) = e
  rcases Nat.lt_or_ge e row.length with z | z
  ·obtain ⟨g1, g2, g3⟩ := zk5 k s hs row c e h2 he z
   obtain ⟨j0, j1, j2, j3⟩ := zj3 g3 (by omega)
   have : ∃ j, c <= j /\ j < e /\ far s (!k) (xr row j) (xr row e) /\ far s k (xr row p) (xr row j) := by
    rw [W5, N3] at j3
    rw [W5] at h3
    by_cases w : 0 <= gn k (xr row j0) (xr row c)
    ·refine ⟨j0, j1, j2, by rw [W5, N3]; exact j3, ?_⟩
     rw [W5]
     unfold gn at *
     cases k <;> simp at * <;> omega
    ·refine ⟨c, Nat.le_refl _, g1, ?_, by rw [W5]; exact h3⟩
     rw [W5, N3]
     unfold gn at *
     cases k <;> simp at * <;> omega
   obtain ⟨j, q1, q2, q3, q4⟩ := this
   obtain ⟨l, hl, el⟩ := xo8 row s hs f (!k) e j q2 z q3
   exact ⟨j :: l, ⟨by omega, q4, hl⟩, by simp [el]⟩
  ·rw [E1 s row f _ e z]
   exact ⟨[c], ⟨h1, h3, h2⟩, rfl⟩
theorem yx0 (row : List Int) (s : Int) (hs : 1 <= s) (hn : row ≠ []) : ∃ l, Wv (xr row) row.length s l /\ l.length = (Y9 s row).length + 1 := by
 have hp : 0 < row.length := List.length_pos_iff.mpr hn
 by_cases h : cut0 s row < row.length
 ·have fe : ∀ k, (if k then U8 s row else T0 s row) = cut0 s row -> ∃ j, j < cut0 s row /\ far s k (xr row j) (xr row (cut0 s row)) := by
   intro k hk
   have e : 0 + fbs (!k) s (row.drop 0) = cut0 s row := by
    rw [<- hk, drop_zero, Nat.zero_add]
    cases k <;> rfl
   obtain ⟨_, _, g3⟩ := zk5 (!k) s hs row 0 _ hp e h
   obtain ⟨j, _, j2, j3⟩ := zj3 g3 (by omega)
   rw [Bool.not_not] at j3
   exact ⟨j, j2, j3⟩
  have hk : (if Z5 s row then U8 s row else T0 s row) = cut0 s row := by
   unfold Z5 cut0
   by_cases w : T0 s row < U8 s row
   ·rw [decide_eq_true w]; simp; omega
   ·rw [decide_eq_false w]; simp; omega
  obtain ⟨j, j1, j2⟩ := fe _ hk
  obtain ⟨l, hl, el⟩ := xo8 row s hs 1000 (Z5 s row) (cut0 s row) j j1 h j2
  exact ⟨j :: l, .inr ⟨_, hl⟩, by simp only [length_cons]; rw [el]; rfl⟩
 ·refine ⟨[0], .inr ⟨true, hp⟩, ?_⟩
  unfold Y9
  rw [E1 s row _ _ _ (by omega)]; rfl
theorem zo6 {k : Bool} {s : Int} {row : List Int} {st e : Nat} (h4 : e <= row.length) (h : ∀ p q, st <= p -> p < q -> q < e -> ¬ far s (!k) (xr row p) (xr row q)) : pr k s (seg row (st, e)) = true := by
 rw [C3, pairwise_iff_getElem]
 have hl : (seg row (st, e)).length = e - st := by unfold seg; simp; omega
 intro i j hi hj hij
 have a := P4 row st e (st + i) (by omega) (by omega) h4
 have b := P4 row st e (st + j) (by omega) (by omega) h4
 rw [show st + i - st = i by omega, getElem?_eq_getElem hi] at a
 rw [show st + j - st = j by omega, getElem?_eq_getElem hj] at b
 have := h (st + i) (st + j) (by omega) (by omega) (by omega)
 rw [W5, N3, <- Option.some.inj a, <- Option.some.inj b] at this
 unfold rel
 omega
theorem zz1 (k : Bool) (s : Int) (hs : 1 <= s) (row : List Int) (c e : Nat) (hc : c <= e) (he : e <= row.length) (hn : e <= c + fbs k s (row.drop c)) : pr k s (seg row (c, e)) = true := by
 have a := yz9 k s hs row c e hc he
 rw [decide_eq_false (by omega)] at a
 cases h : pr k s (seg row (c, e)) with
 | true => rfl
 | false => rw [h] at a; cases a
theorem B6 (s : Int) (hs : 1 <= s) (row : List Int) : ∀ (f : Nat) (k : Bool) (l c : Nat), l < c -> rise row.length l (T1 s row f k c)
 | 0, _, _, _, _ => True.intro
 | f + 1, k, l, c, h => by
  rw [T1]
  split
  ·rename_i hc
   have := S5 k s hs row c hc
   exact ⟨h, hc, B6 s hs row f _ c _ (by omega)⟩
  ·exact True.intro
theorem zq4 (s : Int) (hs : 1 <= s) (row : List Int) : ∀ (f : Nat) (k : Bool) (st c : Nat), row.length - c < f -> st <= c -> pr k s (seg row (st, min c row.length)) = true -> alt s row k st (T1 s row f (!k) c) = true
 | 0, _, _, _, h, _, _ => by omega
 | f + 1, k, st, c, h, hst, hp => by
  rw [T1]
  split
  ·rename_i hc
   have hpos := S5 (!k) s hs row c hc
   rw [Nat.min_eq_left (by omega)] at hp
   show (pr k s (seg row (st, c)) && alt s row (!k) c (T1 s row f (!(!k)) (c + fbs (!k) s (row.drop c)))) = true
   rw [hp, Bool.true_and]
   exact zq4 s hs row f (!k) c _ (by omega) (by omega) (zz1 _ s hs row c _ (by omega) (by omega) (by omega))
  ·rename_i hc
   rw [Nat.min_eq_right (by omega)] at hp
   exact hp
theorem zu6 (row : List Int) (s : Int) (hs : 1 <= s) (hr : row.length <= 300) : rise row.length 0 (Y9 s row) /\ pr (!(Z5 s row)) s (row.take (ent row.length (Y9 s row))) = true /\ alt s row (Z5 s row) 0 (Y9 s row).tail = true := by
 have hfl : T0 s row <= row.length := yd5 _ _ _
 have hrl : U8 s row <= row.length := yd5 _ _ _
 have fk : ∀ k, fbs k s (row.drop 0) = if k then T0 s row else U8 s row := by intro k; rw [drop_zero]; cases k <;> rfl
 have near : ∀ k, pr k s (seg row (0, cut0 s row)) = true := fun k => zz1 k s hs row 0 _ (Nat.zero_le _) (by unfold cut0; omega) (by rw [fk k]; unfold cut0; cases k <;> simp <;> omega)
 by_cases h : cut0 s row < row.length
 ·have hp : 0 < row.length := by omega
  have e : Y9 s row = cut0 s row :: T1 s row 999 (!(Z5 s row)) (cut0 s row + fbs (Z5 s row) s (row.drop (cut0 s row))) := by
   unfold Y9
   rw [show (1000 : Nat) = 999 + 1 from rfl, T1, if_pos h]
  have c0 : 0 < cut0 s row := by
   have a := S5 true s hs row 0 hp
   have b := S5 false s hs row 0 hp
   rw [fk] at a b
   unfold cut0
   simp at a b
   omega
  have hk : fbs (!(Z5 s row)) s (row.drop 0) = cut0 s row := by
   rw [fk]
   unfold Z5 cut0
   by_cases w : T0 s row < U8 s row
   ·rw [decide_eq_true w]; simp; omega
   ·rw [decide_eq_false w]; simp; omega
  obtain ⟨_, _, g3⟩ := zk5 (!(Z5 s row)) s hs row 0 (cut0 s row) hp (by rw [hk]; omega) h
  obtain ⟨j, _, j2, j3⟩ := zj3 g3 (by omega)
  rw [Bool.not_not] at j3
  have nn := (zf6 s hs (seg row (0, cut0 s row))).mp ⟨(C3 _ _ _).mp (near true), (C3 _ _ _).mp (near false)⟩
  have mem : ∀ p, p < cut0 s row -> xr row p ∈ seg row (0, cut0 s row) := fun p hp => mem_of_getElem? (P4 row 0 (cut0 s row) p (Nat.zero_le _) hp (by omega))
  generalize hkk : Z5 s row = k at *
  generalize hc1 : cut0 s row = c1 at *
  have hpos := S5 k s hs row c1 h
  have p2 : pr k s (seg row (c1, min (c1 + fbs k s (row.drop c1)) row.length)) = true := zz1 k s hs row c1 _ (by omega) (by omega) (by omega)
  have p3 : pr k s (seg row (0, min (c1 + fbs k s (row.drop c1)) row.length)) = true := by
   refine zo6 (by omega) fun p q _ hpq hq hf => ?_
   rcases Nat.lt_or_ge q c1 with z | z
   ·exact X3 (near k) (Nat.zero_le _) hpq z (by omega) hf
   ·rcases Nat.lt_or_ge p c1 with y | y
    ·have n1 := nn _ (mem p y) _ (mem j j2)
     have n2 := nn _ (mem j j2) _ (mem p y)
     rw [W5, N3] at hf
     rw [W5] at j3
     rcases Nat.lt_or_ge c1 q with x | x
     ·have := X3 p2 (Nat.le_refl _) x hq (by omega)
      rw [W5, N3] at this
      unfold gn at *
      cases k <;> simp at * <;> omega
     ·have : q = c1 := by omega
      subst this
      unfold gn at *
      cases k <;> simp at * <;> omega
    ·exact X3 p2 y hpq hq (by omega) hf
  rw [e]
  refine ⟨⟨c0, h, B6 s hs row _ _ _ _ (by omega)⟩, near (!k), ?_⟩
  exact zq4 s hs row 999 k 0 _ (by omega) (by omega) p3
 ·have e : Y9 s row = [] := E1 s row _ _ _ (by omega)
  have ec : cut0 s row = row.length := by unfold cut0 at *; omega
  rw [ec] at near
  rw [e]
  exact ⟨True.intro, near _, near _⟩
end
section
open PySem L2
def wt (w : Nat -> Int) (l : List Nat) : Int := (l.map w).sum
theorem za6 (w : Nat -> Int) (p : Nat) (l : List Nat) : wt w (p :: l) = w p + wt w l := by unfold wt; rw [map_cons, sum_cons]
def HT (w : Nat -> Int) (l : List Nat) : D := .tup [.int (wt w l), L l]
def KH (w : Nat -> Int) (l : List Nat) : D := .tup [.int (-(wt w l)), .int (l.length : Int), L l]
theorem keyH (w : Nat -> Int) (l : List Nat) : m_Z7 [HT w l] = some (.sh (KH w l)) := by
 unfold m_Z7 b_Z7
 have i3 : 0 + 1 + 1 + 1 <= sizeLine := v4 (by decide)
 refine j5 ?_
 refine seqI (ρ' := [some (.sh (HT w l)), some (.sh (.int (wt w l))), some (.sh (L l))]) rfl ?_
 unfold HT KH L
 simp_arith [i3, if_true, length_map]
theorem D7 : ∀ l m : List Nat, ∃ b, zipE (eqF 6) (l.map dN) (m.map dN) = some b
 | [], _ => ⟨true, by unfold zipE; rfl⟩
 | _ :: _, [] => ⟨true, rfl⟩
 | a :: l, b :: m => by
  obtain ⟨c, e⟩ := D7 l m
  rw [map_cons, map_cons, zipE, e]
  exact ⟨_, rfl⟩
theorem C6 : ∀ l m : List Nat, ∃ b, lexF (eqF 6) (ltF 6) (l.map dN) (m.map dN) = some b
 | [], [] => ⟨_, rfl⟩
 | [], _ :: _ => ⟨_, rfl⟩
 | _ :: _, [] => ⟨_, rfl⟩
 | a :: l, b :: m => by
  obtain ⟨c, e⟩ := C6 l m
  rw [map_cons, map_cons, lexF, show eqF 6 (dN a) (dN b) = some ((a : Int) == (b : Int)) from rfl]
  cases ((a : Int) == (b : Int)) with
  | true => exact ⟨c, e⟩
  | false => exact ⟨_, rfl⟩
theorem yi8 (w : Nat -> Int) (l m : List Nat) : ∃ b, ltF 8 (KH w l) (KH w m) = some b := by
 show ∃ b, lexF (eqF 7) (ltF 7) [.int (-(wt w l)), .int (l.length : Int), L l] [.int (-(wt w m)), .int (m.length : Int), L m] = some b
 rw [lexF, show eqF 7 (.int (-(wt w l))) (.int (-(wt w m))) = some (-(wt w l) == -(wt w m)) from rfl]
 cases (-(wt w l) == -(wt w m)) with
 | false => exact ⟨_, rfl⟩
 | true =>
  simp only
  rw [lexF, show eqF 7 (.int (l.length : Int)) (.int (m.length : Int)) = some ((l.length : Int) == (m.length : Int)) from rfl]
  cases ((l.length : Int) == (m.length : Int)) with
  | false => exact ⟨_, rfl⟩
  | true =>
   simp only
   obtain ⟨b, e⟩ := D7 l m
   have e7 : eqF 7 (L l) (L m) = some (if (l.map dN).length = (m.map dN).length then b else false) := by
    show (if (l.map dN).length = (m.map dN).length then zipE (eqF 6) (l.map dN) (m.map dN) else some false) = _
    rw [e]; split <;> rfl
   rw [lexF, e7]
   cases (if (l.map dN).length = (m.map dN).length then b else false) with
   | true => exact ⟨_, rfl⟩
   | false => exact C6 l m
theorem G0 {w : Nat -> Int} {mk : D -> Option D} (hk : ∀ l, mk (HT w l) = some (KH w l)) : ∀ (ls : List (List Nat)) (b : List Nat), ∃ r, minF mk (ls.map (HT w)) (HT w b) (KH w b) = some (HT w r) /\ r ∈ b :: ls
 | [], b => ⟨b, rfl, by simp⟩
 | m :: ls, b => by
  rw [map_cons]
  unfold minF
  rw [hk m]
  obtain ⟨c, e⟩ := yi8 w m b
  simp only [e]
  cases c with
  | true =>
   obtain ⟨r, e, h1⟩ := G0 hk ls m
   exact ⟨r, e, mem_cons_of_mem _ h1⟩
  | false =>
   obtain ⟨r, e, h1⟩ := G0 hk ls b
   refine ⟨r, e, ?_⟩
   rcases List.mem_cons.mp h1 with h1 | h1
   ·simp [h1]
   ·simp [h1]
theorem g0 (w : Nat -> Int) (ls : List (List Nat)) (hl : ls.length <= 1000) : ∃ r, m_Z2 [.lst (ls.map (HT w))] = some (.sh (HT w r)) /\ r ∈ [] :: ls := by
 obtain ⟨r, e, h1⟩ := G0 (w := w) (mk := fun d => shOf (m_Z7 [d])) (fun l => by rw [keyH]; rfl) ls []
 refine ⟨r, ?_, h1⟩
 have big := p5
 unfold m_Z2 b_Z2
 refine j5 (Z0 ?_)
 have i1 : 1 <= sizeLine := v4 (by decide)
 have i2 : 2 <= sizeLine := v4 (by decide)
 have e0 : w9 (z8 (mtup (z8 (mc (.int 0)) (z8 (mlst (w9 anil)) anil))) anil) (v3 1 [.lst (ls.map (HT w))]) = some [HT w []] :=
  v5 (z6 (S4 (z6 (d := .int 0) rfl (z6 (p8 (v5 y4 (Nat.zero_le _))) y4)) i2) y4) i1
 have e1 : mcat (w9 (z8 (mtup (z8 (mc (.int 0)) (z8 (mlst (w9 anil)) anil))) anil)) (bvar 0) (v3 1 [.lst (ls.map (HT w))]) = some (HT w [] :: ls.map (HT w)) :=
  zn9 e0 (show bvar 0 (v3 1 [.lst (ls.map (HT w))]) = some (ls.map (HT w)) from rfl) (by rw [length_map, length_singleton]; omega)
 rw [yj7 e1]
 show (match shOf (m_Z7 [HT w []]) with | some kd => minF _ (ls.map (HT w)) (HT w []) kd | none => none) = _
 rw [keyH]
 exact e
def envH (row ws : List Int) (s : Int) (U V : List (List Nat)) (o7 o8 o9 : Option S) : Ro := [some (.sh (.lst (row.map .int))), some (.sh (.int s)), some (.sh (.lst (ws.map .int))), some (.sh (.lst (((List.range row.length).map (abv row s true)).map L))), some (.sh (.lst (((List.range row.length).map (abv row s false)).map L))), some (.own (U.map (HT (xr ws)))), some (.own (V.map (HT (xr ws)))), o7, o8, o9]
theorem xa3 (w : Nat -> Int) (U : List (List Nat)) (p : Nat) (h : p < U.length) : atI (U.map (HT w)) (p : Int) = some (HT w (U.getD p [])) := by
 have := zw2 (HT w) U (p : Int) (by omega) (by omega) []
 rw [Int.toNat_natCast] at this
 exact this
theorem ym2 {α : Type} (f : Nat -> α) (n p : Nat) (h : p < n) (d : α) : ((List.range n).map f).getD p d = f p := by
 rw [getD_eq_getElem?_getD, getElem?_map, getElem?_range h]; rfl
theorem yd4 (row ws : List Int) (s : Int) (hw : ws.length = row.length) (d : Bool) (i ia : Nat) (U V M : List (List Nat)) (p : Nat) (hp : p < row.length) (hr : row.length <= 300) (hM : M.length = row.length) (ρ : Ro)
  (hi : ρ[i]? = some (some (.own (M.map (HT (xr ws)))))) (ha : ρ[ia]? = some (some (.sh (.lst (((List.range row.length).map (abv row s d)).map L))))) (h7 : ρ[7]? = some (some (.sh (.int (p : Int))))) :
  V3 [none, some i] (l6 (mix (bvar ia) (mvar 7))) (.nm 0) cyes (mix (bvar 1) (mvar 0)) ρ = some (((abv row s d p).map fun q => M.getD q []).map (HT (xr ws))) := by
 have e7 : mvar 7 ρ = some (.int (p : Int)) := by unfold mvar; rw [h7]
 have ea : bvar ia ρ = some (((List.range row.length).map (abv row s d)).map L) := by unfold bvar; rw [ha]
 have e1 : l6 (mix (bvar ia) (mvar 7)) ρ = some ((abv row s d p).map dN) := by
  refine i8 (i5 ea e7 ?_)
  rw [at_L _ p (by simp; exact hp), ym2 _ _ _ hp]; rfl
 have eb : E2 [none, some i] ρ = [none, some (.own (M.map (HT (xr ws))))] := by
  unfold E2
  simp only [map_cons, map_nil, Option.bind_none, Option.bind_some, hi]
 have al := U0 row s d p
 unfold V3
 rw [e1, Option.bind_some, eb]
 rw [Q7 (f := dN) (G := fun q => HT (xr ws) (M.getD q [])) (fun qs ρ => (∀ q ∈ qs, q < row.length) /\ ∃ o, ρ = [o, some (.own (M.map (HT (xr ws))))])
  (by
   rintro q qs ρ ⟨hq, o, rfl⟩
   have := hq q (by simp)
   exact ⟨_, rfl, rfl, i5 (ds := M.map (HT (xr ws))) (k := (q : Int)) rfl rfl (xa3 _ M q (by omega)), fun r hr => hq r (by simp [hr]), _, rfl⟩) (abv row s d p) _ [] ⟨fun q hq => (abv_mem.mp hq).2.1, none, rfl⟩ (v4 (by simp only [length_nil]; omega)), nil_append, map_map]
 rfl
theorem yf8 (ws : List Int) (i : Nat) (U : List (List Nat)) (p : Nat) (r : List Nat) (hp : p < ws.length) (hU : U.length = ws.length) (hr : r.length <= 1000) (ρ : Ro) (hi : ρ[i]? = some (some (.own (U.map (HT (xr ws)))))) (h2 : ρ[2]? = some (some (.sh (.lst (ws.map .int))))) (h7 : ρ[7]? = some (some (.sh (.int (p : Int)))))
  (h8 : ρ[8]? = some (some (.sh (.int (wt (xr ws) r))))) (h9 : ρ[9]? = some (some (.sh (L r)))) :
  g7 i (mvar 7) (mtup (z8 (m2 addD (mix (bvar 2) (mvar 7)) (mvar 8)) (z8 (mlst (mcat (w9 (z8 (mvar 7) anil)) (bvar 9))) anil))) ρ = some (.nx (ρ.set i (some (.own ((U.set p (p :: r)).map (HT (xr ws))))))) := by
 have big := p5
 have i1 : 1 <= sizeLine := v4 (by decide)
 have i2 : 2 <= sizeLine := v4 (by decide)
 have e7 : mvar 7 ρ = some (.int (p : Int)) := by unfold mvar; rw [h7]
 have e8 : mvar 8 ρ = some (.int (wt (xr ws) r)) := by unfold mvar; rw [h8]
 have e2 : bvar 2 ρ = some (ws.map .int) := by unfold bvar; rw [h2]
 have e9 : bvar 9 ρ = some (r.map dN) := by unfold bvar; rw [h9]; rfl
 have a1 : m2 addD (mix (bvar 2) (mvar 7)) (mvar 8) ρ = some (.int (wt (xr ws) (p :: r))) := by
  rw [k9 (i5 e2 e7 (ze5 ws p hp)) e8, za6]; rfl
 have a2 : mlst (mcat (w9 (z8 (mvar 7) anil)) (bvar 9)) ρ = some (L (p :: r)) := by
  rw [p8 (zn9 (v5 (z6 e7 y4) i1) e9 (by rw [length_map, length_singleton]; omega))]; rfl
 have ev : mtup (z8 (m2 addD (mix (bvar 2) (mvar 7)) (mvar 8)) (z8 (mlst (mcat (w9 (z8 (mvar 7) anil)) (bvar 9))) anil)) ρ = some (HT (xr ws) (p :: r)) := S4 (z6 a1 (z6 a2 y4)) i2
 unfold g7
 rw [ev, hi, e7]
 show ((ixN (U.map (HT (xr ws))).length (p : Int)).map fun j => Out.nx (ρ.set i (some (.own ((U.map (HT (xr ws))).set j (HT (xr ws) (p :: r))))))) = _
 rw [length_map, zm9 _ _ (by omega)]
 show some (Out.nx _) = _
 rw [map_set]
theorem xu3 {α : Type} (l : List α) (q : Nat) (h : q < l.length) (d : α) : l.getD q d ∈ l := by
 rw [getD_eq_getElem?_getD, getElem?_eq_getElem h]; exact getElem_mem h
theorem zv2 {U : List (List Nat)} {p N : Nat} {r : List Nat} (h : ∀ l ∈ U, l.length <= N) (hr : r.length <= N) : ∀ l ∈ U.set p r, l.length <= N := fun l hl => by
 rcases mem_or_eq_of_mem_set hl with z | z
 ·exact h l z
 ·rw [z]; exact hr
theorem zi9 {row : List Int} {s : Int} {d : Bool} {p N : Nat} {M : List (List Nat)} (lM : M.length = row.length) (hM : ∀ l ∈ M, l.length <= N) {r : List Nat} (h : r ∈ [] :: (abv row s d p).map fun q => M.getD q []) : r.length <= N := by
 rcases List.mem_cons.mp h with rfl | h
 ·simp
 ·obtain ⟨q, hq, rfl⟩ := List.mem_map.mp h
  exact hM _ (xu3 M q (by rw [lM]; exact (abv_mem.mp hq).2.1) [])
def Bd (N : Nat) (U V : List (List Nat)) : Prop := (∀ l ∈ U, l.length <= N) /\ ∀ l ∈ V, l.length <= N
theorem yc1 (row ws : List Int) (s : Int) (hw : ws.length = row.length) (hr : row.length <= 300) (U V : List (List Nat)) (p N : Nat) (hN : N <= 700) (hp : p < row.length) (hU : U.length = row.length) (hV : V.length = row.length) (hd : Bd N U V) (o8 o9 : Option S) :
  ∃ U' V' o8' o9', U'.length = row.length /\ V'.length = row.length /\ Bd (N + 2) U' V' /\ zw0 (envH row ws s U V (some (.sh (.int (p : Int)))) o8 o9) = some (.nx (envH row ws s U' V' (some (.sh (.int (p : Int)))) o8' o9')) := by
 unfold zw0
 have al1 := U0 row s true p
 have al2 := U0 row s false p
 obtain ⟨r1, e1, m1⟩ := g0 (xr ws) ((abv row s true p).map fun q => V.getD q []) (by rw [length_map]; omega)
 have c1 := yd4 row ws s hw true 6 3 U V V p hp hr hV (envH row ws s U V (some (.sh (.int (p : Int)))) o8 o9) rfl rfl rfl
 have l1 := zi9 hV hd.2 m1
 have hU' : (U.set p (p :: r1)).length = row.length := by rw [length_set]; exact hU
 have dU' : ∀ l ∈ U.set p (p :: r1), l.length <= N + 1 := zv2 (fun l hl => Nat.le_succ_of_le (hd.1 l hl)) (by simp; omega)
 obtain ⟨r2, e2, m2'⟩ := g0 (xr ws) ((abv row s false p).map fun q => (U.set p (p :: r1)).getD q []) (by rw [length_map]; omega)
 have c2 := yd4 row ws s hw false 5 4 U V (U.set p (p :: r1)) p hp hr hU' (envH row ws s (U.set p (p :: r1)) V (some (.sh (.int (p : Int)))) (some (.sh (.int (wt (xr ws) r1)))) (some (.sh (L r1)))) rfl rfl rfl
 have l2 := zi9 hU' dU' m2'
 refine ⟨U.set p (p :: r1), V.set p (p :: r2), some (.sh (.int (wt (xr ws) r2))), some (.sh (L r2)), hU', by rw [length_set]; exact hV, ⟨fun l hl => Nat.le_succ_of_le (dU' l hl), zv2 (fun l hl => Nat.le_trans (hd.2 l hl) (by omega)) (by simp; omega)⟩, ?_⟩
 refine seqI (ρ' := envH row ws s U V (some (.sh (.int (p : Int)))) (some (.sh (.int (wt (xr ws) r1)))) (some (.sh (L r1)))) (by unfold masg; rw [w6 (z6 (p8 c1) y4) e1]; rfl) ?_
 refine seqI (ρ' := envH row ws s (U.set p (p :: r1)) V (some (.sh (.int (p : Int)))) (some (.sh (.int (wt (xr ws) r1)))) (some (.sh (L r1)))) ((yf8 ws 5 U p r1 (by omega) (by omega) (by omega) (envH row ws s U V (some (.sh (.int (p : Int)))) (some (.sh (.int (wt (xr ws) r1)))) (some (.sh (L r1)))) rfl rfl rfl rfl rfl).trans rfl) ?_
 refine seqI (ρ' := envH row ws s (U.set p (p :: r1)) V (some (.sh (.int (p : Int)))) (some (.sh (.int (wt (xr ws) r2)))) (some (.sh (L r2)))) (by unfold masg; rw [w6 (z6 (p8 c2) y4) e2]; rfl) ?_
 exact (yf8 ws 6 V p r2 (by omega) (by omega) (by omega) (envH row ws s (U.set p (p :: r1)) V (some (.sh (.int (p : Int)))) (some (.sh (.int (wt (xr ws) r2)))) (some (.sh (L r2)))) rfl rfl rfl rfl rfl).trans rfl
theorem ya5 (w : Nat -> Int) (n : Nat) : (List.replicate n [HT w []]).flatten = (List.replicate n ([] : List Nat)).map (HT w) := by
 induction n with
 | zero => rfl
 | succ n ih => rw [replicate_succ, flatten_cons, ih, replicate_succ, map_cons]; rfl
theorem D4 (row ws : List Int) (s : Int) (hw : ws.length = row.length) (hr : row.length <= 300) : ∃ U V : List (List Nat), xv2 [.lst (row.map .int), .int s, .lst (ws.map .int)] = some (.sh (.tup [.lst (U.map (HT (xr ws))), .lst (V.map (HT (xr ws)))])) /\ U.length = row.length /\ V.length = row.length := by
 suffices h : Run yg9 (v3 10 [.lst (row.map .int), .int s, .lst (ws.map .int)]) (fun o => ∃ U V : List (List Nat), o = .rt (.tup [.lst (U.map (HT (xr ws))), .lst (V.map (HT (xr ws)))]) /\ U.length = row.length /\ V.length = row.length) by
  obtain ⟨o, e, U, V, rfl, r⟩ := h
  exact ⟨U, V, j5 e, r⟩
 unfold yg9
 have big := p5
 have i1 : 1 <= sizeLine := v4 (by decide)
 have i2 : 2 <= sizeLine := v4 (by decide)
 have k2 : okR (row.length : Int) = true := Q3 (by omega) (by omega)
 have rk : zv9 1 (row.length : Int) = true := by
  unfold zv9
  rw [decide_eq_true (by omega), decide_eq_true (by omega), decide_eq_true (by rw [Int.toNat_natCast]; omega)]; rfl
 refine x9 (ρ' := [some (.sh (.lst (row.map .int))), some (.sh (.int s)), some (.sh (.lst (ws.map .int))), some (.sh (.lst (((List.range row.length).map (abv row s true)).map L))), some (.sh (.lst (((List.range row.length).map (abv row s false)).map L))), none, none, none, none, none]) ?_ ?_
 ·unfold masg
  rw [w6 (z6 (d := .lst (row.map .int)) rfl (z6 (d := .int s) rfl y4)) (T5 row s hr)]; rfl
 have rep : ∀ ρ : Ro, bvar 0 ρ = some (row.map .int) -> mrep (w9 (z8 (mtup (z8 (mc (.int 0)) (z8 (mlst (w9 anil)) anil))) anil)) (mlen (bvar 0)) ρ = some ((List.replicate row.length ([] : List Nat)).map (HT (xr ws))) := by
  intro ρ h0
  have e0 : w9 (z8 (mtup (z8 (mc (.int 0)) (z8 (mlst (w9 anil)) anil))) anil) ρ = some [HT (xr ws) []] :=
   v5 (z6 (S4 (z6 (d := .int 0) rfl (z6 (p8 (v5 y4 (Nat.zero_le _))) y4)) i2) y4) i1
  have el : mlen (bvar 0) ρ = some (.int (row.length : Int)) := by rw [i4 h0, length_map]
  rw [zn5 e0 el rk, Int.toNat_natCast, ya5]
 refine x9 (ρ' := [some (.sh (.lst (row.map .int))), some (.sh (.int s)), some (.sh (.lst (ws.map .int))), some (.sh (.lst (((List.range row.length).map (abv row s true)).map L))), some (.sh (.lst (((List.range row.length).map (abv row s false)).map L))), some (.own ((List.replicate row.length ([] : List Nat)).map (HT (xr ws)))), none, none, none, none]) (by unfold f9; rw [rep _ rfl]; rfl) ?_
 refine x9 (ρ' := envH row ws s (List.replicate row.length []) (List.replicate row.length []) none none none) (by unfold f9; rw [rep _ rfl]; rfl) ?_
 have ed : D5 row.length = (List.range row.length).map fun (j : Nat) => D.int ((row.length : Int) - 1 - (j : Int)) := rfl
 refine l9 (U2 row.length (f := fun (j : Nat) => D.int ((row.length : Int) - 1 - (j : Int))) ?_
  (I := fun j ρ => ∃ U V o7 o8 o9, U.length = row.length /\ V.length = row.length /\ Bd (2 * j) U V /\ ρ = envH row ws s U V o7 o8 o9) _
  ⟨_, _, _, _, _, by simp, by simp, ⟨fun l hl => by rw [(List.mem_replicate.mp hl).2]; simp, fun l hl => by rw [(List.mem_replicate.mp hl).2]; simp⟩, rfl⟩ ?_ ?_)
 ·unfold r6
  rw [z6 (x := mlen (bvar 0)) (d := .int ((row.map D.int).length : Int)) (i4 rfl) y4, Option.bind_some, length_map, zo3 k2, Int.toNat_natCast, ed]
 ·rintro j ρ hj ⟨U, V, o7, o8, o9, hU, hV, hd, rfl⟩
  have e : (row.length : Int) - 1 - (j : Int) = ((row.length - 1 - j : Nat) : Int) := by omega
  refine ⟨envH row ws s U V (some (.sh (.int ((row.length - 1 - j : Nat) : Int)))) o8 o9, by rw [e]; rfl, ?_⟩
  obtain ⟨U', V', o8', o9', hU', hV', hd', e2⟩ := yc1 row ws s hw hr U V (row.length - 1 - j) (2 * j) (by omega) (by omega) hU hV hd o8 o9
  exact ⟨_, e2, U', V', _, _, _, hU', hV', hd', rfl⟩
 ·rintro ρ ⟨U, V, o7, o8, o9, hU, hV, hd, rfl⟩
  unfold ze2
  refine k8 (ds := U.map (HT (xr ws))) rfl (k8 (ds := V.map (HT (xr ws))) rfl ⟨_, Z0 (S4 (z6 (d := .lst (U.map (HT (xr ws)))) rfl (z6 (d := .lst (V.map (HT (xr ws)))) rfl y4)) i2), U, V, rfl, hU, hV⟩)
theorem zk1 (row ws : List Int) (s : Int) (hs : 1 <= s) (hw : ws.length = row.length) (h0 : ∀ x ∈ ws, 0 <= x) (hr : row.length <= 300) : ∃ l, yt9 [.lst (row.map .int), .int s, .lst (ws.map .int)] = some (.sh (HT (xr ws) l)) := by
 obtain ⟨U, V, et, hU, hV⟩ := D4 row ws s hw hr
 obtain ⟨r, e, m⟩ := g0 (xr ws) (U ++ V) (by rw [length_append]; omega)
 have big := p5
 refine ⟨r, ?_⟩
 ·unfold yt9 xt6
  refine X2 ?_
  refine x9 (ρ' := [some (.sh (.lst (row.map .int))), some (.sh (.int s)), some (.sh (.lst (ws.map .int))), none, none]) ?_ ?_
  ·unfold U9
   rw [w6 (z6 (d := .int s) rfl y4) (n6 s hs)]; rfl
  refine x9 (ρ' := [some (.sh (.lst (row.map .int))), some (.sh (.int s)), some (.sh (.lst (ws.map .int))), none, none]) ?_ ?_
  ·unfold U9
   rw [w6 (z6 (d := .lst (row.map .int)) rfl (z6 (d := .lst (ws.map .int)) rfl y4)) (P6 row ws hw h0)]; rfl
  refine x9 (ρ' := [some (.sh (.lst (row.map .int))), some (.sh (.int s)), some (.sh (.lst (ws.map .int))), some (.sh (.lst (U.map (HT (xr ws))))), some (.sh (.lst (V.map (HT (xr ws)))))]) ?_ ?_
  ·unfold masg
   rw [w6 (z6 (d := .lst (row.map .int)) rfl (z6 (d := .int s) rfl (z6 (d := .lst (ws.map .int)) rfl y4))) et]; rfl
  ·have hz : (U.map (HT (xr ws))).length + (V.map (HT (xr ws))).length <= sizeLine := v4 (by simp; omega)
   have e1 : m2 addD (mvar 3) (mvar 4) [some (.sh (.lst (row.map .int))), some (.sh (.int s)), some (.sh (.lst (ws.map .int))), some (.sh (.lst (U.map (HT (xr ws))))), some (.sh (.lst (V.map (HT (xr ws)))))] = some (.lst ((U ++ V).map (HT (xr ws)))) := by
    refine (k9 (a := .lst (U.map (HT (xr ws)))) (b := .lst (V.map (HT (xr ws)))) rfl rfl).trans ?_
    show (if (U.map (HT (xr ws))).length + (V.map (HT (xr ws))).length <= sizeLine then some (D.lst (U.map (HT (xr ws)) ++ V.map (HT (xr ws)))) else none) = _
    rw [if_pos hz, map_append]
   exact ⟨_, Z0 (w6 (z6 e1 y4) e), rfl⟩
end
section
open PySem L2
abbrev Gn : List Str := ["least_step", "numbers", "weights", "lengths"]
abbrev Gf (s : Int) (ns ws ls : List Int) : List Fl := [.v (.int s), .l (ns.map .int), .l (ws.map .int), .l (ls.map .int)]
abbrev Gc (s : Int) (ns ws ls : List Int) : Cell := .ins "Grown" Gn (Gf s ns ws ls)
abbrev Go (s : Int) (ns ws ls : List Int) : D := .obj "Grown" Gn [.int s, .lst (ns.map .int), .lst (ws.map .int), .lst (ls.map .int)]
theorem yd7 (s : Int) (ns ws ls : List Int) : zj1 (Gc s ns ws ls) = Go s ns ws ls := rfl
theorem i9 {x y : MW} {ρ ρ' : Ro} {β β' : Bx} (h : x ρ β = some (.nx ρ', β')) : W6 x y ρ β = y ρ' β' := by unfold W6; rw [h]
theorem zw6 {m : MS} {ρ ρ' : Ro} {β : Bx} (h : m ρ = some (.nx ρ')) : wS m ρ β = some (.nx ρ', β) := by unfold wS; rw [h]
theorem Y7 (x : Addr) (c : Cell) (β : Bx) : List.lookup x ((x, c) :: β) = some c := by rw [lookup_cons, beq_self_eq_true]
theorem R4 (x : Addr) (c c' : Cell) (β : Bx) : updB x c' ((x, c) :: β) = (x, c') :: β := by unfold updB; rw [if_pos rfl]
theorem xu5 {i : Nat} {c f : Str} {x : Ro -> Bx -> Option D} {ρ : Ro} {β : Bx} {d : D} {p : Addr} {ns : List Str} {fs : List Fl} (h : x ρ β = some d) (hp : ρ[i]? = some (some (.sh (.ptr p)))) (hb : β.lookup p = some (.ins c ns fs)) (hn : ns.length < 1000) : yt3 i c f x ρ β = some (.nx ρ, updB p (.ins c (putN f (.v d) ns fs).1 (putN f (.v d) ns fs).2) β) := by
 unfold yt3; rw [h, Option.bind_some, hp]; simp only; rw [hb]; simp only; rw [if_pos ⟨by trivial, hn⟩]
theorem zy9 {i : Nat} {c f : Str} {x : Ro -> Bx -> Option (List D)} {ρ : Ro} {β : Bx} {ds : List D} {p : Addr} {ns : List Str} {fs : List Fl} (h : x ρ β = some ds) (hp : ρ[i]? = some (some (.sh (.ptr p)))) (hb : β.lookup p = some (.ins c ns fs)) (hn : ns.length < 1000) : G1 i c f x ρ β = some (.nx ρ, updB p (.ins c (putN f (.l ds) ns fs).1 (putN f (.l ds) ns fs).2) β) := by
 unfold G1; rw [h, Option.bind_some, hp]; simp only; rw [hb]; simp only; rw [if_pos ⟨by trivial, hn⟩]
theorem zx1 {i : Nat} {c f : Str} {x : Ro -> Bx -> Option D} {ρ : Ro} {β : Bx} {d : D} {ds : List D} {p : Addr} {ns : List Str} {fs : List Fl} (h : x ρ β = some d) (hp : ρ[i]? = some (some (.sh (.ptr p)))) (hb : β.lookup p = some (.ins c ns fs)) (hg : getN f ns fs = some (.l ds)) (hz : ds.length < sizeLine) : N0 i c f x ρ β = some (.nx ρ, updB p (.ins c ns (putN f (.l (ds ++ [d])) ns fs).2) β) := by
 unfold N0; rw [hp]; simp only; rw [hb]; simp only; rw [hg]; simp only; rw [if_pos ⟨by trivial, hz⟩, h]; rfl
theorem yy4 {n : Nat} {m : MW} {ds : List D} {ρ : Ro} {β β' : Bx} (h : m (v3 n ds) β = some (.nx ρ, β')) (hl : β'.length = β.length) : runW n m ds β = some (.sh .non, β') := by
 unfold runW; rw [h]; simp only [hl, Nat.sub_self, drop_zero]
theorem xv8 (x : Addr) (s : Int) (hs : 1 <= s) (β : Bx) : u9 [.ptr x, .int s] ((x, .ins "Grown" [] []) :: β) = some (.sh .non, (x, Gc s [] [] []) :: β) := by
 unfold u9 d9
 have i0 : 0 <= sizeLine := Nat.zero_le _
 have p1 : (putN "least_step" (.v (.int s)) [] []) = ((["least_step"] : List Str), [Fl.v (.int s)]) := rfl
 have p2 : (putN "numbers" (.l []) ["least_step"] [Fl.v (.int s)]) = ((["least_step", "numbers"] : List Str), [Fl.v (.int s), .l []]) := rfl
 have p3 : (putN "weights" (.l []) ["least_step", "numbers"] [Fl.v (.int s), .l []]) = ((["least_step", "numbers", "weights"] : List Str), [Fl.v (.int s), .l [], .l []]) := rfl
 have p4 : (putN "lengths" (.l []) ["least_step", "numbers", "weights"] [Fl.v (.int s), .l [], .l []]) = (Gn, [Fl.v (.int s), .l [], .l [], .l []]) := rfl
 refine yy4 (ρ := [some (.sh (.ptr x)), some (.sh (.int s))]) ?_ rfl
 rw [i9 (zw6 (Q5 (w6 (z6 (d := .int s) rfl y4) (n6 s hs))))]
 rw [i9 (xu5 (d := .int s) (p := x) (ns := []) (fs := []) rfl rfl (Y7 _ _ _) (by decide)), R4, p1]
 rw [i9 (zy9 (ds := []) (p := x) (ns := ["least_step"]) (fs := [Fl.v (.int s)]) (v5 y4 i0) rfl (Y7 _ _ _) (by decide)), R4, p2]
 rw [i9 (zy9 (ds := []) (p := x) (v5 y4 i0) rfl (Y7 _ _ _) (by show 2 < 1000; decide)), R4, p3]
 rw [zy9 (ds := []) (p := x) (v5 y4 i0) rfl (Y7 _ _ _) (by show 3 < 1000; decide), R4, p4]
 rfl
theorem F6 {c f : Str} {m : ME} {ρ : Ro} {d e : D} (h : m ρ = some d) (h2 : fldD c f d = some e) : mfld c f m ρ = some e := by unfold mfld; rw [h, Option.bind_some, h2]
theorem E7 (s : Int) (ns ws ls : List Int) : fldD "Grown" "numbers" (Go s ns ws ls) = some (.lst (ns.map .int)) := rfl
theorem yo4 (s : Int) (ns ws ls : List Int) : fldD "Grown" "weights" (Go s ns ws ls) = some (.lst (ws.map .int)) := rfl
theorem yo5 (s : Int) (ns ws ls : List Int) : fldD "Grown" "lengths" (Go s ns ws ls) = some (.lst (ls.map .int)) := rfl
theorem yd9 (s : Int) (ns ws ls : List Int) : fldD "Grown" "least_step" (Go s ns ws ls) = some (.int s) := rfl
theorem zy6 {c mn : Str} {f : MF} {mo : ME} {ρ : Ro} {ns : List Str} {ds0 : List D} {d : D} (h : mo ρ = some (.obj c ns ds0)) (hn : mn ∉ ns) (h2 : f [.obj c ns ds0] = some (.sh d)) : Z9 c mn f mo anil ρ = some d := by
 unfold Z9; rw [h]; simp only; rw [if_pos ⟨trivial, hn⟩]; show (some []).bind _ = _; rw [Option.bind_some]; rw [h2]
def Pc (s : Int) (ns : List Int) (w : D) (cs : List D) : Prop := ∀ ρ m, m ρ = some [D.lst (ns.map .int), .int s] -> u0 ys0 m ρ = some (.tup [w, .lst cs])
theorem zi4 {s : Int} {ns ws ls : List Int} {w : D} {cs : List D} (h : Pc s ns w cs) : ys2 [Go s ns ws ls] = some (.sh (.tup [w, .lst cs])) := by
 unfold ys2 xs6
 exact j5 (Z0 (h _ _ (z6 (F6 (d := Go s ns ws ls) rfl (E7 s ns ws ls)) (z6 (F6 (d := Go s ns ws ls) rfl (yd9 s ns ws ls)) y4))))
def Lg (ns : List Int) (cs : List D) : Int := if ns.isEmpty then 0 else (cs.length : Int) + 1
theorem E8 {s : Int} {ns ws ls : List Int} {w : D} {cs : List D} (h : Pc s ns w cs) : zs6 [Go s ns ws ls] = some (.sh (.int (Lg ns cs))) := by
 unfold zs6 xs9
 refine j5 ?_
 have e1 := zy6 (mo := mvar 0) (mn := "pieces") (ρ := v3 3 [Go s ns ws ls]) (f := ys2) (d := .tup [w, .lst cs]) (c := "Grown") (ns := Gn) (ds0 := [.int s, .lst (ns.map .int), .lst (ws.map .int), .lst (ls.map .int)]) rfl (by decide +kernel) (zi4 h)
 refine seqI (ρ' := [some (.sh (Go s ns ws ls)), some (.sh w), some (.sh (.lst cs))]) (by unfold masg; rw [e1]; rfl) ?_
 refine Z0 ?_
 have e2 : mtru (mfld "Grown" "numbers" (mvar 0)) [some (.sh (Go s ns ws ls)), some (.sh w), some (.sh (.lst cs))] = some (!(ns.map D.int).isEmpty) := by
  unfold mtru; rw [F6 (d := Go s ns ws ls) rfl (E7 s ns ws ls)]; rfl
 unfold mite
 rw [e2]
 unfold Lg
 cases ns with
 | nil => rfl
 | cons a ns =>
  have e3 : mlen (bvar 2) [some (.sh (Go s (a :: ns) ws ls)), some (.sh w), some (.sh (.lst cs))] = some (.int cs.length) := by unfold mlen; rfl
  show m2 addD (mlen (bvar 2)) (mc (.int 1)) _ = some (.int ((cs.length : Int) + 1))
  unfold m2
  rw [e3]
  rfl
theorem L6 {x : Addr} {c c' : Cell} : ∀ {β : Bx}, β.lookup x = some c -> (updB x c' β).lookup x = some c'
 | [], h => by cases h
 | (q, d) :: β, h => by
  unfold updB
  by_cases z : q = x
  ·rw [if_pos z, lookup_cons, beq_iff_eq.mpr z.symm]
  ·have hb : (x == q) = false := by
    cases w : x == q with
    | false => rfl
    | true => exact absurd (beq_iff_eq.mp w).symm z
   rw [if_neg z, lookup_cons, hb]
   rw [lookup_cons, hb] at h
   exact L6 h
theorem A1 {x : Addr} {c c' : Cell} : ∀ {β : Bx}, updB x c' (updB x c β) = updB x c' β
 | [] => rfl
 | (q, d) :: β => by
  by_cases z : q = x
  ·have e : ∀ (a b : Cell) (γ : Bx), updB x a ((q, b) :: γ) = (q, a) :: γ := fun a b γ => by rw [updB, if_pos z]
   rw [e, e, e]
  ·have e : ∀ (a b : Cell) (γ : Bx), updB x a ((q, b) :: γ) = (q, b) :: updB x a γ := fun a b γ => by rw [updB, if_neg z]
   rw [e, e, e, A1]
theorem ys9 {x : Addr} {c : Cell} : ∀ {β : Bx}, (updB x c β).length = β.length
 | [] => rfl
 | (q, d) :: β => by
  unfold updB
  by_cases z : q = x
  ·rw [if_pos z]; rfl
  ·rw [if_neg z, length_cons, ys9, length_cons]
theorem yn0 (x : Addr) (c : Cell) (β : Bx) (hb : β.lookup x = some c) (d1 d2 : D) (h1 : ∀ a, d1 ≠ .ptr a) (h2 : ∀ a, d2 ≠ .ptr a) : thaw [some (.sh (.ptr x)), some (.sh d1), some (.sh d2)] β = [some (.sh (zj1 c)), some (.sh d1), some (.sh d2)] := by
 have t : ∀ d, (∀ a, d ≠ D.ptr a) -> W9 β (some (.sh d)) = some (.sh d) := fun d hd => by
  unfold W9
  split
  ·rename_i p e
   cases e
   exact absurd rfl (hd p)
  ·rfl
 have t0 : W9 β (some (.sh (.ptr x))) = some (.sh (zj1 c)) := by
  unfold W9; simp only; rw [hb]
 unfold thaw
 rw [map_cons, map_cons, map_cons, map_nil, t0, t d1 h1, t d2 h2]
theorem xn3 (x : Addr) (s : Int) (ns ws ls : List Int) (v g : Int) (β : Bx) (hb : β.lookup x = some (Gc s ns ws ls)) {w : D} {cs : List D} (hg : 0 <= g) (h : Pc s (ns ++ [v]) w cs) (l1 : ns.length < 100000) (l2 : ws.length < 100000) (l3 : ls.length < 100000) : Z2 [.ptr x, .int v, .int g] β = some (.sh .non, updB x (Gc s (ns ++ [v]) (ws ++ [g]) (ls ++ [Lg (ns ++ [v]) cs])) β) := by
 unfold Z2 R0
 have z : ∀ {xs : List Int}, xs.length < 100000 -> (xs.map D.int).length < sizeLine := fun {xs} q => by rw [length_map]; exact Nat.lt_of_lt_of_le q (Nat.le_trans (by decide) p5)
 have ap : ∀ (xs : List Int) (y : Int), xs.map D.int ++ [D.int y] = (xs ++ [y]).map D.int := fun xs y => by rw [map_append]; rfl
 have q1 : (putN "numbers" (.l ((ns ++ [v]).map .int)) Gn (Gf s ns ws ls)).2 = Gf s (ns ++ [v]) ws ls := rfl
 have q2 : (putN "weights" (.l ((ws ++ [g]).map .int)) Gn (Gf s (ns ++ [v]) ws ls)).2 = Gf s (ns ++ [v]) (ws ++ [g]) ls := rfl
 have q3 : (putN "lengths" (.l ((ls ++ [Lg (ns ++ [v]) cs]).map .int)) Gn (Gf s (ns ++ [v]) (ws ++ [g]) ls)).2 = Gf s (ns ++ [v]) (ws ++ [g]) (ls ++ [Lg (ns ++ [v]) cs]) := rfl
 refine yy4 (ρ := [some (.sh (.ptr x)), some (.sh (.int v)), some (.sh (.int g))]) ?_ ys9
 rw [i9 (zw6 (Q5 (w6 (z6 (d := .int g) rfl y4) (W1 g hg))))]
 rw [i9 (zx1 (d := .int v) (ds := ns.map .int) (p := x) rfl rfl hb rfl (z l1)), ap, q1]
 rw [i9 (zx1 (d := .int g) (ds := ws.map .int) (p := x) rfl rfl (L6 hb) rfl (z l2)), A1, ap, q2]
 have lk : zb1 (Z9 "Grown" "length" zs6 (mvar 0) anil) [some (.sh (.ptr x)), some (.sh (.int v)), some (.sh (.int g))] (updB x (Gc s (ns ++ [v]) (ws ++ [g]) ls) β) = some (.int (Lg (ns ++ [v]) cs)) := by
  unfold zb1
  rw [yn0 x _ _ (L6 hb) (.int v) (.int g) (fun a z => by cases z) (fun a z => by cases z), yd7, zy6 (mo := mvar 0) (mn := "length") (f := zs6) (c := "Grown") (ns := Gn) (ds0 := [.int s, .lst ((ns ++ [v]).map .int), .lst ((ws ++ [g]).map .int), .lst (ls.map .int)]) rfl (by decide +kernel) (E8 h)]
  rfl
 show N0 0 "Grown" "lengths" (zb1 (Z9 "Grown" "length" zs6 (mvar 0) anil)) [some (.sh (.ptr x)), some (.sh (.int v)), some (.sh (.int g))] (updB x (Gc s (ns ++ [v]) (ws ++ [g]) ls) β) = _
 rw [zx1 (d := .int (Lg (ns ++ [v]) cs)) (ds := ls.map .int) (p := x) lk rfl (L6 hb) rfl (z l3), A1, ap, q3]
theorem yr4 {c : Ro -> Bx -> Option Bool} {x y : MW} {ρ : Ro} {β : Bx} (h : c ρ β = some false) : mifW c x y ρ β = y ρ β := by unfold mifW; rw [h]
theorem zp6 (s : Int) (ns ws ls : List Int) : m_Z8 [Go s ns ws ls] = some (.fr (ls.map .int)) := by
 unfold m_Z8 b_Z8
 refine yy5 ?_
 unfold yu4
 rw [i8 (F6 (d := Go s ns ws ls) rfl (yo5 s ns ws ls))]
 rfl
end
section
open PySem L2
def cutD (s : Int) (ns : List Int) : List D := (NI (Y9 s ns)).map .int
def xe4 (s : Int) (ns : List Int) : D := .str (kd (Z5 s ns))
theorem ye5 (s : Int) (ns : List Int) (hs : 1 <= s) (hl : ns.length <= 300) : Pc s ns (xe4 s ns) (cutD s ns) := fun ρ m h => w6 h (zu7 ns s hs hl)
def lenG (s : Int) (ns : List Int) : Int := Lg ns (cutD s ns)
theorem xw8 {c mn : Str} {f : MF} {mo : ME} {ρ : Ro} {ns : List Str} {ds0 es : List D} (h : mo ρ = some (.obj c ns ds0)) (hn : mn ∉ ns) (h2 : f [.obj c ns ds0] = some (.fr es)) : Z9 c mn f mo anil ρ = some (.lst es) := by
 unfold Z9; rw [h]; simp only; rw [if_pos ⟨trivial, hn⟩]; show (some []).bind _ = _; rw [Option.bind_some]; rw [h2]
theorem xd7 {i : Nat} {m : ML} {ρ : Ro} {β : Bx} {x : Addr} {s : Int} {ns ws ls : List Int} {v g : Int} (hp : ρ[i]? = some (some (.sh (.ptr x)))) (hb : β.lookup x = some (Gc s ns ws ls)) (hm : m ρ = some [.int v, .int g]) (hg : 0 <= g) (hs : 1 <= s) (l1 : ns.length < 300) (l2 : ws.length < 300) (l3 : ls.length < 100000) :
  zs3 (zs0 i "Grown" "put" Z2 m) ρ β = some (.nx ρ, updB x (Gc s (ns ++ [v]) (ws ++ [g]) (ls ++ [lenG s (ns ++ [v])])) β) := by
 unfold zs3 zs0
 rw [hp]; simp only; rw [hb]; simp only
 rw [if_pos ⟨trivial, by decide +kernel⟩, hm, Option.bind_some, xn3 x s ns ws ls v g β hb hg (ye5 s (ns ++ [v]) hs (by simp; omega)) (by omega) (by omega) l3]
 rfl
theorem xu4 {g : Tg} {body : MW} {d : D} {ds : List D} {ρ ρ1 ρ2 : Ro} {β β2 : Bx} (h1 : tgD g d ρ = some ρ1) (h2 : body ρ1 β = some (.nx ρ2, β2)) : forW g body (d :: ds) ρ β = forW g body ds ρ2 β2 := by
 rw [forW, h1]; simp only; rw [h2]
theorem yz5 (row : List Int) (j : Nat) (h : j < row.length) : row.take j ++ [row.getD j 0] = row.take (j + 1) := by
 rw [take_succ]; simp [h]
def momG (s : Int) (ns : List Int) : List Int := (List.range ns.length).map fun j => lenG s (ns.take (j + 1))
theorem xw6 (s : Int) (ns : List Int) : (momG s ns).length = ns.length := by unfold momG; simp
theorem zh8 (s : Int) (ns : List Int) (v : Int) : momG s (ns ++ [v]) = momG s ns ++ [lenG s (ns ++ [v])] := by
 unfold momG
 rw [length_append, length_singleton, range_succ, map_append]
 congr 1
 ·apply map_congr_left
  intro j hj
  have := List.mem_range.mp hj
  rw [take_append_of_le_length (by omega)]
 ·show [lenG s ((ns ++ [v]).take (ns.length + 1))] = _
  rw [take_of_length_le (by simp)]
theorem xq9 {β : Bx} {x : Addr} {c : Cell} (h : β.lookup x = some c) : W9 β (some (.sh (.ptr x))) = some (.sh (zj1 c)) := by
 unfold W9; simp only; rw [h]
theorem zt9 (s : Int) (ns ws ls : List Int) (v : Int) {m : ME} {ρ : Ro} (h : m ρ = some (Go s ns ws (ls ++ [v]))) : mix (l6 (Z9 "Grown" "moments" m_Z8 m anil)) (m1 negD (mc (.int 1))) ρ = some (.int v) :=
 i5 (k := -1) (i8 (xw8 h (by decide +kernel) (zp6 s ns ws (ls ++ [v])))) rfl (atI_last D.int ls v)
theorem xw4 {i : Nat} {c : Str} {f : MFW} {m : ML} {rest : MW} {ρ : Ro} {β : Bx} {ds : List D} {r : Out × Bx} (hm : m ρ = some ds) (h : ∀ x, x ∉ β.map Prod.fst -> ∃ β' o, f (.ptr x :: ds) ((x, .ins c [] []) :: β) = some (.sh .non, β') /\ rest (ρ.set i (some (.sh (.ptr x)))) β' = some o /\ letGo i β.length o = r) : zc0 i c f m rest ρ β = some r := by
 unfold zc0
 rw [hm, Option.bind_some]
 refine xr5 fun x hx => ?_
 obtain ⟨β', o, h1, h2, h3⟩ := h x hx
 rw [h1]
 simp only
 rw [h2, Option.map_some, h3]
end
section
open PySem L2
theorem Y6 {m : ME} {ρ : Ro} {d : D} (h : m ρ = some d) : mpu m ρ = some (d, ρ) := by unfold mpu; rw [h]
theorem zp4 {m : ML} {ρ : Ro} {d : List D} (h : m ρ = some d) : apu m ρ = some (d, ρ) := by unfold apu; rw [h]
theorem V4 {f : D -> D -> Option D} {x y : MEm} {ρ ρ1 ρ2 : Ro} {d e g : D} (h1 : x ρ = some (d, ρ1)) (h2 : y ρ1 = some (e, ρ2)) (h3 : f d e = some g) : m2m f x y ρ = some (g, ρ2) := by
 unfold m2m; rw [h1]; simp only; rw [h2]; simp only; rw [h3]
theorem V9 {x : MEm} {r : MLm} {ρ ρ1 ρ2 : Ro} {d : D} {ds : List D} (h1 : x ρ = some (d, ρ1)) (h2 : r ρ1 = some (ds, ρ2)) : j4 x r ρ = some (d :: ds, ρ2) := by
 unfold j4; rw [h1]; simp only; rw [h2]
theorem yj9 {m : MLm} {ρ ρ1 : Ro} {ds : List D} (h : m ρ = some (ds, ρ1)) (hz : ds.length <= sizeLine) : yt0 m ρ = some (.lst ds, ρ1) := by
 unfold yt0; rw [h]; simp only [hz, if_true]
theorem L5 {i : Nat} {x : MEm} {ρ ρ1 : Ro} {d : D} (h : x ρ = some (d, ρ1)) : zt8 i x ρ = some (.nx (ρ1.set i (some (.sh d)))) := by unfold zt8; rw [h]
theorem yj6 {i : Nat} {x : MEm} {ρ ρ1 : Ro} {d : D} {p : Addr} {r : List D} (h : x ρ = some (d, ρ1)) (h2 : ρ1[i]? = some (some (.ob p r))) : D3 i x ρ = some (.rg d p r) := by unfold D3; rw [h]; simp only; rw [h2]
theorem zs4 {f : MG} {i : Nat} {m : MLm} {ρ ρ1 : Ro} {p : Addr} {r0 r1 r2 ds : List D} {t : Rt} {d : D} (h0 : ρ[i]? = some (some (.ob p r2))) (h1 : m ρ = some (ds, ρ1)) (h2 : ρ1[i]? = some (some (.ob p r0))) (h3 : f p r0 ds = some (t, r1)) (h4 : rtD t = some d) : t6 f i m ρ = some (d, ρ1.set i (some (.ob p r1))) := by
 unfold t6; rw [h0]; simp only; rw [h1]; simp only; rw [h2]; simp only; rw [h3]; simp only; rw [h4]
theorem C5 {f : MG} {i : Nat} {m : MLm} {ρ ρ1 : Ro} {r0 r1 r2 ds : List D} {t : Rt} {d : D} (h0 : ρ[i]? = some (some (.own r2))) (h1 : m ρ = some (ds, ρ1)) (h2 : ρ1[i]? = some (some (.own r0))) (h3 : ∀ p, f p r0 ds = some (t, r1)) (h4 : rtD t = some d) : t6 f i m ρ = some (d, ρ1.set i (some (.own r1))) := by
 unfold t6; rw [h0]; simp only; rw [h1]; simp only; rw [h2]; simp only; rw [xr4 h3]; simp only; rw [h4]
def URun (m : MS) (ρ : Addr -> Ro) (R : (Addr -> Out) -> Prop) : Prop := ∃ o, (∀ p, m (ρ p) = some (o p)) /\ R o
theorem D9 {x y : MS} {ρ ρ' : Addr -> Ro} {R : (Addr -> Out) -> Prop} (h : ∀ p, x (ρ p) = some (.nx (ρ' p))) (h2 : URun y ρ' R) : URun (mseq x y) ρ R := by
 obtain ⟨o, e, r⟩ := h2
 exact ⟨o, fun p => seqI (h p) (e p), r⟩
theorem za7 {x y : MS} {ρ : Addr -> Ro} {R : (Addr -> Out) -> Prop} (h : URun x ρ (fun o => ∃ ρ', (o = fun p => .nx (ρ' p)) /\ URun y ρ' R)) : URun (mseq x y) ρ R := by
 obtain ⟨o, e, ρ', rfl, h2⟩ := h
 exact D9 e h2
theorem yc0 {x : MS} {ρ ρ' : Addr -> Ro} {R : (Addr -> Out) -> Prop} (h : ∀ p, x (ρ p) = some (.nx (ρ' p))) (h2 : R fun p => .nx (ρ' p)) : URun x ρ R := ⟨_, h, h2⟩
theorem za8 {mi : ML} {g : Tg} {body : MS} {ρ : Addr -> Ro} {f : Nat -> D} {R : (Addr -> Out) -> Prop} (n : Nat) (hi : ∀ p, mi (ρ p) = some ((List.range n).map f)) (I : Nat -> (Addr -> Ro) -> Prop) (h0 : I 0 ρ)
  (hs : ∀ j ρ, j < n -> I j ρ -> ∃ ρ1, (∀ p, tgD g (f j) (ρ p) = some (ρ1 p)) /\ URun body ρ1 (fun o => ∃ ρ2, (o = fun p => .nx (ρ2 p)) /\ I (j + 1) ρ2)) (hd : ∀ ρ, I n ρ -> R (fun p => .nx (ρ p))) : URun (mfor mi g body) ρ R := by
 have main : ∀ (k j : Nat) (ρ : Addr -> Ro), n - j = k -> j <= n -> I j ρ -> ∃ ρ', (∀ p, forD g body ((List.range' j k).map f) (ρ p) = some (.nx (ρ' p))) /\ I n ρ' := by
  intro k
  induction k with
  | zero =>
   intro j ρ hk hj h
   have : j = n := by omega
   subst this
   exact ⟨ρ, fun _ => rfl, h⟩
  | succ k ih =>
   intro j ρ hk hj h
   obtain ⟨ρ1, a1, o, a2, ρ2, rfl, a3⟩ := hs j ρ (by omega) h
   obtain ⟨ρ', b1, b2⟩ := ih (j + 1) ρ2 (by omega) (by omega) a3
   refine ⟨ρ', fun p => ?_, b2⟩
   rw [range'_succ, map_cons]
   unfold forD
   rw [a1 p]
   simp only [a2 p]
   exact b1 p
 obtain ⟨ρ', b1, b2⟩ := main n 0 ρ (by omega) (by omega) h0
 refine ⟨_, fun p => ?_, hd ρ' b2⟩
 unfold mfor
 rw [hi p, range_eq_range']
 exact b1 p
theorem zo2 {n : Nat} {m : MS} {p : Addr} {r r' ds : List D} {d : D} (h : m (T3 n p r ds) = some (.rg d p r')) : runG n m p r ds = some (.sh d, r') := by unfold runG; rw [h]; simp only [if_true]
def RL (a b : Int) : List D := [.int a, .int b]
theorem at3 (x y z : Int) (k : Int) (h0 : 0 <= k) (h1 : k < 3) : ∃ w, atI [D.int x, .int y, .int z] k = some (.int w) /\ (w = x \/ w = y \/ w = z) := by
 have : k = 0 \/ k = 1 \/ k = 2 := by omega
 rcases this with h | h | h <;> subst h
 ·exact ⟨_, rfl, by simp⟩
 ·exact ⟨_, rfl, by simp⟩
 ·exact ⟨_, rfl, by simp⟩
end
section
open PySem L2
theorem X4 (c k m : Int) (h : 0 < m) (h2 : m < 1073741824) : ∃ x c' k', 0 <= x /\ x < m /\ ∀ p, Z1 p (RL c k) [.int m] = some (.sh (.int x), RL c' k') := by
 have hp : ((10 : Int) ^ (18 : Int).toNat) = 10 ^ 18 := rfl
 have o1 : yw0 10 18 = true := by decide
 have c0 : ∀ x y : Int, atI [D.int x, D.int y] 0 = some (.int x) := fun _ _ => rfl
 have c1 : ∀ x y : Int, atI [D.int x, D.int y] 1 = some (.int y) := fun _ _ => rfl
 have n0 : ixN (0 + 1 + 1) 0 = some 0 := rfl
 have n1 : ixN (0 + 1 + 1) 1 = some 1 := rfl
 by_cases hb : 10 ^ 18 <= c
 ·refine ⟨c % m, c / m, k + 1, Int.emod_nonneg _ (by omega), Int.emod_lt_of_pos _ h, fun p => ?_⟩
  unfold Z1
  refine zo2 ?_
  unfold yg7 T3 RL
  simp_arith [hp, o1, c0, c1, hb, decide_true, if_true, Q4 c m h, zr5 c m h h2, n0, n1, D3, mpu, set_cons_zero, set_cons_succ]
 ·have q3 : ∀ i, zn6 i 2147483647 = true := fun i => Q4 _ _ (by decide)
  have q4 : ∀ i, zn6 i 2147483629 = true := fun i => Q4 _ _ (by decide)
  have q5 : ∀ i, zn6 i 2147483587 = true := fun i => Q4 _ _ (by decide)
  have q6 : ∀ i, zn6 i m = true := fun i => Q4 _ _ h
  have f8 : ∀ i, zr6 i 8 = true := fun i => zr5 _ _ (by decide) (by decide)
  have m1 : ∀ i, O2 i 69621 = true := fun i => zy2 _ _ (by decide) (by decide)
  have m2 : ∀ i, O2 i 7919 = true := fun i => zy2 _ _ (by decide) (by decide)
  have m3 : ∀ i, O2 i 48271 = true := fun i => zy2 _ _ (by decide) (by decide)
  have m4 : ∀ i, O2 i 40692 = true := fun i => zy2 _ _ (by decide) (by decide)
  have bb := yu7 (x := c * 69621 + (k + 1) * 7919 + 13) (show (0 : Int) < 2147483647 by decide)
  have m5 : O2 ((c * 69621 + (k + 1) * 7919 + 13) % 2147483647) ((c * 69621 + (k + 1) * 7919 + 13) % 2147483647) = true := zn4 _ _ (by omega) (by omega)
  refine ⟨_, c, k + 1, Int.emod_nonneg _ (by omega), Int.emod_lt_of_pos (((((c * 69621 + (k + 1) * 7919 + 13) % 2147483647) * ((c * 69621 + (k + 1) * 7919 + 13) % 2147483647) % 2147483629) * 48271 + (k + 1) * 40692) % 2147483587 / 8) h, fun p => ?_⟩
  unfold Z1
  refine zo2 ?_
  unfold yg7 T3 RL
  simp_arith [hp, o1, c0, c1, hb, decide_false, if_true, q3, q4, q5, q6, f8, m1, m2, m3, m4, m5, n0, n1, D3, mpu, set_cons_zero, set_cons_succ]
abbrev Nx (c k m x c' k' : Int) : Prop := ∀ p, Z1 p (RL c k) [.int m] = some (.sh (.int x), RL c' k')
theorem L4 {p : Addr} {c k m x c' k' : Int} {e : ME} {tl : List (Option S)} (h : Nx c k m x c' k') (hx : e (some (.ob p (RL c k)) :: tl) = some (.int m)) : t6 Z1 0 (apu (z8 e anil)) (some (.ob p (RL c k)) :: tl) = some (.int x, some (.ob p (RL c' k')) :: tl) :=
 zs4 (ρ := some (.ob p (RL c k)) :: tl) rfl (zp4 (z6 hx y4)) rfl (h p) rfl
end
section
open PySem L2
theorem zu3 : ∀ (xs : List Int) (o : Option S) (acc : List Int), acc.length + xs.length <= 1000 -> zx3 (.nm 0) (w9 (z8 (mvar 0) (z8 (mc (.int 0)) anil))) (xs.map .int) [o] (acc.map fun c => RL c 0) = some ((acc ++ xs).map fun c => RL c 0)
 | [], o, acc, _ => by rw [append_nil]; rfl
 | x :: xs, o, acc, h => by
  have i2 : 0 + 1 + 1 <= sizeLine := v4 (by decide)
  have big := p5
  rw [map_cons, zx3]
  show (match w9 (z8 (mvar 0) (z8 (mc (.int 0)) anil)) [some (.sh (.int x))] with | some ds => if (acc.map fun c => RL c 0).length < sizeLine then zx3 _ _ (xs.map .int) [some (.sh (.int x))] ((acc.map fun c => RL c 0) ++ [ds]) else none | none => none) = _
  rw [v5 (z6 (d := .int x) rfl (z6 (d := .int 0) rfl y4)) i2]
  have hz : (acc.map fun c => RL c 0).length < sizeLine := by rw [length_map]; simp at h; omega
  simp only [hz, if_true]
  have := zu3 xs (some (.sh (.int x))) (acc ++ [x]) (by simp at h ⊢; omega)
  rw [map_append, append_assoc] at this
  exact this
theorem xz7 (xs : List Int) (h : xs.length <= 63) : ∃ cs : List Int, U5 [.lst (xs.map .int)] = some (cs.map fun c => RL c 0) := by
 unfold U5 runP
 have i2 : 0 + 1 + 1 <= sizeLine := v4 (by decide)
 have e0 : v7 (m2 eqSD (mlen (bvar 0)) (mc (.int 0))) (v3 1 [.lst (xs.map .int)]) = some ((xs.length : Int) == 0) := by
  rw [xp8 (i := (xs.length : Int)) (by rw [i4 (show bvar 0 _ = some (xs.map .int) from rfl), length_map])]
 rw [e0]
 cases hb : ((xs.length : Int) == 0) with
 | true =>
  refine ⟨[0], ?_⟩
  show yt1 _ _ = _
  unfold yt1
  rw [v5 (z6 (d := .int 0) rfl (z6 (d := .int 0) rfl y4)) i2]
  rfl
 | false =>
  refine ⟨cutI xs none (some 63), ?_⟩
  show C4 _ _ _ _ _ = _
  unfold C4
  have c1 : l6 (mlst (mcut (bvar 0) D2 (K9 (mc (.int 63))))) (v3 1 [.lst (xs.map .int)]) = some ((cutI xs none (some 63)).map .int) := by
   refine i8 (p8 ?_)
   unfold mcut
   exact congrArg some (zx2 D.int xs none (some 63))
  rw [c1, Option.bind_some]
  have := zf4 xs none (some 63)
  exact zu3 (cutI xs none (some 63)) none [] (by simp; omega)
end
section
open PySem L2
section
variable {x : Nat -> Int} {n : Nat} {s : Int}
def Run1 (x : Nat -> Int) (s : Int) (d : Bool) (a b : Nat) : Prop := ∀ i, a <= i -> i < b -> far s d (x i) (x (i + 1))
theorem xu7 (hs : 1 <= s) {d : Bool} {a b c : Int} (h1 : far s d a b) (h2 : far s d b c) : far s d a c := by
 unfold far at *
 cases d
 ·simp only [Bool.false_eq_true, if_false] at *; omega
 ·simp only [if_true] at *; omega
theorem Run1.far (hs : 1 <= s) {d : Bool} {a b : Nat} (h : Run1 x s d a b) : ∀ (k i : Nat), a <= i -> i + k + 1 <= b -> Lw.far s d (x i) (x (i + k + 1))
 | 0, i, h1, h2 => h i h1 (by omega)
 | k + 1, i, h1, h2 => xu7 hs (Run1.far hs h k i h1 (by omega)) (h (i + k + 1) (by omega) (by omega))
theorem zu0 : ∀ (l a : Nat), a + l <= n -> (∀ i, a <= i -> i + 1 < a + l -> s <= ((x (i + 1) - x i).natAbs : Int)) -> St x n s (List.range' a l)
 | 0, a, _, _ => trivial
 | 1, a, h, _ => by show a < n; omega
 | l + 2, a, h, hx => ⟨by omega, hx a (by omega) (by omega), zu0 (l + 1) (a + 1) (by omega) fun i h1 h2 => hx i (by omega) (by omega)⟩
theorem xu8 (hs : 1 <= s) {d : Bool} {a b : Int} (h : far s d a b) : s <= ((b - a).natAbs : Int) := ((yq2 hs d a b).mp h).1
def tb' (x : Nat -> Int) (a b c : Nat) : Nat := if 0 < (x b - x a) * (x b - x c) then 1 else 0
theorem xp2 (hs : 1 <= s) {d : Bool} {a b c : Nat} (h1 : far s d (x a) (x b)) (h2 : far s (!d) (x b) (x c)) : tb' x a b c = 1 := by
 unfold tb'
 rw [if_pos]
 unfold far at *
 cases d
 ·simp only [Bool.false_eq_true, Bool.not_false, if_true, if_false] at *
  exact Int.mul_pos_of_neg_of_neg (by omega) (by omega)
 ·simp only [Bool.false_eq_true, Bool.not_true, if_true, if_false] at *
  exact Int.mul_pos (by omega) (by omega)
theorem xp3 (hs : 1 <= s) {d : Bool} {a b c : Nat} (h1 : far s d (x a) (x b)) (h2 : far s d (x b) (x c)) : tb' x a b c = 0 := by
 unfold tb'
 rw [if_neg]
 unfold far at *
 cases d
 ·simp only [Bool.false_eq_true, if_false] at *
  have := Int.mul_neg_of_neg_of_pos (a := x b - x a) (b := x b - x c) (by omega) (by omega)
  omega
 ·simp only [if_true] at *
  have := Int.mul_neg_of_pos_of_neg (a := x b - x a) (b := x b - x c) (by omega) (by omega)
  omega
theorem A2 : ∀ (l a : Nat), tnN x (List.range' a (l + 3)) = tnN x (List.range' a (l + 2)) + tb' x (a + l) (a + l + 1) (a + l + 2)
 | 0, a => by
  show tb' x a (a + 1) (a + 1 + 1) + 0 = 0 + tb' x (a + 0) (a + 0 + 1) (a + 0 + 2)
  simp only [Nat.add_zero, Nat.zero_add, Nat.add_assoc]
 | l + 1, a => by
  have := A2 l (a + 1)
  show tb' x a (a + 1) (a + 1 + 1) + tnN x (List.range' (a + 1) (l + 3)) = tb' x a (a + 1) (a + 1 + 1) + tnN x (List.range' (a + 1) (l + 2)) + _
  rw [this, show a + 1 + l = a + (l + 1) by omega]
  omega
theorem A3 (hs : 1 <= s) {d : Bool} {a l : Nat} : ∀ z, Run1 x s d (a + l) (a + l + 1 + z) -> tnN x (List.range' a (l + 2 + z)) = tnN x (List.range' a (l + 2))
 | 0, _ => rfl
 | z + 1, h => by
  have e := A2 (x := x) (l + z) a
  rw [show l + 2 + (z + 1) = l + z + 3 by omega, e, show l + z + 2 = l + 2 + z by omega, A3 hs z (fun i h1 h2 => h i h1 (by omega)), xp3 hs (h (a + (l + z)) (by omega) (by omega)) (h (a + (l + z) + 1) (by omega) (by omega))]
  rfl
theorem yc2 (hs : 1 <= s) {d : Bool} {a z : Nat} (h : Run1 x s d a (a + z)) : tnN x (List.range' a (z + 1)) = 0 := by
 cases z with
 | zero => rfl
 | succ z =>
  have := A3 (x := x) (l := 0) hs z (d := d) (a := a) (fun i h1 h2 => h i (by omega) (by omega))
  rw [show z + 1 + 1 = 0 + 2 + z by omega, this]
  rfl
theorem yo9 (hs : 1 <= s) {d : Bool} {a l z : Nat} (h1 : far s d (x (a + l)) (x (a + l + 1))) (h : Run1 x s (!d) (a + l + 1) (a + l + 2 + z)) : tnN x (List.range' a (l + 3 + z)) = tnN x (List.range' a (l + 2)) + 1 := by
 have e := A3 (x := x) (l := l + 1) hs z (d := !d) (a := a) (fun i h1 h2 => h i (by omega) (by omega))
 rw [show l + 3 + z = l + 1 + 2 + z by omega, e, A2, xp2 hs h1 (h _ (by omega) (by omega))]
def ofs (zs : List Nat) (k : Nat) : Nat := (zs.take k).sum
theorem g5 (zs : List Nat) (k : Nat) (h : k < zs.length) : ofs zs (k + 1) = ofs zs k + zs.getD k 0 := by
 unfold ofs
 rw [getD_eq_getElem?_getD, getElem?_eq_getElem h, take_add_one, getElem?_eq_getElem h, sum_append]
 simp
def way (d : Bool) : Nat -> Bool
 | 0 => d
 | k + 1 => !way d k
structure Rns (x : Nat -> Int) (s : Int) (d : Bool) (zs : List Nat) : Prop where
 pos : ∀ z ∈ zs, 0 < z
 run : ∀ k, k < zs.length -> Run1 x s (way d k) (ofs zs k) (ofs zs (k + 1))
theorem Rns.size {d : Bool} {zs : List Nat} (h : Rns x s d zs) {k : Nat} (hk : k < zs.length) : 0 < zs.getD k 0 := by
 refine h.pos _ ?_
 rw [getD_eq_getElem?_getD, getElem?_eq_getElem hk]; simp
theorem Rns.turns (hs : 1 <= s) {d : Bool} {zs : List Nat} (h : Rns x s d zs) : ∀ j k, k + j < zs.length -> tnN x (List.range' (ofs zs k) (ofs zs (k + j + 1) - ofs zs k + 1)) = j /\ ofs zs k + j + 1 <= ofs zs (k + j + 1)
 | 0, k, hk => by
  rw [Nat.add_zero] at hk
  have e := g5 zs k hk
  have p := h.size hk
  have r := h.run k hk
  refine ⟨?_, by show _ <= ofs zs (k + 1); omega⟩
  rw [show k + 0 + 1 = k + 1 from rfl, e, Nat.add_sub_cancel_left]
  exact yc2 hs (e ▸ r)
 | j + 1, k, hk => by
  obtain ⟨i1, i2⟩ := Rns.turns hs h j k (by omega)
  have e := g5 zs (k + j + 1) (by omega)
  have e0 := g5 zs (k + j) (by omega)
  have p := h.size (k := k + j + 1) (by omega)
  have p0 := h.size (k := k + j) (by omega)
  have r := h.run (k + j + 1) (by omega)
  have r0 := h.run (k + j) (by omega)
  rw [show k + (j + 1) + 1 = k + j + 1 + 1 by omega]
  refine ⟨?_, by omega⟩
  obtain ⟨l, hl⟩ : ∃ l, ofs zs (k + j + 1) = ofs zs k + l + 1 := ⟨ofs zs (k + j + 1) - ofs zs k - 1, by omega⟩
  have f0 := r0 (ofs zs k + l) (by omega) (by omega)
  have t := yo9 (x := x) hs (a := ofs zs k) (l := l) (z := zs.getD (k + j + 1) 0 - 1) (d := way d (k + j)) f0 (fun i h1 h2 => r i (by omega) (by omega))
  rw [show ofs zs (k + j + 1 + 1) - ofs zs k + 1 = l + 3 + (zs.getD (k + j + 1) 0 - 1) by omega, t]
  rw [show ofs zs (k + j + 1) - ofs zs k + 1 = l + 2 by omega] at i1
  rw [i1]
end
end
section
open PySem L2
section
variable {x : Nat -> Int} {n : Nat} {s : Int}
theorem St.len_from : ∀ {l : List Nat} {p : Nat}, St x n s (p :: l) -> l.length + p < n
 | [], p, h => by have h : p < n := h; simpa using h
 | q :: l, p, h => by
  have h1 := h.1
  have := St.len_from h.2.2
  simp only [length_cons]; omega
theorem ze9 : ∀ {l : List Nat} {a : Nat}, St x n s l -> l.length + a = n -> (∀ p m, l = p :: m -> a <= p) -> l = List.range' a l.length
 | [], _, _, _, _ => rfl
 | p :: l, a, h, e, hp => by
  have h1 := h.len_from
  have h2 := hp p l rfl
  simp only [length_cons] at e
  have e2 : p = a := by omega
  subst e2
  rw [length_cons, range'_succ]
  congr 1
  cases l with
  | nil => rfl
  | cons q l => exact ze9 h.2.2 (by omega) fun r m e => by cases e; exact h.1
theorem za0 {l : List Nat} (h : St x n s l) (e : l.length = n) : l = List.range' 0 n := by
 have := ze9 h (a := 0) (by omega) (fun _ _ _ => Nat.zero_le _)
 rw [e] at this
 exact this
theorem L3 (zs : List Nat) : ∀ (j k : Nat), k + j <= zs.length -> ofs zs k <= ofs zs (k + j)
 | 0, k, _ => Nat.le_refl _
 | j + 1, k, h => by
  have := L3 zs j k (by omega)
  have e := g5 zs (k + j) (by omega)
  rw [show k + (j + 1) = k + j + 1 by omega]
  omega
theorem zx0 (zs : List Nat) (i : Nat) : ∀ m, m <= zs.length -> i < ofs zs m -> ∃ k, k < m /\ ofs zs k <= i /\ i < ofs zs (k + 1)
 | 0, _, h => by simp [ofs] at h
 | m + 1, hm, h => by
  rcases Nat.lt_or_ge i (ofs zs m) with z | z
  ·obtain ⟨k, a, b⟩ := zx0 zs i m (by omega) z
   exact ⟨k, by omega, b⟩
  ·exact ⟨m, by omega, z, h⟩
theorem xu6 (hs : 1 <= s) {d : Bool} {a b : Int} (h1 : far s d a b) (h2 : far s (!d) a b) : False := by
 unfold far at *
 cases d
 ·simp only [Bool.false_eq_true, Bool.not_false, if_true, if_false] at *; omega
 ·simp only [Bool.false_eq_true, Bool.not_true, if_true, if_false] at *; omega
theorem Rns.step (hs : 1 <= s) {e : Bool} {zs : List Nat} (h : Rns x s e zs) {d : Bool} {p q : Nat} (hpq : p < q) (hq : q <= ofs zs zs.length) (hf : far s d (x p) (x q)) : ∃ k i, k < zs.length /\ way e k = d /\ p <= i /\ i < q /\ ofs zs k <= i /\ i < ofs zs (k + 1) := by
 refine Classical.byContradiction fun hn => ?_
 have r : Run1 x s (!d) p q := fun i h1 h2 => by
  obtain ⟨k, a, b, c⟩ := zx0 zs i zs.length (Nat.le_refl _) (by omega)
  have f := h.run k a i b c
  have w : way e k = !d := by
   cases hw : way e k <;> cases d
   ·exact (hn ⟨k, i, a, hw, h1, h2, b, c⟩).elim
   ·rfl
   ·rfl
   ·exact (hn ⟨k, i, a, hw, h1, h2, b, c⟩).elim
  rw [<- w]; exact f
 have := Run1.far hs r (q - p - 1) p (Nat.le_refl _) (by omega)
 rw [show p + (q - p - 1) + 1 = q by omega] at this
 exact xu6 hs hf this
theorem Rns.wave_up (hs : 1 <= s) {e : Bool} {zs : List Nat} (h : Rns x s e zs) : ∀ {l : List Nat} {p k : Nat} {d : Bool}, Wd x (ofs zs zs.length + 1) s d (p :: l) -> ofs zs k <= p -> k <= zs.length -> (way e k = d -> l.length <= zs.length - k) /\ (way e k = !d -> l.length + 1 <= zs.length - k \/ l.length = 0)
 | [], p, k, d, _, _, _ => ⟨fun _ => Nat.zero_le _, fun _ => .inr rfl⟩
 | q :: l, p, k, d, hw, hk, hl => by
  obtain ⟨h1, h2, h3⟩ := hw
  have hq := h3.lt
  obtain ⟨k2, i, a1, a2, a3, a4, a5, a6⟩ := h.step hs h1 (by omega) h2
  have kk : k <= k2 := by
   rcases Nat.lt_or_ge k2 k with z | z
   ·have := L3 zs (k - (k2 + 1)) (k2 + 1) (by omega)
    rw [show k2 + 1 + (k - (k2 + 1)) = k by omega] at this
    omega
   ·exact z
  have ih := (Rns.wave_up hs h h3 (k := k2) (by omega) (by omega)).2 (by rw [a2, Bool.not_not])
  have ih : l.length + 1 <= zs.length - k2 := by omega
  refine ⟨fun _ => by simp only [length_cons]; omega, fun w => .inl ?_⟩
  have : k ≠ k2 := fun z => by
   subst z
   rw [a2] at w
   cases d <;> cases w
  simp only [length_cons]
  omega
theorem Rns.waves (hs : 1 <= s) {e : Bool} {zs : List Nat} (h : Rns x s e zs) {l : List Nat} (hw : Wv x (ofs zs zs.length + 1) s l) : l.length <= zs.length + 1 := by
 rcases hw with rfl | ⟨d, hw⟩
 ·simp
 ·cases l with
  | nil => simp
  | cons p l =>
   have := h.wave_up hs hw (k := 0) (by simp [ofs]) (Nat.zero_le _)
   have w : way e 0 = d \/ way e 0 = !d := by cases way e 0 <;> cases d <;> simp
   rcases w with w | w
   ·have := this.1 w; simp only [length_cons]; omega
   ·have := this.2 w; simp only [length_cons]; omega
theorem Rns.ends (hs : 1 <= s) {e : Bool} {zs : List Nat} (h : Rns x s e zs) : ∀ j k, k + j = zs.length -> Wd x (ofs zs zs.length + 1) s (way e k) ((List.range' k (j + 1)).map (ofs zs))
 | 0, k, hk => by show ofs zs k < _; rw [<- hk]; exact Nat.lt_succ_self _
 | j + 1, k, hk => by
  have e1 := g5 zs k (by omega)
  have p := h.size (k := k) (by omega)
  have r := Run1.far hs (h.run k (by omega)) (zs.getD k 0 - 1) (ofs zs k) (Nat.le_refl _) (by omega)
  rw [show ofs zs k + (zs.getD k 0 - 1) + 1 = ofs zs (k + 1) by omega] at r
  exact ⟨by omega, r, Rns.ends hs h j (k + 1) (by omega)⟩
theorem Rns.adj (hs : 1 <= s) {e : Bool} {zs : List Nat} (h : Rns x s e zs) {i : Nat} (hi : i < ofs zs zs.length) : s <= ((x (i + 1) - x i).natAbs : Int) := by
 obtain ⟨k, a, b, c⟩ := zx0 zs i zs.length (Nat.le_refl _) hi
 exact xu8 hs (h.run k a i b c)
theorem Rns.part (hs : 1 <= s) {e : Bool} {zs : List Nat} (h : Rns x s e zs) {j k : Nat} (hk : k + j < zs.length) : Tn x (ofs zs zs.length + 1) s j (List.range' (ofs zs k) (ofs zs (k + j + 1) - ofs zs k + 1)) := by
 obtain ⟨a, b⟩ := h.turns hs j k hk
 have m := L3 zs (zs.length - (k + j + 1)) (k + j + 1) (by omega)
 rw [show k + j + 1 + (zs.length - (k + j + 1)) = zs.length by omega] at m
 refine (yz3 hs _ _).mpr ⟨zu0 _ _ (by omega) fun i h1 h2 => h.adj hs (by omega), by omega⟩
theorem Rns.full (hs : 1 <= s) {e : Bool} {zs : List Nat} (h : Rns x s e zs) (hz : 0 < zs.length) : tnN x (List.range' 0 (ofs zs zs.length + 1)) = zs.length - 1 := by
 obtain ⟨a, b⟩ := h.turns hs (zs.length - 1) 0 (by omega)
 rw [show 0 + (zs.length - 1) + 1 = zs.length by omega, show ofs zs 0 = 0 from by simp [ofs], Nat.sub_zero] at a
 exact a
end
structure RowR (row : List Int) (s : Int) (zs : List Nat) : Prop where
 step : 1 <= s
 few : row.length <= 300
 some' : 0 < zs.length
 len : row.length = ofs zs zs.length + 1
 run : ∃ e, Rns (xr row) s e zs
variable {row : List Int} {s : Int} {zs : List Nat}
theorem RowR.all (h : RowR row s zs) : Tn (xr row) row.length s (zs.length - 1) (List.range' 0 row.length) := by
 obtain ⟨e, r⟩ := h.run
 have := r.part h.step (j := zs.length - 1) (k := 0) (by have := h.some'; omega)
 have z := h.some'
 rw [show 0 + (zs.length - 1) + 1 = zs.length by omega, show ofs zs 0 = 0 from by simp [ofs], Nat.sub_zero, <- h.len] at this
 exact this
theorem RowR.only (h : RowR row s zs) {t : Nat} {l : List Nat} (hl : Tn (xr row) row.length s t l) (e : l.length = row.length) : l = List.range' 0 row.length /\ zs.length - 1 <= t := by
 obtain ⟨a, b⟩ := (yz3 h.step _ _).mp hl
 have := za0 a e
 refine ⟨this, ?_⟩
 obtain ⟨e', r⟩ := h.run
 have := r.full h.step h.some'
 rw [<- h.len] at this
 subst l
 omega
theorem RowR.le (h : RowR row s zs) {t : Nat} {l : List Nat} (hl : Tn (xr row) row.length s t l) : l.length <= row.length := ((yz3 h.step _ _).mp hl).1.len
end
section
open PySem L2
theorem B3 (m : Nat) : ∀ (ks : List Nat) (i : Nat), (∀ k ∈ ks, k < m) -> d7 m ks i = none
 | [], _, _ => rfl
 | k :: ks, i, h => by
  show (if m <= k then some i else d7 m ks (i + 1)) = none
  rw [if_neg (by have := h k (by simp); omega)]
  exact B3 m ks (i + 1) fun q hq => h q (mem_cons_of_mem _ hq)
theorem zf1 {ks : List Nat} {k : Nat} (h : k ∈ ks) : ∃ i, i < ks.length /\ ks.getD i 0 = k := by
 obtain ⟨i, hi, e⟩ := getElem_of_mem h
 exact ⟨i, hi, by rw [getD_eq_getElem?_getD, getElem?_eq_getElem hi]; exact e⟩
theorem Kpt.le_last {row : List Int} {s : Int} {ks : List Nat} (h : Kpt row s ks) : ∀ k ∈ ks, k <= ks.getD (ks.length - 1) 0 := by
 intro k hk
 obtain ⟨i, hi, rfl⟩ := zf1 hk
 exact h.last _ _ (h.at' i hi)
theorem B4 (m : Nat) : ∀ (ks : List Nat) (i : Nat), 0 < ks.length -> (∀ j, j + 1 < ks.length -> ks.getD j 0 < m) -> m <= ks.getD (ks.length - 1) 0 -> d7 m ks i = some (i + (ks.length - 1))
 | [k], i, _, _, h => by
  show (if m <= k then some i else none) = _
  rw [if_pos (show m <= k from h)]; rfl
 | k :: k2 :: ks, i, _, hl, h => by
  show (if m <= k then some i else d7 m (k2 :: ks) (i + 1)) = _
  have h0 : k < m := hl 0 (by simp)
  rw [if_neg (by omega), B4 m (k2 :: ks) (i + 1) (by simp) (fun j hj => hl (j + 1) (by simp only [length_cons] at *; omega)) h]
  simp only [length_cons]
  congr 1
  omega
variable {row : List Int} {s : Int} {zs : List Nat}
theorem RowR.kt (h : RowR row s zs) (t : Nat) : ∃ l, BTn row s t l := by
 obtain ⟨l, _, hl⟩ := i6 row s t h.step h.few
 exact ⟨l, hl⟩
theorem RowR.kt_all (h : RowR row s zs) : Kt row s (zs.length - 1) row.length := by
 refine (Kt.iff (h.kt _)).mpr ⟨⟨_, h.all, by simp⟩, fun l hl => h.le hl⟩
theorem RowR.told (h : RowR row s zs) {l : List Nat} (hl : BTn row s (zs.length - 1) l) : l = List.range' 0 row.length := by
 have e : l.length = row.length := Kt.uniq ⟨l, hl, rfl⟩ h.kt_all
 exact (h.only hl.1 e).1
theorem RowR.less (h : RowR row s zs) {t : Nat} (ht : t < zs.length - 1) {l : List Nat} (hl : BTn row s t l) : l.length < row.length := by
 have := h.le hl.1
 rcases Nat.lt_or_ge l.length row.length with z | z
 ·exact z
 ·have := (h.only hl.1 (by omega)).2
  omega
theorem RowR.last (h : RowR row s zs) {ks : List Nat} (k : Kpt row s ks) : ks.getD (ks.length - 1) 0 = row.length := by
 have a := k.last _ _ h.kt_all
 obtain ⟨l, hl, e⟩ := k.at' (ks.length - 1) (by have := k.pos; omega)
 have := h.le hl.1
 omega
theorem RowR.len_kept (h : RowR row s zs) {ks : List Nat} (k : Kpt row s ks) : ks.length = zs.length := by
 have hp := k.pos
 have hz := h.some'
 have e := h.last k
 obtain ⟨l, hl, el⟩ := k.at' (ks.length - 1) (by omega)
 have a := (h.only hl.1 (by omega)).2
 rcases Nat.lt_or_ge zs.length ks.length with z | z
 ·have b := k.less (zs.length - 1) (by omega)
  have c := Kt.uniq (k.at' (zs.length - 1) (by omega)) h.kt_all
  omega
 ·omega
theorem RowR.first (h : RowR row s zs) {ks : List Nat} (k : Kpt row s ks) : d7 row.length ks 0 = some (zs.length - 1) := by
 have e := h.last k
 rw [B4 row.length ks 0 k.pos (fun j hj => by rw [<- e]; exact k.less j hj) (by omega), h.len_kept k]
 congr 1
 omega
theorem RowR.never (h : RowR row s zs) {ks : List Nat} (k : Kpt row s ks) : d7 (row.length + 1) ks 0 = none :=
 B3 _ ks 0 fun q hq => by have := k.le_last q hq; have := h.last k; omega
theorem RowR.zero (h : RowR row s zs) {ks : List Nat} (k : Kpt row s ks) (i : Nat) (hi : i < zs.length) : zs.getD i 0 + 1 <= ks.getD 0 0 := by
 obtain ⟨e, r⟩ := h.run
 have p := r.part h.step (j := 0) (k := i) (by omega)
 rw [<- h.len] at p
 have := ((Kt.iff (h.kt 0)).mp (k.at' 0 k.pos)).2 _ p
 have o := g5 zs i hi
 rw [length_range'] at this
 show _ <= _
 rw [show i + 0 + 1 = i + 1 from rfl] at this
 omega
theorem RowR.one (h : RowR row s zs) {ks : List Nat} (k : Kpt row s ks) (i : Nat) (hi : i + 1 < zs.length) : zs.getD i 0 + zs.getD (i + 1) 0 + 1 <= ks.getD 1 0 := by
 obtain ⟨e, r⟩ := h.run
 have p := r.part h.step (j := 1) (k := i) (by omega)
 rw [<- h.len] at p
 have l := h.len_kept k
 have := ((Kt.iff (h.kt 1)).mp (k.at' 1 (by omega))).2 _ p
 have o := g5 zs i (by omega)
 have o2 := g5 zs (i + 1) (by omega)
 rw [length_range'] at this
 omega
end
section
open PySem L2
theorem zy3 {x : ME} {ρ : Ro} {b : Bool} (h : x ρ = some (.bl b)) : v7 x ρ = some b := by unfold v7; rw [h]
theorem O0 (d : Nat) {x y : ME} {ρ : Ro} (h1 : x ρ = some (dN d)) (h2 : y ρ = some (dN d)) : v7 (m2 neSD x y) ρ = some false := by
 refine zy3 ?_
 rw [k9 h1 h2]
 show some (D.bl (!((d : Int) == (d : Int)))) = _
 rw [beq_self_eq_true]; rfl
theorem xq2 (as bs : List Nat) : List.zipWith (fun d e => D.tup [d, e]) (as.map dN) (bs.map dN) = (as.zip bs).map fun z => D.tup [dN z.1, dN z.2] := by
 rw [List.zip, map_zipWith, zipWith_map_left, zipWith_map_right]
theorem yd1 {m : ML} {ρ : Ro} {ns : List Nat} (h : m ρ = some (ns.map dN)) (hn : ns ≠ []) : ∃ v : Nat, zn7 m ρ = some (dN v) /\ v ∈ ns := by
 cases ns with
 | nil => exact (hn rfl).elim
 | cons a ns =>
  have e : zn7 m ρ = some (.int (maxI (((a :: ns).map fun (k : Nat) => (k : Int))))) := by
   unfold zn7
   rw [h, dns, map_cons (f := fun (k : Nat) => (k : Int))]
   simp only [zr1]
  have hm := zg5 (ns := (a :: ns).map fun (k : Nat) => (k : Int)) (by simp)
  obtain ⟨v, hv, ev⟩ := List.mem_map.mp hm
  exact ⟨v, by rw [e, <- ev]; rfl, hv⟩
def both (zs : List Nat) : List Nat := (zs.zip (zs.drop 1)).map fun z => z.1 + z.2
abbrev envG (row : List Int) (s : Int) (zs : List Nat) (o3 o4 o5 : Option S) : Ro := [some (.sh (RI row)), some (.sh (L zs)), some (.sh (.int s)), o3, o4, o5]
theorem yp4 {row : List Int} {s : Int} {zs : List Nat} {o3 o4 o5 : Option S} (hz : zs.length <= 300) :
  Q6 [none, none] (r6 zip2 (z8 (mvar 1) (z8 (mlst (mcut (bvar 1) (K9 (mc (.int 1))) D2)) anil))) (.tp [0, 1]) cyes (m2 addD (mvar 0) (mvar 1)) (envG row s zs o3 o4 o5) = some ((both zs).map dN) := by
 unfold Q6
 have e1 : r6 zip2 (z8 (mvar 1) (z8 (mlst (mcut (bvar 1) (K9 (mc (.int 1))) D2)) anil)) (envG row s zs o3 o4 o5) = some ((zs.zip (zs.drop 1)).map fun z => D.tup [dN z.1, dN z.2]) := by
  have c1 : mlst (mcut (bvar 1) (K9 (mc (.int 1))) D2) (envG row s zs o3 o4 o5) = some (L (zs.drop 1)) := by
   refine (p8 (ds := (zs.drop 1).map dN) ?_)
   unfold mcut
   refine (congrArg some (zx2 dN zs (some 1) none)).trans ?_
   rw [show (some (1 : Int)) = some ((1 : Nat) : Int) from rfl, yq7]
  unfold r6
  rw [z6 (d := L zs) rfl (z6 c1 y4), Option.bind_some]
  show some (List.zipWith (fun d e => D.tup [d, e]) (zs.map dN) ((zs.drop 1).map dN)) = _
  rw [xq2]
 rw [e1, Option.bind_some]
 refine (Y0 (f := fun z : Nat × Nat => D.tup [dN z.1, dN z.2]) (p := fun _ => true) (G := fun z : Nat × Nat => dN (z.1 + z.2)) (fun _ ρ => ∃ o o', ρ = [o, o']) (by
  rintro z zs ρ ⟨o, o', rfl⟩
  refine ⟨[some (.sh (dN z.1)), some (.sh (dN z.2))], rfl, rfl, fun _ => ?_, _, _, rfl⟩
  rw [k9 (a := dN z.1) (b := dN z.2) rfl rfl]
  show some (D.int ((z.1 : Int) + (z.2 : Int))) = some (D.int ((z.1 + z.2 : Nat) : Int))
  rw [Int.natCast_add]) (zs.zip (zs.drop 1)) _ [] ⟨none, none, rfl⟩ (v4 (by simp; omega))).trans ?_
 rw [List.filter_eq_self.mpr (fun _ _ => rfl)]
 unfold both
 rw [map_map]; rfl
theorem yg5 {zs : List Nat} {v : Nat} (h : v ∈ both zs) : ∃ i, i + 1 < zs.length /\ v = zs.getD i 0 + zs.getD (i + 1) 0 := by
 obtain ⟨z, hz, rfl⟩ := List.mem_map.mp h
 obtain ⟨i, hi, e⟩ := getElem_of_mem hz
 rw [length_zip, length_drop] at hi
 refine ⟨i, by omega, ?_⟩
 rw [<- e, getElem_zip, getElem_drop, getD_eq_getElem?_getD, getD_eq_getElem?_getD, getElem?_eq_getElem (by omega), getElem?_eq_getElem (by omega)]
 simp [Nat.add_comm]
theorem xt2 {zs : List Nat} (h : 1 < zs.length) : both zs ≠ [] := fun e => by
 have := congrArg List.length e
 unfold both at this
 rw [length_map, length_zip, length_drop, length_nil] at this
 omega
end
section
open PySem L2
theorem yc9 (l : List Nat) : eqFD true (.lst (l.map dN)) (.lst (l.map dN)) = some (.bl false) := by rw [dns]; exact xh0 _
theorem yb0 {x y : ML} {ρ : Ro} {l : List Nat} (h1 : x ρ = some (l.map dN)) (h2 : y ρ = some (l.map dN)) : v7 (meqB true x y) ρ = some false := by
 refine zy3 ?_
 unfold meqB
 rw [h1, h2]
 exact yc9 l
theorem xg7 {m : ML} {ρ : Ro} (n : Nat) (h : m ρ = some [.int (n : Int)]) (hn : n <= 300) : r6 ys5 m ρ = some ((List.range' 0 n).map dN) := by
 unfold r6
 rw [h, Option.bind_some]
 unfold ys5
 have h1 : okR (n : Int) = true := by unfold okR; simp; omega
 have h2 : decide ((n : Int).toNat <= 2 ^ 24) = true := decide_eq_true (by omega)
 simp only [h1, h2, Bool.and_self, if_true]
 rw [Int.toNat_natCast, Y3, range_eq_range']
 refine congrArg some (map_congr_left fun i _ => ?_)
 show D.int (0 + (i : Int)) = D.int (i : Int)
 rw [Int.zero_add]
theorem yd8 (ks : List Nat) (p : Nat) (h : p < ks.length) : atI (ks.map dN) (p : Int) = some (dN (ks.getD p 0)) := xg5 ks p h
theorem Rns.many {x : Nat -> Int} {s : Int} {e : Bool} {zs : List Nat} (h : Rns x s e zs) : ∀ k, k <= zs.length -> k <= ofs zs k
 | 0, _ => Nat.zero_le _
 | k + 1, hk => by
  have := h.many k (by omega)
  have e := g5 zs k (by omega)
  have p := h.size (k := k) (by omega)
  omega
theorem ym1 {row : List Int} {s : Int} {zs : List Nat} (h : RowR row s zs) : zm4 [RI row, L zs, .int s] = some (.sh (.bl true)) := by
 have hs := h.step
 have hr := h.few
 have hz := h.some'
 have hzl : zs.length <= 300 := by
  obtain ⟨e, r⟩ := h.run
  have := r.many zs.length (Nat.le_refl _)
  have := h.len
  omega
 obtain ⟨ks, ek, hk⟩ := M0 row s hs hr
 have hp := hk.pos
 have hkl := h.len_kept hk
 obtain ⟨l, el, hl⟩ := i6 row s (zs.length - 1) hs hr
 have ell := h.told hl
 have et : ((zs.length : Int) - 1) = ((zs.length - 1 : Nat) : Int) := by omega
 unfold zm4 xt8
 refine X2 ?_
 refine x9 (ρ' := envG row s zs (some (.sh (dN (zs.length - 1)))) none none) ?_ ?_
 ·refine (j9 (d := dN (zs.length - 1)) ?_).trans rfl
  rw [k9 (a := .int (zs.length : Int)) (b := .int 1) ((i4 (m := bvar 1) (ds := zs.map dN) rfl).trans (by rw [length_map])) rfl]
  show some (D.int ((zs.length : Int) - 1)) = _
  rw [et]; rfl
 refine x9 (ρ' := envG row s zs (some (.sh (dN (zs.length - 1)))) (some (.sh (L ks))) none) ((j9 (zg3 (z6 (d := RI row) rfl (z6 (d := .int s) rfl y4)) ek)).trans rfl) ?_
 have lr : ∀ o3 o4 o5, mlen (bvar 0) (envG row s zs o3 o4 o5) = some (dN row.length) := fun _ _ _ => (i4 (m := bvar 0) (ds := row.map .int) rfl).trans (by rw [length_map]; rfl)
 refine l9 (zv4 (b := false) ?_ (M4 ?_))
 ·refine zq0 (a := false) (b := false) ?_ (zq0 (a := false) (b := false) ?_ ?_)
  ·refine O0 row.length ?_ (lr _ _ _)
   have := i5 (m := bvar 4) (i := m1 negD (mc (.int 1))) (ρ := envG row s zs (some (.sh (dN (zs.length - 1)))) (some (.sh (L ks))) none) (k := -1) rfl rfl (zj7 ks hp)
   rw [h.last hk] at this
   exact this
  ·refine O0 zs.length ?_ ?_
   ·exact (i4 (m := bvar 4) (ds := ks.map dN) rfl).trans (by rw [length_map, hkl]; rfl)
   ·rw [k9 (a := dN (zs.length - 1)) (b := .int 1) rfl rfl]
    show some (D.int (((zs.length - 1 : Nat) : Int) + 1)) = some (D.int (zs.length : Int))
    rw [<- et, Int.sub_add_cancel]
  ·refine O0 (zs.length - 1) ?_ rfl
   rw [w6 (ds := [RI row, .int s, .int (row.length : Int)]) (z6 (d := RI row) rfl (z6 (d := .int s) rfl (z6 (lr _ _ _) y4))) (V6 row s row.length hs hr ek), h.first hk]
   rfl
 show Run _ _ _
 refine l9 (zv4 (b := false) ?_ (M4 ?_))
 ·refine zq0 (a := false) (b := false) ?_ ?_
  ·refine yb0 (l := List.range' 0 row.length) ?_ (xg7 row.length (z6 (lr _ _ _) y4) hr)
   rw [<- ell]
   exact i8 (w6 (z6 (d := RI row) rfl (z6 (d := .int s) rfl (z6 (d := dN (zs.length - 1)) rfl y4))) el)
  ·obtain ⟨v, ev, hv⟩ := yd1 (m := bvar 1) (ρ := envG row s zs (some (.sh (dN (zs.length - 1)))) (some (.sh (L ks))) none) (ns := zs) rfl (by intro z; rw [z] at hz; simp at hz)
   obtain ⟨i, hi, e⟩ := zf1 hv
   have := h.zero hk i hi
   rw [zi6 (i5 (m := bvar 4) (k := ((0 : Nat) : Int)) rfl rfl (yd8 ks 0 hp)) ((k9 (a := dN v) (b := .int 1) ev rfl).trans (show _ = some (D.int ((v : Int) + 1)) from rfl)), decide_eq_false (by omega)]
 show Run _ _ _
 refine x9 (ρ' := envG row s zs (some (.sh (dN (zs.length - 1)))) (some (.sh (L ks))) (some (.sh (L (both zs))))) ((j9 (p8 (yp4 hzl))).trans rfl) ?_
 have gt0 : ∀ o4 o5, v7 (m2 gtD (mvar 3) (mc (.int 0))) (envG row s zs (some (.sh (dN (zs.length - 1)))) o4 o5) = some (decide (0 < zs.length - 1)) := fun o4 o5 => by
  refine zy3 ?_
  rw [k9 (a := dN (zs.length - 1)) (b := .int 0) rfl rfl]
  show some (D.bl (decide (((zs.length - 1 : Nat) : Int) > 0))) = _
  congr 2
  apply decide_eq_decide.mpr
  omega
 refine l9 (zv4 (b := false) ?_ (M4 ?_))
 ·by_cases h1 : 0 < zs.length - 1
  ·refine (yp0 (a := true) (b := false) ((gt0 _ _).trans (by rw [decide_eq_true h1])) ?_)
   obtain ⟨v, ev, hv⟩ := yd1 (m := bvar 5) (ρ := envG row s zs (some (.sh (dN (zs.length - 1)))) (some (.sh (L ks))) (some (.sh (L (both zs))))) (ns := both zs) rfl (xt2 (by omega))
   obtain ⟨i, hi, e⟩ := yg5 hv
   have := h.one hk i hi
   rw [zi6 (i5 (m := bvar 4) (k := ((1 : Nat) : Int)) rfl rfl (yd8 ks 1 (by omega))) ((k9 (a := dN v) (b := .int 1) ev rfl).trans (show _ = some (D.int ((v : Int) + 1)) from rfl)), decide_eq_false (by omega)]
  ·exact yq9 ((gt0 _ _).trans (by rw [decide_eq_false h1]))
 show Run _ _ _
 refine l9 (zv4 (b := false) ?_ (M4 ?_))
 ·by_cases h1 : 0 < zs.length - 1
  ·refine (yp0 (a := true) (b := false) ((gt0 _ _).trans (by rw [decide_eq_true h1])) ?_)
   obtain ⟨l2, el2, hl2⟩ := i6 row s (zs.length - 1 - 1) hs hr
   have lt := h.less (by omega) hl2
   have a1 : m2 subD (mvar 3) (mc (.int 1)) (envG row s zs (some (.sh (dN (zs.length - 1)))) (some (.sh (L ks))) (some (.sh (L (both zs))))) = some (dN (zs.length - 1 - 1)) := by
    rw [k9 (a := dN (zs.length - 1)) (b := .int 1) rfl rfl]
    show some (D.int (((zs.length - 1 : Nat) : Int) - 1)) = some (D.int ((zs.length - 1 - 1 : Nat) : Int))
    congr 2
    omega
   rw [zi7 ((i4 (ds := l2.map dN) (i8 (w6 (z6 (d := RI row) rfl (z6 (d := .int s) rfl (z6 a1 y4))) el2))).trans (by rw [length_map])) (lr _ _ _), decide_eq_false (by omega)]
  ·exact yq9 ((gt0 _ _).trans (by rw [decide_eq_false h1]))
 show Run _ _ _
 refine ⟨_, ?_, rfl⟩
 refine Z0 ?_
 rw [k9 (a := .non) (b := .non) ?_ rfl]
 ·rfl
 ·have a1 : m2 addD (mlen (bvar 0)) (mc (.int 1)) (envG row s zs (some (.sh (dN (zs.length - 1)))) (some (.sh (L ks))) (some (.sh (L (both zs))))) = some (.int ((row.length + 1 : Nat) : Int)) := by
   rw [k9 (lr _ _ _) (b := .int 1) rfl]
   rfl
  rw [w6 (z6 (d := RI row) rfl (z6 (d := .int s) rfl (z6 a1 y4))) (V6 row s (row.length + 1) hs hr ek), h.never hk]
  rfl
end
section
open PySem L2
structure Bld (row : List Int) (s : Int) (d : Bool) (zs : List Nat) (most j : Nat) (here : Int) : Prop where
 few : ∀ z ∈ zs, z <= most
 run : Rns (xr row) s d zs
 now : Run1 (xr row) s (way d zs.length) (ofs zs zs.length) (ofs zs zs.length + j)
 len : row.length = ofs zs zs.length + j + 1
 at' : xr row (ofs zs zs.length + j) = here
theorem K1 (row : List Int) (v : Int) (i : Nat) : xr (row ++ [v]) i = if i < row.length then xr row i else if i = row.length then v else 0 := by
 unfold xr
 simp only [getD_eq_getElem?_getD]
 by_cases h : i < row.length
 ·rw [if_pos h, getElem?_append_left h]
 ·rw [if_neg h, getElem?_append_right (by omega)]
  by_cases h2 : i = row.length
  ·rw [if_pos h2, h2, Nat.sub_self]; rfl
  ·rw [if_neg h2, getElem?_eq_none (by simp; omega)]; rfl
theorem xj6 (zs : List Nat) (k : Nat) (h : k <= zs.length) : ofs zs k <= ofs zs zs.length := by
 have := L3 zs (zs.length - k) k (by omega)
 rw [show k + (zs.length - k) = zs.length by omega] at this
 exact this
theorem Run1.snoc {row : List Int} {v : Int} {s : Int} {d : Bool} {a b : Nat} (h : Run1 (xr row) s d a b) (hb : b < row.length) : Run1 (xr (row ++ [v])) s d a b := fun i h1 h2 => by
 rw [K1, if_pos (by omega), K1, if_pos (by omega)]
 exact h i h1 h2
theorem Bld.start (h : Int) (s : Int) (d : Bool) (most : Nat) : Bld [h] s d [] most 0 h where
 few := by simp
 run := ⟨by simp, fun k hk => by simp at hk⟩
 now := fun i h1 h2 => by omega
 len := rfl
 at' := rfl
theorem Bld.step {row : List Int} {s : Int} {d : Bool} {zs : List Nat} {most j : Nat} {here v : Int} (h : Bld row s d zs most j here) (hv : far s (way d zs.length) here v) : Bld (row ++ [v]) s d zs most (j + 1) v where
 few := h.few
 run := ⟨h.run.pos, fun k hk => (h.run.run k hk).snoc (by have := xj6 zs (k + 1) (by omega); have := h.len; omega)⟩
 now := fun i h1 h2 => by
  have hl := h.len
  rcases Nat.lt_or_ge i (ofs zs zs.length + j) with z | z
  ·exact (h.now.snoc (by omega)) i h1 z
  ·have : i = ofs zs zs.length + j := by omega
   subst this
   rw [K1, if_pos (by omega), K1, if_neg (by omega), if_pos (by omega), h.at']
   exact hv
 len := by rw [length_append, length_singleton, h.len]; omega
 at' := by
  have hl := h.len
  rw [K1, if_neg (by omega), if_pos (by omega)]
theorem zn2 (zs : List Nat) (z k : Nat) (h : k <= zs.length) : ofs (zs ++ [z]) k = ofs zs k := by
 unfold ofs; rw [take_append_of_le_length h]
theorem zn3 (zs : List Nat) (z : Nat) : ofs (zs ++ [z]) (zs.length + 1) = ofs zs zs.length + z := by
 unfold ofs
 rw [take_of_length_le (by simp), take_of_length_le (Nat.le_refl _), sum_append]; simp
theorem Bld.close {row : List Int} {s : Int} {d : Bool} {zs : List Nat} {most z : Nat} {here : Int} (h : Bld row s d zs most z here) (hz : 0 < z) (hm : z <= most) : Bld row s d (zs ++ [z]) most 0 here where
 few := fun y hy => by
  rcases List.mem_append.mp hy with w | w
  ·exact h.few y w
  ·rw [List.mem_singleton.mp w]; exact hm
 run := ⟨fun y hy => by
  rcases List.mem_append.mp hy with w | w
  ·exact h.run.pos y w
  ·rw [List.mem_singleton.mp w]; exact hz, fun k hk => by
  rw [length_append, length_singleton] at hk
  rcases Nat.lt_or_ge k zs.length with w | w
  ·rw [zn2 zs z k (by omega), zn2 zs z (k + 1) (by omega)]
   exact h.run.run k w
  ·have : k = zs.length := by omega
   subst this
   rw [zn2 zs z _ (Nat.le_refl _), zn3]
   exact h.now⟩
 now := fun i h1 h2 => by omega
 len := by rw [length_append, length_singleton, zn3, h.len]
 at' := by rw [length_append, length_singleton, zn3]; exact h.at'
theorem J3 (zs : List Nat) (most : Nat) (h : ∀ z ∈ zs, z <= most) : ∀ k, k <= zs.length -> ofs zs k <= k * most
 | 0, _ => by simp [ofs]
 | k + 1, hk => by
  have := J3 zs most h k (by omega)
  have e := g5 zs k (by omega)
  have : zs.getD k 0 <= most := h _ (by rw [getD_eq_getElem?_getD, getElem?_eq_getElem (by omega)]; simp)
  rw [Nat.succ_mul]
  omega
theorem Bld.done {row : List Int} {s : Int} {d : Bool} {zs : List Nat} {most : Nat} {here : Int} (h : Bld row s d zs most 0 here) (hs : 1 <= s) (hz : 0 < zs.length) (hm : zs.length * most <= 299) : RowR row s zs where
 step := hs
 few := by have := J3 zs most h.few zs.length (Nat.le_refl _); have := h.len; omega
 some' := hz
 len := h.len
 run := ⟨d, h.run⟩
def sg (d : Bool) : Int := if d then 1 else -1
theorem xo3 {s x here : Int} (d : Bool) (hs : 1 <= s) (hx : 0 <= x) : far s d here (here + sg d * (s + x)) := by
 unfold far sg
 cases d
 ·simp only [Bool.false_eq_true, if_false]; omega
 ·simp only [if_true]; omega
theorem xo2 (d : Bool) : 0 - sg d = sg (!d) := by cases d <;> rfl
end
section
open PySem L2
abbrev ER (p : Addr) (c k s : Int) (many most : Nat) (here : Int) (d : Bool) (row : List Int) (zs : List Nat) (o8 o9 : Option S) : Ro := [some (.ob p (RL c k)), some (.sh (.int s)), some (.sh (dN many)), some (.sh (dN most)), some (.sh (.int here)), some (.sh (.int (sg d))), some (.own (row.map .int)), some (.own (zs.map dN)), o8, o9]
theorem xr3 {i : Nat} {x : ME} {ρ : Ro} {d : D} {ds : List D} (h : x ρ = some d) (h2 : ρ[i]? = some (some (.own ds))) (hz : ds.length < sizeLine) : mapp i x ρ = some (.nx (ρ.set i (some (.own (ds ++ [d]))))) := by
 unfold mapp; rw [h2]; simp only; rw [h]; simp only [hz, if_true]; try rfl
theorem xr2 {i : Nat} {x : MEm} {ρ ρ1 : Ro} {d : D} {ds0 ds : List D} (h0 : ρ[i]? = some (some (.own ds0))) (h : x ρ = some (d, ρ1)) (h2 : ρ1[i]? = some (some (.own ds))) (hz : ds.length < sizeLine) : yt7 i x ρ = some (.nx (ρ1.set i (some (.own (ds ++ [d]))))) := by
 unfold yt7; rw [h0]; simp only; rw [h]; simp only; rw [h2]; simp only [hz, if_true]
theorem yn3 (d : Bool) (x : Int) : O2 (sg d) x = true := by
 cases d
 ·exact zn4 _ _ (by decide) (by decide)
 ·exact zn4 _ _ (by decide) (by decide)
theorem yz8 (c k s : Int) (hs : 1 <= s) (many most : Nat) (here : Int) (e : Bool) (row : List Int) (zs zs' : List Nat) (j : Nat) (d : Bool) (hd : d = way e zs.length) (hr : row.length <= 1000) (h : Bld row s e zs most j here) (o8 o9 : Option S) :
  ∃ c' k' v, Bld (row ++ [v]) s e zs most (j + 1) v /\ ∀ p, zx9 (ER p c k s many most here d row zs' o8 o9) = some (.nx (ER p c' k' s many most v d (row ++ [v]) zs' o8 o9)) := by
 have i3 : 0 + 1 + 1 + 1 <= sizeLine := v4 (by decide)
 obtain ⟨w, c1, k1, l1, u1, e1⟩ := X4 c k 3 (by decide) (by decide)
 obtain ⟨m, hm1, hm2⟩ := at3 1 3 50 w l1 u1
 obtain ⟨x, c2, k2, l2, u2, e2⟩ := X4 c1 k1 m (by omega) (by omega)
 subst hd
 refine ⟨c2, k2, here + sg (way e zs.length) * (s + x), h.step (xo3 _ hs l2), fun p => ?_⟩
 unfold zx9
 refine seqI (ρ' := ER p c2 k2 s many most (here + sg (way e zs.length) * (s + x)) (way e zs.length) row zs' o8 o9) ?_ ?_
 ·have q0 : t6 Z1 0 (j4 (m2m ixLD (mpu (mlst (w9 (z8 (mc (.int 1)) (z8 (mc (.int 3)) (z8 (mc (.int 50)) anil)))))) (t6 Z1 0 (apu (z8 (mc (.int 3)) anil)))) (apu anil)) (ER p c k s many most here (way e zs.length) row zs' o8 o9) = some (.int x, ER p c2 k2 s many most here (way e zs.length) row zs' o8 o9) :=
   zs4 (ρ1 := ER p c1 k1 s many most here (way e zs.length) row zs' o8 o9) (p := p) (r2 := RL c k) rfl (V9 (V4 (Y6 (p8 (v5 (z6 (d := .int 1) rfl (z6 (d := .int 3) rfl (z6 (d := .int 50) rfl y4))) i3))) (L4 e1 rfl) (g := .int m) hm1) (zp4 y4)) rfl (e2 p) rfl
  refine (L5 (V4 (Y6 (d := .int here) rfl) (V4 (Y6 (d := .int (sg (way e zs.length))) rfl) (V4 (Y6 (d := .int s) rfl) q0 (g := .int (s + x)) rfl) (g := .int (sg (way e zs.length) * (s + x))) ?_) (g := .int (here + sg (way e zs.length) * (s + x))) rfl)).trans rfl
  show (if O2 (sg (way e zs.length)) (s + x) = true then some (D.int _) else none) = _
  rw [if_pos (yn3 _ _)]
 ·refine (xr3 (d := .int (here + sg (way e zs.length) * (s + x))) (ds := row.map .int) rfl rfl (by have := p5; rw [length_map]; omega)).trans ?_
  rw [show row.map D.int ++ [D.int (here + sg (way e zs.length) * (s + x))] = (row ++ [here + sg (way e zs.length) * (s + x)]).map D.int by rw [map_append]; rfl]
  rfl
end
section
open PySem L2
theorem yf6 {m : ML} {ρ : Ro} (n : Nat) (h : m ρ = some [dN n]) (hn : n <= 1000) : r6 rng1 m ρ = some ((List.range n).map dN) := by
 unfold r6
 rw [h, Option.bind_some]
 show rng1 [.int (n : Int)] = _
 rw [yy7 (Q3 (by omega) (by omega)), Int.toNat_natCast, Y3]
 refine congrArg some (map_congr_left fun i _ => ?_)
 show D.int (0 + (i : Int)) = D.int (i : Int)
 rw [Int.zero_add]
theorem yn9 (c k s : Int) (hs : 1 <= s) (many most : Nat) (here : Int) (e : Bool) (row : List Int) (zs : List Nat) (hm : 1 <= most) (hm2 : most <= 300) (hr : row.length <= 600) (hz : zs.length <= 300) (h : Bld row s e zs most 0 here) (o8 o9 : Option S) :
  URun zx8 (fun p => ER p c k s many most here (way e zs.length) row zs o8 o9) (fun o => ∃ c' k' row' z here' o9', Bld row' s e (zs ++ [z]) most 0 here' /\ o = fun p => .nx (ER p c' k' s many most here' (way e (zs ++ [z]).length) row' (zs ++ [z]) o8 o9')) := by
 have big := p5
 obtain ⟨x, c1, k1, l1, u1, e1⟩ := X4 c k (most : Int) (by omega) (by omega)
 obtain ⟨y, rfl⟩ := ye8 l1
 unfold zx8
 refine D9 (ρ' := fun p => ER p c1 k1 s many most here (way e zs.length) row (zs ++ [y + 1]) o8 o9) (fun p => ?_) ?_
 ·refine (xr2 (ρ1 := ER p c1 k1 s many most here (way e zs.length) row zs o8 o9) (d := dN (y + 1)) (ds0 := zs.map dN) (ds := zs.map dN) rfl (V4 (Y6 (d := .int 1) rfl) (L4 e1 rfl) ?_) rfl (by rw [length_map]; omega)).trans ?_
  ·show some (D.int (1 + (y : Int))) = some (D.int ((y + 1 : Nat) : Int))
   congr 2; omega
  ·rw [show zs.map dN ++ [dN (y + 1)] = (zs ++ [y + 1]).map dN by rw [map_append]; rfl]
   rfl
 refine za7 (za8 (y + 1) (f := dN) (fun p => yf6 (y + 1) ?_ (by omega)) (fun j ρ => ∃ c' k' row' here' o9', Bld row' s e zs most j here' /\ ρ = fun p => ER p c' k' s many most here' (way e zs.length) row' (zs ++ [y + 1]) o8 o9') ⟨_, _, _, _, _, h, rfl⟩ ?_ ?_)
 ·refine z6 (i5 (ds := (zs ++ [y + 1]).map dN) (k := -1) rfl rfl ?_) y4
  rw [zj7 (zs ++ [y + 1]) (by simp)]
  simp
 ·rintro j ρ hj ⟨c', k', row', here', o9', hb, rfl⟩
  refine ⟨fun p => ER p c' k' s many most here' (way e zs.length) row' (zs ++ [y + 1]) o8 (some (.sh (dN j))), fun _ => rfl, ?_⟩
  obtain ⟨c2, k2, v, b2, e2⟩ := yz8 c' k' s hs many most here' e row' zs (zs ++ [y + 1]) j (way e zs.length) rfl (by have := hb.len; have := h.len; omega) hb o8 (some (.sh (dN j)))
  exact ⟨_, e2, _, rfl, _, _, _, _, _, b2, rfl⟩
 ·rintro ρ ⟨c', k', row', here', o9', hb, rfl⟩
  refine ⟨_, rfl, ?_⟩
  refine yc0 (ρ' := fun p => ER p c' k' s many most here' (way e (zs ++ [y + 1]).length) row' (zs ++ [y + 1]) o8 o9') (fun p => ?_) ⟨_, _, _, _, _, _, hb.close (by omega) (by omega), rfl⟩
  refine (j9 (d := .int (sg (!way e zs.length))) ?_).trans ?_
  ·rw [k9 (a := .int 0) (b := .int (sg (way e zs.length))) rfl rfl]
   show some (D.int (0 - sg (way e zs.length))) = _
   rw [xo2]
  ·rw [show (zs ++ [y + 1]).length = zs.length + 1 by simp]
   rfl
theorem Bld.rlen {row : List Int} {s : Int} {d : Bool} {zs : List Nat} {most : Nat} {here : Int} (h : Bld row s d zs most 0 here) : row.length <= zs.length * most + 1 := by
 have := J3 zs most h.few zs.length (Nat.le_refl _)
 have := h.len
 omega
theorem ya3 (c k s : Int) (hs : 1 <= s) (many most : Nat) (h1 : 1 <= many) (h2 : 1 <= most) (h3 : many * most <= 299) : ∃ row zs c' k', RowR row s zs /\ ∀ p, zb0 p (RL c k) [.int s, dN many, dN most] = some (.sh (.lst [RI row, L zs]), RL c' k') := by
 have big := p5
 have i2 : 0 + 1 + 1 <= sizeLine := v4 (by decide)
 have i1 : 0 + 1 <= sizeLine := v4 (by decide)
 have b1 : many <= 299 := Nat.le_trans (Nat.le_mul_of_pos_right many h2) h3
 have b2 : most <= 299 := Nat.le_trans (Nat.le_mul_of_pos_left most h1) h3
 obtain ⟨x, c1, k1, _, _, e1⟩ := X4 c k 2001 (by decide) (by decide)
 obtain ⟨y, c2, k2, l2, u2, e2⟩ := X4 c1 k1 2 (by decide) (by decide)
 obtain ⟨d, hd⟩ : ∃ d : Bool, ixLD (.lst [.int 1, .int (-1)]) (.int y) = some (.int (sg d)) := by
  have : y = 0 \/ y = 1 := by omega
  rcases this with rfl | rfl
  ·exact ⟨true, rfl⟩
  ·exact ⟨false, rfl⟩
 suffices h : URun yg8 (fun p => T3 10 p (RL c k) [.int s, dN many, dN most]) (fun o => ∃ row zs c' k', RowR row s zs /\ o = fun p => .rg (.lst [RI row, L zs]) p (RL c' k')) by
  obtain ⟨o, e, row, zs, c', k', r, rfl⟩ := h
  exact ⟨row, zs, c', k', r, fun p => zo2 (e p)⟩
 unfold yg8
 refine D9 (ρ' := fun p => [some (.ob p (RL c1 k1)), some (.sh (.int s)), some (.sh (dN many)), some (.sh (dN most)), some (.sh (.int (x - 1000))), none, none, none, none, none]) (fun p => (L5 (V4 (L4 (tl := [some (.sh (.int s)), some (.sh (dN many)), some (.sh (dN most)), none, none, none, none, none, none]) e1 rfl) (Y6 (d := .int 1000) rfl) rfl)).trans rfl) ?_
 refine D9 (ρ' := fun p => [some (.ob p (RL c2 k2)), some (.sh (.int s)), some (.sh (dN many)), some (.sh (dN most)), some (.sh (.int (x - 1000))), some (.sh (.int (sg d))), none, none, none, none]) (fun p => (L5 (V4 (Y6 (p8 (v5 (z6 (d := .int 1) rfl (z6 (d := .int (-1)) rfl y4)) i2))) (L4 (tl := [some (.sh (.int s)), some (.sh (dN many)), some (.sh (dN most)), some (.sh (.int (x - 1000))), none, none, none, none, none]) e2 rfl) hd)).trans rfl) ?_
 refine D9 (ρ' := fun p => [some (.ob p (RL c2 k2)), some (.sh (.int s)), some (.sh (dN many)), some (.sh (dN most)), some (.sh (.int (x - 1000))), some (.sh (.int (sg d))), some (.own ([x - 1000].map .int)), none, none, none]) (fun p => by simp_arith [i1, if_true]) ?_
 refine D9 (ρ' := fun p => ER p c2 k2 s many most (x - 1000) d [x - 1000] [] none none) (fun p => by simp_arith [Nat.zero_le, if_true]; rfl) ?_
 refine za7 (za8 many (f := dN) (fun p => yf6 many (z6 rfl y4) (by omega)) (fun j ρ => ∃ c' k' row' zs here' o8 o9, zs.length = j /\ Bld row' s d zs most 0 here' /\ ρ = fun p => ER p c' k' s many most here' (way d zs.length) row' zs o8 o9) ⟨_, _, _, [], _, _, _, rfl, Bld.start _ s d most, rfl⟩ ?_ ?_)
 ·rintro j ρ hj ⟨c', k', row', zs, here', o8, o9, hz, hb, rfl⟩
  refine ⟨fun p => ER p c' k' s many most here' (way d zs.length) row' zs (some (.sh (dN j))) o9, fun _ => rfl, ?_⟩
  have hl := hb.rlen
  have : zs.length * most <= many * most := Nat.mul_le_mul_right most (by omega)
  obtain ⟨o, eo, c3, k3, row3, z, here3, o93, b3, rfl⟩ := yn9 c' k' s hs many most here' d row' zs h2 (by omega) (by omega) (by omega) hb (some (.sh (dN j))) o9
  exact ⟨_, eo, _, rfl, _, _, _, zs ++ [z], _, _, _, by simp [hz], b3, rfl⟩
 ·rintro ρ ⟨c', k', row', zs, here', o8, o9, hz, hb, rfl⟩
  refine ⟨_, rfl, ?_⟩
  refine ⟨_, fun p => ?_, row', zs, c', k', hb.done hs (by omega) (by rw [hz]; exact h3), rfl⟩
  unfold zf7
  show D3 0 (mpu (mlst (w9 (z8 (mvar 6) (z8 (mvar 7) anil))))) [some (.ob p (RL c' k')), some (.sh (.int s)), some (.sh (dN many)), some (.sh (dN most)), some (.sh (.int here')), some (.sh (.int (sg (way d zs.length)))), some (.sh (RI row')), some (.sh (L zs)), o8, o9] = _
  exact yj6 (Y6 (p8 (v5 (z6 (d := RI row') rfl (z6 (d := L zs) rfl y4)) i2))) rfl
end
end
section
theorem yh0 {row : List Int} {s : Int} {zs : List Nat} (h : RowR row s zs) : lenG s row = (zs.length : Int) + 1 := by
 have hs := h.step
 have hne : row ≠ [] := by intro z; have := h.len; rw [z] at this; simp at this
 obtain ⟨e, r⟩ := h.run
 have w := r.ends hs zs.length 0 (by omega)
 rw [<- h.len] at w
 obtain ⟨a, b, c⟩ := zu6 row s hs h.few
 have u := zo8 row s _ _ a b c (.inr ⟨_, w⟩)
 obtain ⟨m, hm, em⟩ := yx0 row s hs hne
 rw [h.len] at hm
 have v := r.waves hs hm
 rw [length_map, length_range'] at u
 have en : (cutD s row).length = (Y9 s row).length := by unfold cutD NI; simp
 unfold lenG Lg
 rw [en]
 cases row with
 | nil => exact (hne rfl).elim
 | cons x row =>
  simp only [isEmpty_cons, Bool.false_eq_true, if_false]
  omega
theorem za5 (n : Nat) : ∀ l : List Nat, wt (xr (List.replicate n 0)) l = 0
 | [] => rfl
 | p :: l => by
  rw [za6, za5 n l]
  unfold xr
  rw [getD_eq_getElem?_getD, getElem?_replicate]
  by_cases h : p < n
  ·rw [if_pos h]; rfl
  ·rw [if_neg h]; rfl
end
section
theorem zp8 (s : Int) (ns ls : List Int) (hs : 1 <= s) (hl : ns.length <= 300) : yi6 [Go s ns (List.replicate ns.length 0) ls] = some (.sh (.int 0)) := by
 obtain ⟨l, eh⟩ := zk1 ns (List.replicate ns.length 0) s hs (by simp) (fun x hx => by rw [eq_of_mem_replicate hx]; decide) hl
 unfold yi6 xs7
 refine j5 ?_
 have e1 := w6 (f := yt9) (m := z8 (mfld "Grown" "numbers" (mvar 0)) (z8 (mfld "Grown" "least_step" (mvar 0)) (z8 (mfld "Grown" "weights" (mvar 0)) anil))) (ρ := v3 3 [Go s ns (List.replicate ns.length 0) ls]) (z6 (F6 (d := Go s ns (List.replicate ns.length 0) ls) rfl (E7 s ns _ ls)) (z6 (F6 (d := Go s ns (List.replicate ns.length 0) ls) rfl (yd9 s ns _ ls)) (z6 (F6 (d := Go s ns (List.replicate ns.length 0) ls) rfl (yo4 s ns _ ls)) y4))) eh
 rw [show HT (xr (List.replicate ns.length 0)) l = .tup [.int 0, L l] by unfold HT; rw [za5]] at e1
 refine seqI (ρ' := [some (.sh (Go s ns (List.replicate ns.length 0) ls)), some (.sh (.int 0)), some (.sh (L l))]) (by unfold masg; rw [e1]; rfl) rfl
def oR (o : Option (List Int)) : Option S := o.map fun r => .sh (RI r)
def oZ (o : Option (List Nat)) : Option S := o.map fun r => .sh (L r)
def oI (o : Option Int) : Option S := o.map fun r => .sh (.int r)
abbrev EL (scr : List Int) (j : Nat) (c k s : Int) (row : List Int) (zs : List Nat) (o6 : Option (List Int)) (o7 : Option (List Nat)) (d8 : D) (o9 : Option Int) : Ro := [some (.sh (RI scr)), some (.sh (dN j)), some (.own (RL c k)), some (.sh (.int s)), some (.sh (RI row)), some (.sh (L zs)), oR o6, oZ o7, some (.sh d8), oI o9]
section
variable (scr : List Int) (j : Nat) (c k s : Int) (row : List Int) (zs : List Nat) (o6 : Option (List Int)) (o7 : Option (List Nat))
theorem zr2 (hs : 1 <= s) (hr : row.length <= 300) : ∀ (n i : Nat) (o9 : Option Int), i + n = row.length -> ∃ o9', ∀ x, forW (.nm 9) zx7 ((row.drop i).map .int) (EL scr j c k s row zs o6 o7 (.ptr x) o9) [(x, Gc s (row.take i) (List.replicate i 0) (momG s (row.take i)))] = some (.nx (EL scr j c k s row zs o6 o7 (.ptr x) o9'), [(x, Gc s row (List.replicate row.length 0) (momG s row))])
 | 0, i, o9, h => by
  have e : i = row.length := by omega
  subst e
  refine ⟨o9, fun x => ?_⟩
  rw [drop_of_length_le (Nat.le_refl _), take_of_length_le (Nat.le_refl _)]
  rfl
 | n + 1, i, o9, h => by
  have hi : i < row.length := by omega
  obtain ⟨o9', ih⟩ := zr2 hs hr n (i + 1) (some (row.getD i 0)) (by omega)
  refine ⟨o9', fun x => ?_⟩
  rw [show row.drop i = row.getD i 0 :: row.drop (i + 1) by rw [getD_eq_getElem?_getD, getElem?_eq_getElem hi]; exact drop_eq_getElem_cons hi, map_cons]
  refine (xu4 (ρ1 := EL scr j c k s row zs o6 o7 (.ptr x) (some (row.getD i 0))) (ρ2 := EL scr j c k s row zs o6 o7 (.ptr x) (some (row.getD i 0))) (β2 := [(x, Gc s (row.take (i + 1)) (List.replicate (i + 1) 0) (momG s (row.take (i + 1))))]) rfl ?_).trans (ih x)
  unfold zx7
  refine (xd7 (v := row.getD i 0) (g := 0) rfl (Y7 x _ _) (z6 rfl (z6 rfl y4)) (Int.le_refl 0) hs (by rw [length_take]; omega) (by rw [length_replicate]; omega) (by rw [xw6, length_take]; omega)).trans ?_
  rw [R4, <- zh8, yz5 row i hi, <- replicate_succ']
theorem xp0 (x : Addr) (C : Cell) (o9 : Option Int) : thaw (EL scr j c k s row zs o6 o7 (.ptr x) o9) [(x, C)] = EL scr j c k s row zs o6 o7 (zj1 C) o9 := by
 have h8 := xq9 (Y7 x C [])
 show [_, _, _, _, _, _, W9 [(x, C)] (oR o6), W9 [(x, C)] (oZ o7), W9 [(x, C)] (some (.sh (.ptr x))), W9 [(x, C)] (oI o9)] = _
 rw [h8]
 cases o6 <;> cases o7 <;> cases o9 <;> rfl
theorem yg4 (h : RowR row s zs) (x : Addr) (o9 : Option Int) : zx6 (EL scr j c k s row zs o6 o7 (.ptr x) o9) [(x, Gc s row (List.replicate row.length 0) (momG s row))] = some (.nx (EL scr j c k s row zs o6 o7 (.ptr x) o9), [(x, Gc s row (List.replicate row.length 0) (momG s row))]) := by
 unfold zx6
 refine (yr4 ?_).trans (zw6 rfl)
 unfold xv6
 rw [xp0, yd7]
 have hl := h.few
 have lz : m2 addD (mlen (bvar 5)) (mc (.int 1)) (EL scr j c k s row zs o6 o7 (Go s row (List.replicate row.length 0) (momG s row)) o9) = some (dN (zs.length + 1)) := by
  rw [k9 (a := .int (zs.length : Int)) (b := .int 1) ((i4 (m := bvar 5) (ds := zs.map dN) rfl).trans (by rw [length_map])) rfl]
  rfl
 have ob : mvar 8 (EL scr j c k s row zs o6 o7 (Go s row (List.replicate row.length 0) (momG s row)) o9) = some (Go s row (List.replicate row.length 0) (momG s row)) := rfl
 have lg : lenG s row = ((zs.length + 1 : Nat) : Int) := by rw [yh0 h]; omega
 refine zq0 (a := false) (b := false) (O0 (zs.length + 1) ?_ lz) (zq0 (a := false) (b := false) (O0 0 ?_ rfl) (O0 (zs.length + 1) ?_ lz))
 ·rw [zy6 ob (by decide +kernel) (E8 (ye5 s row h.step hl))]
  show some (D.int (lenG s row)) = _
  rw [lg]; rfl
 ·exact zy6 ob (by decide +kernel) (zp8 s row _ h.step hl)
 ·obtain ⟨r, v, rfl⟩ : ∃ r v, row = r ++ [v] := by
   have hne : row ≠ [] := by intro z; have := h.len; rw [z] at this; simp at this
   exact ⟨row.dropLast, row.getLast hne, (dropLast_concat_getLast hne).symm⟩
  rw [zh8] at ob ⊢
  rw [zt9 s _ _ _ _ ob, lg]
  rfl
end
end
section
theorem zy0 {a b : Option S} {tl : List (Option S)} {c k m x c' k' : Int} {e : ME} (h : Nx c k m x c' k') (hx : e (a :: b :: some (.own (RL c k)) :: tl) = some (.int m)) : t6 Z1 2 (apu (z8 e anil)) (a :: b :: some (.own (RL c k)) :: tl) = some (.int x, a :: b :: some (.own (RL c' k')) :: tl) :=
 (C5 (r0 := RL c k) (r2 := RL c k) rfl (zp4 (z6 hx y4)) rfl h rfl).trans rfl
theorem ze7 {is : List Nat} {x : MEm} {ρ ρ1 ρ2 : Ro} {ds : List D} (h : x ρ = some (.lst ds, ρ1)) (h2 : R5 is ds ρ1 = some ρ2) : G2 is x ρ = some (.nx ρ2) := by
 unfold G2; rw [h]; simp only; rw [h2]
theorem yf5 {a b o3 : Option S} {tl : List (Option S)} {c k s : Int} (hs : 1 <= s) (ho : o3 = some (.sh (.int s))) (m7 m12 : Nat) (h2 : 1 <= m7) (h1 : 1 <= m12) (h3 : m12 * m7 <= 299) (h4 : m12 <= 100) :
  ∃ row zs c' k', RowR row s zs /\ t6 zb0 2 (j4 (mpu (mvar 3)) (j4 (m2m addD (mpu (mc (.int 1))) (t6 Z1 2 (apu (z8 (mc (.int (m12 : Int))) anil)))) (apu (z8 (mc (.int (m7 : Int))) anil)))) (a :: b :: some (.own (RL c k)) :: o3 :: tl) = some (.lst [RI row, L zs], a :: b :: some (.own (RL c' k')) :: o3 :: tl) := by
 subst ho
 obtain ⟨x, c1, k1, l1, u1, e1⟩ := X4 c k (m12 : Int) (by omega) (by omega)
 obtain ⟨y, rfl⟩ := ye8 l1
 have hy : (y + 1) * m7 <= 299 := Nat.le_trans (Nat.mul_le_mul_right m7 (by omega)) h3
 obtain ⟨row, zs, c2, k2, r, e2⟩ := ya3 c1 k1 s hs (y + 1) m7 (by omega) h2 hy
 refine ⟨row, zs, c2, k2, r, ?_⟩
 refine (C5 (r0 := RL c1 k1) (r2 := RL c k) (ρ1 := a :: b :: some (.own (RL c1 k1)) :: some (.sh (.int s)) :: tl) (ds := [.int s, dN (y + 1), dN m7]) rfl (V9 (Y6 (d := .int s) rfl) (V9 (V4 (Y6 (d := .int 1) rfl) (zy0 e1 rfl) (g := dN (y + 1)) ?_) (zp4 (z6 rfl y4)))) rfl e2 rfl).trans rfl
 show some (D.int (1 + (y : Int))) = some (D.int ((y + 1 : Nat) : Int))
 congr 2; omega
theorem xv5 {m : MW} {ρ ρ' : Ro} {β : Bx} (h : m ρ [] = some (.nx ρ', β)) : lowS m ρ = some (.nx ρ') := by
 unfold lowS; rw [h]; rfl
def Inv (scr : List Int) (ρ : Ro) : Prop := ∃ o1 o2 o3 o4 o5 o6 o7 o8 o9, ρ = [some (.sh (RI scr)), o1, o2, o3, o4, o5, oR o6, oZ o7, o8, oI o9]
theorem yj5 {x : ME} {ρ : Ro} {b : Bool} (h : x ρ = some (.bl b)) : mtru x ρ = some b := by unfold mtru; rw [h]; rfl
theorem zh0 {i i2 i3 : Nat} {ρ : Ro} {row : List Int} {s : Int} {zs : List Nat} (h : RowR row s zs) (a : mvar i ρ = some (RI row)) (b : mvar i2 ρ = some (L zs)) (c : mvar i3 ρ = some (.int s)) : cnot (mtru (u0 zm4 (z8 (mvar i) (z8 (mvar i2) (z8 (mvar i3) anil))))) ρ = some false := by
 unfold cnot
 rw [yj5 (w6 (z6 a (z6 b (z6 c y4))) (ym1 h))]
 rfl
theorem xn5 (scr : List Int) (j : Nat) (c : Int) (o3 o4 o5 o8 : Option S) (o6 : Option (List Int)) (o7 : Option (List Nat)) (o9 : Option Int) : ∃ ρ', X7 [some (.sh (RI scr)), some (.sh (dN j)), some (.own (RL c 0)), o3, o4, o5, oR o6, oZ o7, o8, oI o9] = some (.nx ρ') /\ Inv scr ρ' := by
 have i3 : 0 + 1 + 1 + 1 <= sizeLine := v4 (by decide)
 have o1 : yw0 10 25 = true := by decide
 have pw : ∀ ρ, m2 powD (mc (.int 10)) (mc (.int 25)) ρ = some (.int (10 ^ 25)) := fun ρ => by
  rw [k9 (a := .int 10) (b := .int 25) rfl rfl]
  show (if yw0 10 25 = true then some (D.int ((10 : Int) ^ (25 : Int).toNat)) else none) = _
  rw [if_pos o1]; rfl
 obtain ⟨x, c1, k1, l1, u1, e1⟩ := X4 c 0 9 (by decide) (by decide)
 obtain ⟨y, c2, k2, l2, u2, e2⟩ := X4 c1 k1 3 (by decide) (by decide)
 obtain ⟨s, hs1, hs2⟩ := at3 1 (1 + x) (10 ^ 25) y l2 u2
 have hs : 1 <= s := by
  rcases hs2 with h | h | h
  ·omega
  ·omega
  ·rw [h]; decide
 obtain ⟨row, zs, c3, k3, r, e3⟩ := yf5 (a := some (.sh (RI scr))) (b := some (.sh (dN j))) (c := c2) (k := k2) (s := s) (tl := [o4, o5, oR o6, oZ o7, o8, oI o9]) hs rfl 7 12 (by decide) (by decide) (by decide) (by decide)
 obtain ⟨c4, k4, p6, p7, e4⟩ : ∃ (c4 k4 : Int) (p6 : Option (List Int)) (p7 : Option (List Nat)), zn8 (zj2 (cpu (v7 (m2 eqSD (mvar 1) (mc (.int 0))))) (J5 (m2m eqSD (t6 Z1 2 (apu (z8 (mc (.int 6)) anil))) (mpu (mc (.int 0)))))) (W6 (wS (G2 [6, 7] (t6 zb0 2 (j4 (mpu (mvar 3)) (j4 (m2m addD (mpu (mc (.int 1))) (t6 Z1 2 (apu (z8 (mc (.int 8)) anil)))) (apu (z8 (mc (.int 37)) anil))))))) (mifW (wE (cnot (mtru (u0 zm4 (z8 (mvar 6) (z8 (mvar 7) (z8 (mvar 3) anil))))))) (zd9 (wE (mc (.bl false)))) (wS c9))) (wS c9) [some (.sh (RI scr)), some (.sh (dN j)), some (.own (RL c3 k3)), some (.sh (.int s)), some (.sh (RI row)), some (.sh (L zs)), oR o6, oZ o7, o8, oI o9] [] = some (.nx [some (.sh (RI scr)), some (.sh (dN j)), some (.own (RL c4 k4)), some (.sh (.int s)), some (.sh (RI row)), some (.sh (L zs)), oR p6, oZ p7, o8, oI o9], []) := by
  have t0 : cpu (v7 (m2 eqSD (mvar 1) (mc (.int 0)))) [some (.sh (RI scr)), some (.sh (dN j)), some (.own (RL c3 k3)), some (.sh (.int s)), some (.sh (RI row)), some (.sh (L zs)), oR o6, oZ o7, o8, oI o9] = some ((j : Int) == 0, [some (.sh (RI scr)), some (.sh (dN j)), some (.own (RL c3 k3)), some (.sh (.int s)), some (.sh (RI row)), some (.sh (L zs)), oR o6, oZ o7, o8, oI o9]) := by
   unfold cpu
   rw [xp8 (i := (j : Int)) rfl]
  cases hj : ((j : Int) == 0) with
  | false =>
   refine ⟨c3, k3, o6, o7, ?_⟩
   unfold zn8 zj2
   rw [t0, hj]
   rfl
  | true =>
   obtain ⟨z, c4, k4, _, _, e4⟩ := X4 c3 k3 6 (by decide) (by decide)
   have t1 : zj2 (cpu (v7 (m2 eqSD (mvar 1) (mc (.int 0))))) (J5 (m2m eqSD (t6 Z1 2 (apu (z8 (mc (.int 6)) anil))) (mpu (mc (.int 0))))) [some (.sh (RI scr)), some (.sh (dN j)), some (.own (RL c3 k3)), some (.sh (.int s)), some (.sh (RI row)), some (.sh (L zs)), oR o6, oZ o7, o8, oI o9] = some (z == 0, [some (.sh (RI scr)), some (.sh (dN j)), some (.own (RL c4 k4)), some (.sh (.int s)), some (.sh (RI row)), some (.sh (L zs)), oR o6, oZ o7, o8, oI o9]) := by
    unfold zj2
    rw [t0, hj]
    show J5 _ _ = _
    unfold J5
    rw [V4 (zy0 e4 rfl) (Y6 (d := .int 0) rfl) (g := .bl (z == 0)) rfl]
   cases hz : (z == 0) with
   | false =>
    refine ⟨c4, k4, o6, o7, ?_⟩
    unfold zn8
    rw [t1, hz]
    rfl
   | true =>
    obtain ⟨long, wide, c5, k5, r5, e5⟩ := yf5 (a := some (.sh (RI scr))) (b := some (.sh (dN j))) (c := c4) (k := k4) (s := s) (tl := [some (.sh (RI row)), some (.sh (L zs)), oR o6, oZ o7, o8, oI o9]) hs rfl 37 8 (by decide) (by decide) (by decide) (by decide)
    refine ⟨c5, k5, some long, some wide, ?_⟩
    unfold zn8
    rw [t1, hz]
    simp only
    refine (i9 (ρ' := [some (.sh (RI scr)), some (.sh (dN j)), some (.own (RL c5 k5)), some (.sh (.int s)), some (.sh (RI row)), some (.sh (L zs)), oR (some long), oZ (some wide), o8, oI o9]) (zw6 (ze7 e5 rfl))).trans ?_
    exact (yr4 (zh0 r5 rfl rfl rfl)).trans (zw6 rfl)
 obtain ⟨q9, eg⟩ := zr2 scr j c4 k4 s row zs p6 p7 hs r.few row.length 0 o9 (by omega)
 have e5 : zc0 8 "Grown" u9 (z8 (mvar 3) anil) zx5 [some (.sh (RI scr)), some (.sh (dN j)), some (.own (RL c4 k4)), some (.sh (.int s)), some (.sh (RI row)), some (.sh (L zs)), oR p6, oZ p7, o8, oI o9] [] = some (.nx [some (.sh (RI scr)), some (.sh (dN j)), some (.own (RL c4 k4)), some (.sh (.int s)), some (.sh (RI row)), some (.sh (L zs)), oR p6, oZ p7, none, oI q9], []) := by
  refine xw4 (z6 rfl y4) fun x _ => ⟨_, (.nx (EL scr j c4 k4 s row zs p6 p7 (.ptr x) q9), [(x, Gc s row (List.replicate row.length 0) (momG s row))]), xv8 x s hs [], ?_, ?_⟩
  ·unfold zx5
   refine (i9 (ρ' := EL scr j c4 k4 s row zs p6 p7 (.ptr x) q9) (β' := [(x, Gc s row (List.replicate row.length 0) (momG s row))]) ?_).trans (yg4 scr j c4 k4 s row zs p6 p7 r x q9)
   unfold yi2
   exact eg x
  ·rfl
 refine ⟨_, ?_, some (.sh (dN j)), some (.own (RL c4 k4)), some (.sh (.int s)), some (.sh (RI row)), some (.sh (L zs)), p6, p7, none, q9, rfl⟩
 unfold X7
 refine xv5 (β := []) ?_
 refine (i9 (ρ' := [some (.sh (RI scr)), some (.sh (dN j)), some (.own (RL c2 k2)), some (.sh (.int s)), o4, o5, oR o6, oZ o7, o8, oI o9]) (zw6 ((L5 (V4 (yj9 (V9 (Y6 (d := .int 1) rfl) (V9 (V4 (Y6 (d := .int 1) rfl) (zy0 e1 rfl) (g := .int (1 + x)) rfl) (zp4 (z6 (pw _) y4)))) i3) (zy0 e2 rfl) (g := .int s) hs1)).trans rfl))).trans ?_
 refine (i9 (zw6 (ze7 e3 rfl))).trans ?_
 refine (i9 ((yr4 (zh0 r rfl rfl rfl)).trans (zw6 rfl))).trans ?_
 exact (i9 e4).trans e5
theorem zr3 {scr : List Int} : ∀ (cs : List Int) (n : Nat) (ρ : Ro), Inv scr ρ -> ∃ ρ', G8 1 2 X7 n (cs.map fun c => RL c 0) ρ = some (.nx ρ') /\ Inv scr ρ'
 | [], n, ρ, h => ⟨ρ, rfl, h⟩
 | c :: cs, n, ρ, h => by
  obtain ⟨o1, o2, o3, o4, o5, o6, o7, o8, o9, rfl⟩ := h
  obtain ⟨ρ1, e1, h1⟩ := xn5 scr n c o3 o4 o5 o8 o6 o7 o9
  obtain ⟨ρ2, e2, h2⟩ := zr3 cs (n + 1) ρ1 h1
  refine ⟨ρ2, ?_, h2⟩
  rw [map_cons, G8]
  show (match X7 [some (.sh (RI scr)), some (.sh (dN n)), some (.own (RL c 0)), o3, o4, o5, oR o6, oZ o7, o8, oI o9] with | some (.nx ρ2) => G8 1 2 X7 (n + 1) (cs.map fun c => RL c 0) ρ2 | some (.ct ρ2) => G8 1 2 X7 (n + 1) (cs.map fun c => RL c 0) ρ2 | some (.bk ρ2) => some (Out.nx ρ2) | o => o) = _
  rw [e1]
  exact e2
theorem law_true (ns : List Int) (hn : ns.length <= 63) : zm3 [.lst (ns.map .int)] = some (.sh (.bl true)) := by
 unfold zm3 xt4
 refine j5 ?_
 have c1 : mlst (mcut (bvar 0) D2 (K9 (mc (.int 3)))) (v3 10 [.lst (ns.map .int)]) = some (.lst ((cutI ns none (some 3)).map .int)) := by
  refine p8 ?_
  unfold mcut
  exact congrArg some (zx2 D.int ns none (some 3))
 have hc := zf4 ns none (some 3)
 obtain ⟨cs, e⟩ := xz7 (cutI ns none (some 3)) (by omega)
 obtain ⟨ρ', e2, h2⟩ := zr3 (scr := ns) cs 0 (v3 10 [.lst (ns.map .int)]) ⟨none, none, none, none, none, none, none, none, none, rfl⟩
 refine seqI (ρ' := ρ') ?_ rfl
 unfold zg1 zg4
 rw [z6 c1 y4, Option.bind_some, e, Option.bind_some]
 exact e2
end
end Lw
namespace Lw
open List
open PySem L2
open PyProof.Rows
section
def top (i : Nat) : Stmt := PySem.Challenge.pw_wavyrow_k35_whole_runs_by_turns.main.body.getD i (.Pass ⟨0, 0, 0, 0⟩)
def xg3 : Stmt -> List Stmt
 | .ClassDef _ _ _ b _ _ _ _ _ _ _ => b
 | _ => []
def zc6 (i j : Nat) : Stmt := (xg3 (top i)).getD j (.Pass ⟨0, 0, 0, 0⟩)
section
variable (P : Program) (w : World) (K : W.Frag) (mg : Str -> Option Value) (base : Heap)
abbrev zi1 : Prop := QHd P w K mg base 1 "refuse_step" ["step"] (spR K 1 zy7)
abbrev yf2 : Prop := QHd P w K mg base 1 "later_steps" ["row", "step"] (spR K 2 zm6)
abbrev T_Z9 : Prop := QHd P w K mg base 1 "longer_first" ["places"] (spR K 1 m_Z9)
abbrev xf3 : Prop := QHd P w K mg base 1 "first_break" ["row", "step", "kind", "start"] (spR K 4 zm5)
abbrev xf1 : Prop := QHd P w K mg base 2 "pieces_of" ["row", "step"] (spR K 2 ys0)
abbrev T_Z1 : Prop := QHd P w K mg base 1 "longest_behind" ["tails", "laters"] (spR K 2 m_Z1)
abbrev T_Z6 : Prop := QHd P w K mg base 3 "one_turn_more" ["steps", "fewer"] (spR K 2 m_Z6)
abbrev xr7 : Prop := QHd P w K mg base 1 "no_tails" ["row"] (spR K 1 yt8)
abbrev xr9 : Prop := QHd P w K mg base 3 "longest_tail" ["tails"] (spR K 1 zs5)
abbrev T_Z0 : Prop := QHd P w K mg base 4 "longest_turning" ["row", "step", "turns"] (spR K 3 m_Z0)
abbrev xf8 : Prop := QHd P w K mg base 1 "most_stepped" ["steps"] (spR K 1 xv3)
abbrev T_Z5 : Prop := QHd P w K mg base 4 "kept_by_turns" ["row", "step"] (spR K 2 m_Z5)
abbrev xf5 : Prop := QHd P w K mg base 5 "fewest_turns" ["row", "step", "many"] (spR K 3 ys1)
abbrev T_Z4 : Prop := QHd P w K mg base 1 "refuse_weight" ["weight"] (spR K 1 m_Z4)
abbrev T_Z3 : Prop := QHd P w K mg base 2 "refuse_weights" ["row", "weights"] (spR K 2 m_Z3)
abbrev T_Z7 : Prop := QHd P w K mg base 1 "heavier_first" ["heavy"] (spR K 1 m_Z7)
abbrev T_Z2 : Prop := QHd P w K mg base 3 "first_heaviest" ["heavies"] (spR K 1 m_Z2)
abbrev xf4 : Prop := QHd P w K mg base 4 "heavy_tails" ["row", "step", "weights"] (spR K 3 xv2)
abbrev xf0 : Prop := QHd P w K mg base 5 "heaviest" ["row", "step", "weights"] (spR K 3 yt9)
abbrev M2 (y_Grown : Addr) : Prop := QHm P w K mg base 2 y_Grown "__init__" ["self", "step"] (spW K 2 u9)
abbrev xf6 (y_Grown : Addr) : Prop := QHm P w K mg base 3 y_Grown "pieces" ["self"] (spR K 1 ys2)
abbrev xq0 (y_Grown : Addr) : Prop := QHm P w K mg base 4 y_Grown "length" ["self"] (spR K 1 zs6)
abbrev E5 (y_Grown : Addr) : Prop := QHm P w K mg base 5 y_Grown "put" ["self", "number", "weight"] (spW K 3 Z2)
abbrev xf7 (y_Grown : Addr) : Prop := QHm P w K mg base 6 y_Grown "weight" ["self"] (spR K 1 yi6)
abbrev T_Z8 (y_Grown : Addr) : Prop := QHm P w K mg base 1 y_Grown "moments" ["self"] (spR K 1 m_Z8)
abbrev xr8 : Prop := QHd P w K mg base 1 "_law_next" ["pot", "many"] (spG K 2 Z1)
abbrev B8 : Prop := QHd P w K mg base 1 "_law_pots" ["script"] (spP K 1 U5)
abbrev xg9 : Prop := QHd P w K mg base 2 "_law_runs" ["pot", "step", "many", "most"] (spG K 4 zb0)
abbrev xf2 : Prop := QHd P w K mg base 6 "_law_right" ["row", "sizes", "step"] (spR K 3 zm4)
end
abbrev Zs (mg : Str -> Option Value) : Prop := mg "enumerate" = none /\ mg "len" = none /\ mg "list" = none /\ mg "max" = none /\ mg "min" = none /\ mg "range" = none /\ mg "reversed" = none /\ mg "zip" = none /\ True
theorem T8 {mg : Str -> Option Value} (Z : Zs mg) : mg "enumerate" = none := Z.1
theorem t9 {mg : Str -> Option Value} (Z : Zs mg) : mg "len" = none := Z.2.1
theorem yf3 {mg : Str -> Option Value} (Z : Zs mg) : mg "list" = none := Z.2.2.1
theorem za4 {mg : Str -> Option Value} (Z : Zs mg) : mg "max" = none := Z.2.2.2.1
theorem zd1 {mg : Str -> Option Value} (Z : Zs mg) : mg "min" = none := Z.2.2.2.2.1
theorem g9 {mg : Str -> Option Value} (Z : Zs mg) : mg "range" = none := Z.2.2.2.2.2.1
theorem P2 {mg : Str -> Option Value} (Z : Zs mg) : mg "reversed" = none := Z.2.2.2.2.2.2.1
theorem xe2 {mg : Str -> Option Value} (Z : Zs mg) : mg "zip" = none := Z.2.2.2.2.2.2.2.1
variable {P : Program} {w : World} {K : W.Frag} {mg : Str -> Option Value} {base : Heap}
abbrev yb7 : Stmt := top 7
abbrev wz2 : List Str := ["step"]
theorem xo6 : FnScope wz2 ["step"] (y0 yb7) := qsc
theorem xk8 (D : QDf K mg "refuse_step" yb7 ["step"]) : zi1 P w K mg base :=
 D.mk fun f fd Fn => Fn.okD (k := 0) (m := xs4) xo6 fun cdv A outer s H E hr => (y8 (Z7 (u8 zz9 Q2 (z5 0 (pv 0)) y7 (u3 _)) (y8 V0) m6))
abbrev zo0 : Stmt := top 8
abbrev yo3 : List Str := ["row", "step", "above", "below", "place", "number"]
theorem sc_Z18 : FnScope yo3 ["row", "step"] (y0 zo0) := qsc
theorem W4 : List.Nodup (["later", "step", "number", "row"] : List Str) := by decide +kernel
theorem W3 : List.Nodup (["later", "step", "number", "row"] : List Str) := by decide +kernel
theorem xk7 (D : QDf K mg "later_steps" zo0 ["row", "step"]) (Z : Zs mg) : yf2 P w K mg base :=
 D.mk fun f fd Fn => Fn.okD (k := 0) (m := xs3) sc_Z18 fun cdv A outer s H E hr => (z9 (l5 (i := 2) sc_Z18.nd rfl (Or.inl rfl) (v6 z7)) (z9 (l5 (i := 3) sc_Z18.nd rfl (Or.inl rfl) (v6 z7)) (z9 (Y1 PassesOwn.never rfl (zh3 rfl (T8 Z) (z0 (z5 0 (pv 0)) z7)) (j7 (is := [4, 5]) (a9 rfl (w4 (x8 (i := 4) sc_Z18.nd rfl (Or.inl rfl)) (w4 (x8 (i := 5) sc_Z18.nd rfl (Or.inr rfl)) m9)))) (z9 (Y4 (i := 2) (pv 2) (j8 (K7 (T7 (N := ["later", "step", "number", "row"]) (src := [none, some 1, some 5, some 0]) (y0 zo0) yo3 rfl rfl (by decide +kernel)) rfl (Y5 rfl (g9 Z) (z0 (l4 (z5 4 (pv 4)) y7) (z0 (w8 rfl (t9 Z) (x6 0 (pv 0))) z7))) (fun C fp s0 H0 => (u7 (i := 0) (x8 W4 rfl (Or.inl rfl)))) (fun C fp s0 H0 => (M6 (u8 zn0 J1 (O8 (l8 (x6 3 (pv 3)) (z5 0 (pv 0))) (z5 2 (pv 2))) (z5 1 (pv 1)) (u3 _)))) (fun C fp s0 H0 => (z5 0 (pv 0))))) (fun t ha => qap (pv 2) ha) (z0 (j8 (K7 (T7 (N := ["later", "step", "number", "row"]) (src := [none, some 1, some 5, some 0]) (y0 zo0) yo3 rfl rfl (by decide +kernel)) rfl (Y5 rfl (g9 Z) (z0 (l4 (z5 4 (pv 4)) y7) (z0 (w8 rfl (t9 Z) (x6 0 (pv 0))) z7))) (fun C fp s0 H0 => (u7 (i := 0) (x8 W4 rfl (Or.inl rfl)))) (fun C fp s0 H0 => (M6 (u8 zn0 J1 (O8 (l8 (x6 3 (pv 3)) (z5 0 (pv 0))) (z5 2 (pv 2))) (z5 1 (pv 1)) (u3 _)))) (fun C fp s0 H0 => (z5 0 (pv 0))))) z7)) (y8 (Y4 (i := 3) (pv 3) (j8 (K7 (T7 (N := ["later", "step", "number", "row"]) (src := [none, some 1, some 5, some 0]) (y0 zo0) yo3 rfl rfl (by decide +kernel)) rfl (Y5 rfl (g9 Z) (z0 (l4 (z5 4 (pv 4)) y7) (z0 (w8 rfl (t9 Z) (x6 0 (pv 0))) z7))) (fun C fp s0 H0 => (u7 (i := 0) (x8 W3 rfl (Or.inl rfl)))) (fun C fp s0 H0 => (M6 (u8 zn0 J1 (O8 (z5 2 (pv 2)) (l8 (x6 3 (pv 3)) (z5 0 (pv 0)))) (z5 1 (pv 1)) (u3 _)))) (fun C fp s0 H0 => (z5 0 (pv 0))))) (fun t ha => qap (pv 3) ha) (z0 (j8 (K7 (T7 (N := ["later", "step", "number", "row"]) (src := [none, some 1, some 5, some 0]) (y0 zo0) yo3 rfl rfl (by decide +kernel)) rfl (Y5 rfl (g9 Z) (z0 (l4 (z5 4 (pv 4)) y7) (z0 (w8 rfl (t9 Z) (x6 0 (pv 0))) z7))) (fun C fp s0 H0 => (u7 (i := 0) (x8 W3 rfl (Or.inl rfl)))) (fun C fp s0 H0 => (M6 (u8 zn0 J1 (O8 (z5 2 (pv 2)) (l8 (x6 3 (pv 3)) (z5 0 (pv 0)))) (z5 1 (pv 1)) (u3 _)))) (fun C fp s0 H0 => (z5 0 (pv 0))))) z7))))) (t4 3 (t4 2 (y8 (u5 (W2 (z0 (z5 2 (pv 2)) (z0 (z5 3 (pv 3)) z7))))))))))
abbrev s_Z9 : Stmt := top 11
abbrev N_Z9 : List Str := ["places"]
theorem xe9 : FnScope N_Z9 ["places"] (y0 s_Z9) := qsc
theorem xc2 (D : QDf K mg "longer_first" s_Z9 ["places"]) (Z : Zs mg) : T_Z9 P w K mg base :=
 D.mk fun f fd Fn => Fn.okD (k := 0) (m := b_Z9) xe9 fun cdv A outer s H E hr => (y8 (u5 (W2 (z0 (Q1 (w8 rfl (t9 Z) (x6 0 (pv 0)))) (z0 (z5 0 (pv 0)) z7)))))
abbrev yb6 : Stmt := top 12
abbrev wz1 : List Str := ["row", "step", "kind", "start", "edge", "place", "gain"]
theorem sc_Z19 : FnScope wz1 ["row", "step", "kind", "start"] (y0 yb6) := qsc
theorem xk6 (D : QDf K mg "first_break" yb6 ["row", "step", "kind", "start"]) (Z : Zs mg) : xf3 P w K mg base :=
 D.mk fun f fd Fn => Fn.okD (k := 0) (m := xt9) sc_Z19 fun cdv A outer s H E hr => (z9 (u4 (i := 4) sc_Z19.nd rfl (Or.inl rfl) (z5 3 (pv 3))) (z9 (Y1 PassesOwn.never rfl (Y5 rfl (g9 Z) (z0 (z5 3 (pv 3)) (z0 (w8 rfl (t9 Z) (x6 0 (pv 0))) z7))) (u7 (i := 5) (x8 sc_Z19.nd rfl (Or.inl rfl))) (z9 (u4 (i := 6) sc_Z19.nd rfl (Or.inl rfl) (O8 (l8 (x6 0 (pv 0)) (z5 5 (pv 5))) (l8 (x6 0 (pv 0)) (z5 4 (pv 4))))) (z9 (Z7 (u8 yj2 zz8 (z5 2 (pv 2)) zu9 (u3 _)) (y8 (u4 (i := 6) sc_Z19.nd rfl (Or.inl rfl) (Q1 (z5 6 (pv 6))))) m6) (z9 (Z7 (u8 xc1 xm3 (z5 6 (pv 6)) (Q1 (z5 1 (pv 1))) (u3 _)) (y8 (L0 5 (pv 5))) m6) (y8 (Z7 (u8 xx8 yu0 (z5 6 (pv 6)) y7 (u3 _)) (y8 (u4 (i := 4) sc_Z19.nd rfl (Or.inl rfl) (z5 5 (pv 5)))) m6)))))) (y8 (u5 (w8 rfl (t9 Z) (x6 0 (pv 0)))))))
abbrev yb5 : Stmt := top 13
abbrev wz0 : List Str := ["row", "step", "fall", "rise", "word", "kind", "cuts", "cut"]
theorem sc_Z21 : FnScope wz0 ["row", "step"] (y0 yb5) := qsc
theorem xk4 {y_OTHER_KIND : Addr} (D : QDf K mg "pieces_of" yb5 ["row", "step"]) (H_Z19 : xf3 P w K mg base) (H_Z17 : zi1 P w K mg base) (T_OTHER_KIND : KTab w K y_OTHER_KIND tab_OTHER_KIND) (a_OTHER_KIND : mg "OTHER_KIND" = some (.ref y_OTHER_KIND)) (Z : Zs mg) : xf1 P w K mg base :=
 D.mk fun f fd Fn => Fn.okD (k := 1) (m := xt7) sc_Z21 fun cdv A outer s H E hr => (z9 (c8 (w5 (fun t ha => qcl H_Z17 hr ha) rfl (z0 (z5 1 (pv 1)) z7) qal1)) (z9 (u4 (i := 2) sc_Z21.nd rfl (Or.inl rfl) (w5 (fun t ha => qcl H_Z19 hr ha) rfl (z0 (z5 0 (pv 0)) (z0 (z5 1 (pv 1)) (z0 zu9 (z0 y7 z7)))) qal4)) (z9 (u4 (i := 3) sc_Z21.nd rfl (Or.inl rfl) (w5 (fun t ha => qcl H_Z19 hr ha) rfl (z0 (z5 0 (pv 0)) (z0 (z5 1 (pv 1)) (z0 zu9 (z0 y7 z7)))) qal4)) (z9 (u4 (i := 4) sc_Z21.nd rfl (Or.inl rfl) (ye3 (u8 zz9 Q2 (z5 2 (pv 2)) (z5 3 (pv 3)) (u3 _)) zu9 zu9)) (z9 (u4 (i := 5) sc_Z21.nd rfl (Or.inl rfl) (z5 4 (pv 4))) (z9 (l5 (i := 6) sc_Z21.nd rfl (Or.inl rfl) (v6 z7)) (z9 (u4 (i := 7) sc_Z21.nd rfl (Or.inl rfl) (yv0 rfl rfl (zd1 Z) (z0 (z5 2 (pv 2)) (z0 (z5 3 (pv 3)) z7)))) (z9 (zu1 1000 PassesOwn.never (u8 zz9 Q2 (z5 7 (pv 7)) (w8 rfl (t9 Z) (x6 0 (pv 0))) (u3 _)) (z9 (Y4 (i := 6) (pv 6) (z5 7 (pv 7)) (fun t ha => qap (pv 6) ha) (z0 (z5 7 (pv 7)) z7)) (z9 (u4 (i := 7) sc_Z21.nd rfl (Or.inl rfl) (w5 (fun t ha => qcl H_Z19 hr ha) rfl (z0 (z5 0 (pv 0)) (z0 (z5 1 (pv 1)) (z0 (z5 5 (pv 5)) (z0 (z5 7 (pv 7)) z7)))) qal4)) (y8 (u4 (i := 5) sc_Z21.nd rfl (Or.inl rfl) (xm0 T_OTHER_KIND rfl a_OTHER_KIND (z5 5 (pv 5)))))))) (t4 6 (y8 (u5 (W2 (z0 (z5 4 (pv 4)) (z0 (z5 6 (pv 6)) z7))))))))))))))
abbrev s_Z1 : Stmt := top 15
abbrev N_Z1 : List Str := ["tails", "laters"]
theorem xd3 : FnScope N_Z1 ["tails", "laters"] (y0 s_Z1) := qsc
theorem S3 : List.Nodup (["later", "tails"] : List Str) := by decide +kernel
theorem xb0 (D : QDf K mg "longest_behind" s_Z1 ["tails", "laters"]) (Z : Zs mg) : T_Z1 P w K mg base :=
 D.mk fun f fd Fn => Fn.okD (k := 0) (m := b_Z1) xd3 fun cdv A outer s H E hr => (y8 (u5 (yv1 rfl hr.units rfl (za4 Z) rfl (t9 Z) (zz4 (K7 (T7 (N := ["later", "tails"]) (src := [none, some 0]) (y0 s_Z1) N_Z1 rfl rfl (by decide +kernel)) rfl (S0 (z5 1 (pv 1))) (fun C fp s0 H0 => (u7 (i := 0) (x8 S3 rfl (Or.inl rfl)))) (fun C fp s0 H0 => U3) (fun C fp s0 H0 => (l8 (x6 1 (pv 1)) (z5 0 (pv 0)))))) (j8 (v6 z7)))))
abbrev s_Z6 : Stmt := top 16
abbrev N_Z6 : List Str := ["steps", "fewer", "above", "below", "fewer_ups", "fewer_downs", "ups", "downs", "risen", "fallen", "place"]
theorem sc_Z6 : FnScope N_Z6 ["steps", "fewer"] (y0 s_Z6) := qsc
theorem xc5 (D : QDf K mg "one_turn_more" s_Z6 ["steps", "fewer"]) (H_Z9 : T_Z9 P w K mg base) (H_Z1 : T_Z1 P w K mg base) (Z : Zs mg) : T_Z6 P w K mg base := by
 obtain ⟨x_Z9, d_Z9, G_Z9, b_Z9, k_Z9, a_Z9⟩ := H_Z9
 exact D.mk fun f fd Fn => Fn.okD (k := 2) (m := b_Z6) sc_Z6 fun cdv A outer s H E hr => (z9 (a8 (l7 (z5 0 (pv 0)) (j7 (is := [2, 3]) (a9 rfl (w4 (x8 (i := 2) sc_Z6.nd rfl (Or.inl rfl)) (w4 (x8 (i := 3) sc_Z6.nd rfl (Or.inl rfl)) m9)))))) (z9 (a8 (l7 (z5 1 (pv 1)) (j7 (is := [4, 5]) (a9 rfl (w4 (x8 (i := 4) sc_Z6.nd rfl (Or.inl rfl)) (w4 (x8 (i := 5) sc_Z6.nd rfl (Or.inl rfl)) m9)))))) (z9 (l5 (i := 6) sc_Z6.nd rfl (Or.inl rfl) (R9 (v6 (z0 (j8 (v6 z7)) z7)) (w8 rfl (t9 Z) (x6 2 (pv 2))))) (z9 (l5 (i := 7) sc_Z6.nd rfl (Or.inl rfl) (R9 (v6 (z0 (j8 (v6 z7)) z7)) (w8 rfl (t9 Z) (x6 2 (pv 2))))) (z9 (l5 (i := 8) sc_Z6.nd rfl (Or.inl rfl) (R9 (v6 (z0 (j8 (v6 z7)) z7)) (w8 rfl (t9 Z) (x6 2 (pv 2))))) (z9 (l5 (i := 9) sc_Z6.nd rfl (Or.inl rfl) (R9 (v6 (z0 (j8 (v6 z7)) z7)) (w8 rfl (t9 Z) (x6 2 (pv 2))))) (z9 (Y1 PassesOwn.never rfl (K6 rfl (P2 Z) rfl (g9 Z) (z0 (w8 rfl (t9 Z) (x6 2 (pv 2))) z7)) (u7 (i := 10) (x8 sc_Z6.nd rfl (Or.inl rfl))) (z9 (j6 (i := 6) (l7 (j8 (zu8 (zz4 (v6 (z0 (z5 10 (pv 10)) z7))) (D1 (yv5 8 (w5 (fun t ha => qcl H_Z1 hr ha) rfl (z0 (z5 8 (pv 8)) (z0 (l8 (x6 2 (pv 2)) (z5 10 (pv 10))) z7)) qal2))))) (R8 (pv 6) (z5 10 (pv 10)) c7))) (z9 (j6 (i := 7) (l7 (j8 (zu8 (zz4 (v6 (z0 (z5 10 (pv 10)) z7))) (D1 (yv5 9 (w5 (fun t ha => qcl H_Z1 hr ha) rfl (z0 (z5 9 (pv 9)) (z0 (l8 (x6 3 (pv 3)) (z5 10 (pv 10))) z7)) qal2))))) (R8 (pv 7) (z5 10 (pv 10)) c7))) (z9 (j6 (i := 8) (l7 (zh4 (L7 (G_Z9.mono (by decide)) hr.in1 b_Z9) rfl hr.units rfl (zd1 Z) rfl a_Z9 (z0 (l8 (x6 6 (pv 6)) (z5 10 (pv 10))) (z0 (l8 (x6 5 (pv 5)) (z5 10 (pv 10))) z7)) qal2) (R8 (pv 8) (z5 10 (pv 10)) c7))) (y8 (j6 (i := 9) (l7 (zh4 (L7 (G_Z9.mono (by decide)) hr.in1 b_Z9) rfl hr.units rfl (zd1 Z) rfl a_Z9 (z0 (l8 (x6 7 (pv 7)) (z5 10 (pv 10))) (z0 (l8 (x6 4 (pv 4)) (z5 10 (pv 10))) z7)) qal2) (R8 (pv 9) (z5 10 (pv 10)) c7)))))))) (t4 6 (t4 7 (y8 (u5 (W2 (z0 (z5 6 (pv 6)) (z0 (z5 7 (pv 7)) z7))))))))))))))
abbrev yb1 : Stmt := top 17
abbrev xa6 : List Str := ["row"]
theorem xo5 : FnScope xa6 ["row"] (y0 yb1) := qsc
theorem xk0 (D : QDf K mg "no_tails" yb1 ["row"]) (Z : Zs mg) : xr7 P w K mg base :=
 D.mk fun f fd Fn => Fn.okD (k := 0) (m := xt5) xo5 fun cdv A outer s H E hr => (y8 (u5 (W2 (z0 (j8 (R9 (v6 (z0 (j8 (v6 z7)) z7)) (w8 rfl (t9 Z) (x6 0 (pv 0))))) (z0 (j8 (R9 (v6 (z0 (j8 (v6 z7)) z7)) (w8 rfl (t9 Z) (x6 0 (pv 0))))) z7)))))
abbrev ya1 : Stmt := top 18
abbrev wz6 : List Str := ["tails", "ups", "downs"]
theorem sc_Z11 : FnScope wz6 ["tails"] (y0 ya1) := qsc
theorem xj4 (D : QDf K mg "longest_tail" ya1 ["tails"]) (H_Z9 : T_Z9 P w K mg base) (Z : Zs mg) : xr9 P w K mg base := by
 obtain ⟨x_Z9, d_Z9, G_Z9, b_Z9, k_Z9, a_Z9⟩ := H_Z9
 exact D.mk fun f fd Fn => Fn.okD (k := 2) (m := xs8) sc_Z11 fun cdv A outer s H E hr => (z9 (a8 (l7 (z5 0 (pv 0)) (j7 (is := [1, 2]) (a9 rfl (w4 (x8 (i := 1) sc_Z11.nd rfl (Or.inl rfl)) (w4 (x8 (i := 2) sc_Z11.nd rfl (Or.inl rfl)) m9)))))) (y8 (u5 (xx1 (L7 (G_Z9.mono (by decide)) hr.in1 b_Z9) rfl hr.units rfl (zd1 Z) rfl a_Z9 (D1 (l4 (z5 1 (pv 1)) (z5 2 (pv 2)))) (j8 (v6 z7))))))
abbrev s_Z0 : Stmt := top 19
abbrev N_Z0 : List Str := ["row", "step", "turns", "steps", "tails", "turn"]
theorem sc_Z0 : FnScope N_Z0 ["row", "step", "turns"] (y0 s_Z0) := qsc
theorem xb1 (D : QDf K mg "longest_turning" s_Z0 ["row", "step", "turns"]) (H_Z18 : yf2 P w K mg base) (H_Z11 : xr9 P w K mg base) (H_Z25 : xr7 P w K mg base) (H_Z6 : T_Z6 P w K mg base) (H_Z17 : zi1 P w K mg base) (Z : Zs mg) : T_Z0 P w K mg base :=
 D.mk fun f fd Fn => Fn.okD (k := 3) (m := b_Z0) sc_Z0 fun cdv A outer s H E hr => (z9 (c8 (w5 (fun t ha => qcl H_Z17 hr ha) rfl (z0 (z5 1 (pv 1)) z7) qal1)) (z9 (Z7 (u8 zz9 Q2 (z5 2 (pv 2)) y7 (u3 _)) (y8 V0) m6) (z9 (u4 (i := 3) sc_Z0.nd rfl (Or.inl rfl) (w5 (fun t ha => qcl H_Z18 hr ha) rfl (z0 (z5 0 (pv 0)) (z0 (z5 1 (pv 1)) z7)) qal2)) (z9 (u4 (i := 4) sc_Z0.nd rfl (Or.inl rfl) (w5 (fun t ha => qcl H_Z25 hr ha) rfl (z0 (z5 0 (pv 0)) z7) qal1)) (z9 (Y1 PassesOwn.never rfl (P8 rfl (g9 Z) (z0 (l4 (yv0 rfl rfl (zd1 Z) (z0 (z5 2 (pv 2)) (z0 (w8 rfl (t9 Z) (x6 0 (pv 0))) z7))) y7) z7)) (u7 (i := 5) (x8 sc_Z0.nd rfl (Or.inl rfl))) (y8 (u4 (i := 4) sc_Z0.nd rfl (Or.inl rfl) (w5 (fun t ha => qcl H_Z6 hr ha) rfl (z0 (z5 3 (pv 3)) (z0 (z5 4 (pv 4)) z7)) qal2)))) (y8 (u5 (w5 (fun t ha => qcl H_Z11 hr ha) rfl (z0 (z5 4 (pv 4)) z7) qal1))))))))
abbrev yn6 : Stmt := top 20
abbrev xe0 : List Str := ["steps", "above", "below", "most", "place"]
theorem sc_Z12 : FnScope xe0 ["steps"] (y0 yn6) := qsc
theorem O1 : List.Nodup (["later", "most"] : List Str) := by decide +kernel
theorem xj3 (D : QDf K mg "most_stepped" yn6 ["steps"]) (Z : Zs mg) : xf8 P w K mg base :=
 D.mk fun f fd Fn => Fn.okD (k := 0) (m := yf0) sc_Z12 fun cdv A outer s H E hr => (z9 (a8 (l7 (z5 0 (pv 0)) (j7 (is := [1, 2]) (a9 rfl (w4 (x8 (i := 1) sc_Z12.nd rfl (Or.inl rfl)) (w4 (x8 (i := 2) sc_Z12.nd rfl (Or.inl rfl)) m9)))))) (z9 (l5 (i := 3) sc_Z12.nd rfl (Or.inr rfl) (R9 (v6 (z0 y7 z7)) (w8 rfl (t9 Z) (x6 1 (pv 1))))) (z9 (Y1 PassesOwn.never rfl (K6 rfl (P2 Z) rfl (g9 Z) (z0 (w8 rfl (t9 Z) (x6 1 (pv 1))) z7)) (u7 (i := 4) (x8 sc_Z12.nd rfl (Or.inl rfl))) (y8 (j6 (i := 3) (l7 (l4 y7 (yv3 rfl hr.units rfl (za4 Z) (zz4 (zz5 (A4 (by decide)) (T7 (N := ["later", "most"]) (src := [none, some 3]) (y0 yn6) xe0 rfl rfl (by decide +kernel)) rfl (S0 (l4 (l8 (x6 1 (pv 1)) (z5 4 (pv 4))) (l8 (x6 2 (pv 2)) (z5 4 (pv 4))))) (fun C fp s0 H0 => (u7 (i := 0) (x8 O1 rfl (Or.inl rfl)))) (fun C fp s0 H0 => U3) (fun C fp s0 H0 => (l8 (x6 1 (pv 1)) (z5 0 (pv 0)))))) y7)) (R8 (pv 3) (z5 4 (pv 4)) c7))))) (t4 3 (y8 (u5 (yv3 rfl hr.units rfl (za4 Z) (x6 3 (pv 3)) y7)))))))
abbrev s_Z5 : Stmt := top 21
abbrev N_Z5 : List Str := ["row", "step", "steps", "most", "tails", "kept"]
theorem sc_Z5 : FnScope N_Z5 ["row", "step"] (y0 s_Z5) := qsc
theorem xc6 (D : QDf K mg "kept_by_turns" s_Z5 ["row", "step"]) (H_Z18 : yf2 P w K mg base) (H_Z11 : xr9 P w K mg base) (H_Z12 : xf8 P w K mg base) (H_Z25 : xr7 P w K mg base) (H_Z6 : T_Z6 P w K mg base) (H_Z17 : zi1 P w K mg base) (Z : Zs mg) : T_Z5 P w K mg base :=
 D.mk fun f fd Fn => Fn.okD (k := 3) (m := b_Z5) sc_Z5 fun cdv A outer s H E hr => (z9 (c8 (w5 (fun t ha => qcl H_Z17 hr ha) rfl (z0 (z5 1 (pv 1)) z7) qal1)) (z9 (u4 (i := 2) sc_Z5.nd rfl (Or.inl rfl) (w5 (fun t ha => qcl H_Z18 hr ha) rfl (z0 (z5 0 (pv 0)) (z0 (z5 1 (pv 1)) z7)) qal2)) (z9 (u4 (i := 3) sc_Z5.nd rfl (Or.inl rfl) (w5 (fun t ha => qcl H_Z12 hr ha) rfl (z0 (z5 2 (pv 2)) z7) qal1)) (z9 (u4 (i := 4) sc_Z5.nd rfl (Or.inl rfl) (w5 (fun t ha => qcl H_Z6 hr ha) rfl (z0 (z5 2 (pv 2)) (z0 (w5 (fun t ha => qcl H_Z25 hr ha) rfl (z0 (z5 0 (pv 0)) z7) qal1) z7)) qal2)) (z9 (l5 (i := 5) sc_Z5.nd rfl (Or.inl rfl) (v6 (z0 (w8 rfl (t9 Z) (D1 (w5 (fun t ha => qcl H_Z11 hr ha) rfl (z0 (z5 4 (pv 4)) z7) qal1))) z7))) (z9 (zu1 1000 PassesOwn.never (u8 zz9 Q2 (l8 (x6 5 (pv 5)) (Q1 y7)) (z5 3 (pv 3)) (u3 _)) (z9 (u4 (i := 4) sc_Z5.nd rfl (Or.inl rfl) (w5 (fun t ha => qcl H_Z6 hr ha) rfl (z0 (z5 2 (pv 2)) (z0 (z5 4 (pv 4)) z7)) qal2)) (y8 (Y4 (i := 5) (pv 5) (w8 rfl (t9 Z) (D1 (w5 (fun t ha => qcl H_Z11 hr ha) rfl (z0 (z5 4 (pv 4)) z7) qal1))) (fun t ha => qap (pv 5) ha) (z0 (w8 rfl (t9 Z) (D1 (w5 (fun t ha => qcl H_Z11 hr ha) rfl (z0 (z5 4 (pv 4)) z7) qal1))) z7))))) (y8 (L0 5 (pv 5)))))))))
abbrev yb8 : Stmt := top 22
abbrev wz3 : List Str := ["row", "step", "many", "turns", "kept"]
theorem sc_Z15 : FnScope wz3 ["row", "step", "many"] (y0 yb8) := qsc
theorem xj0 (D : QDf K mg "fewest_turns" yb8 ["row", "step", "many"]) (H_Z5 : T_Z5 P w K mg base) (H_Z17 : zi1 P w K mg base) (Z : Zs mg) : xf5 P w K mg base :=
 D.mk fun f fd Fn => Fn.okD (k := 4) (m := xs5) sc_Z15 fun cdv A outer s H E hr => (z9 (c8 (w5 (fun t ha => qcl H_Z17 hr ha) rfl (z0 (z5 1 (pv 1)) z7) qal1)) (z9 (Z7 (u8 zz9 Q2 (z5 2 (pv 2)) y7 (u3 _)) (y8 V0) m6) (z9 (Y1 PassesOwn.never rfl (zh3 rfl (T8 Z) (z0 (w5 (fun t ha => qcl H_Z5 hr ha) rfl (z0 (z5 0 (pv 0)) (z0 (z5 1 (pv 1)) z7)) qal2) z7)) (j7 (is := [3, 4]) (a9 rfl (w4 (x8 (i := 3) sc_Z15.nd rfl (Or.inl rfl)) (w4 (x8 (i := 4) sc_Z15.nd rfl (Or.inl rfl)) m9)))) (y8 (Z7 (u8 zn0 J1 (z5 4 (pv 4)) (z5 2 (pv 2)) (u3 _)) (y8 (L0 3 (pv 3))) m6))) (y8 (u5 ye2)))))
abbrev s_Z4 : Stmt := top 24
abbrev N_Z4 : List Str := ["weight"]
theorem xd1 : FnScope N_Z4 ["weight"] (y0 s_Z4) := qsc
theorem xc7 (D : QDf K mg "refuse_weight" s_Z4 ["weight"]) : T_Z4 P w K mg base :=
 D.mk fun f fd Fn => Fn.okD (k := 0) (m := b_Z4) xd1 fun cdv A outer s H E hr => (y8 (Z7 (u8 zz9 Q2 (z5 0 (pv 0)) y7 (u3 _)) (y8 V0) m6))
abbrev s_Z3 : Stmt := top 25
abbrev N_Z3 : List Str := ["row", "weights", "weight"]
theorem sc_Z3 : FnScope N_Z3 ["row", "weights"] (y0 s_Z3) := qsc
theorem xc8 (D : QDf K mg "refuse_weights" s_Z3 ["row", "weights"]) (H_Z4 : T_Z4 P w K mg base) (Z : Zs mg) : T_Z3 P w K mg base :=
 D.mk fun f fd Fn => Fn.okD (k := 1) (m := b_Z3) sc_Z3 fun cdv A outer s H E hr => (z9 (Z7 (u8 zo9 S1 (w8 rfl (t9 Z) (x6 1 (pv 1))) (w8 rfl (t9 Z) (x6 0 (pv 0))) (u3 _)) (y8 V0) m6) (y8 (Y1 PassesOwn.never rfl (S0 (z5 1 (pv 1))) (u7 (i := 2) (x8 sc_Z3.nd rfl (Or.inl rfl))) (y8 (c8 (w5 (fun t ha => qcl H_Z4 hr ha) rfl (z0 (z5 2 (pv 2)) z7) qal1))))))
abbrev s_Z7 : Stmt := top 26
abbrev N_Z7 : List Str := ["heavy", "weight", "places"]
theorem sc_Z7 : FnScope N_Z7 ["heavy"] (y0 s_Z7) := qsc
theorem xc4 (D : QDf K mg "heavier_first" s_Z7 ["heavy"]) (Z : Zs mg) : T_Z7 P w K mg base :=
 D.mk fun f fd Fn => Fn.okD (k := 0) (m := b_Z7) sc_Z7 fun cdv A outer s H E hr => (z9 (a8 (l7 (z5 0 (pv 0)) (j7 (is := [1, 2]) (a9 rfl (w4 (x8 (i := 1) sc_Z7.nd rfl (Or.inl rfl)) (w4 (x8 (i := 2) sc_Z7.nd rfl (Or.inl rfl)) m9)))))) (y8 (u5 (W2 (z0 (Q1 (z5 1 (pv 1))) (z0 (w8 rfl (t9 Z) (x6 2 (pv 2))) (z0 (z5 2 (pv 2)) z7)))))))
abbrev s_Z2 : Stmt := top 27
abbrev N_Z2 : List Str := ["heavies"]
theorem xd2 : FnScope N_Z2 ["heavies"] (y0 s_Z2) := qsc
theorem xc9 (D : QDf K mg "first_heaviest" s_Z2 ["heavies"]) (H_Z7 : T_Z7 P w K mg base) (Z : Zs mg) : T_Z2 P w K mg base := by
 obtain ⟨x_Z7, d_Z7, G_Z7, b_Z7, k_Z7, a_Z7⟩ := H_Z7
 exact D.mk fun f fd Fn => Fn.okD (k := 2) (m := b_Z2) xd2 fun cdv A outer s H E hr => (y8 (u5 (xx0 (L7 (G_Z7.mono (by decide)) hr.in1 b_Z7) rfl hr.units rfl (zd1 Z) rfl a_Z7 (zz4 (zu8 (zz4 (v6 (z0 (W2 (z0 y7 (z0 (j8 (v6 z7)) z7))) z7))) (x6 0 (pv 0)))))))
abbrev yy2 : Stmt := top 28
abbrev xq1 : List Str := ["row", "step", "weights", "above", "below", "ups", "downs", "place", "weight", "places"]
theorem sc_Z16 : FnScope xq1 ["row", "step", "weights"] (y0 yy2) := qsc
theorem N9 : List.Nodup (["later", "downs"] : List Str) := by decide +kernel
theorem N8 : List.Nodup (["later", "ups"] : List Str) := by decide +kernel
theorem xk9 (D : QDf K mg "heavy_tails" yy2 ["row", "step", "weights"]) (H_Z2 : T_Z2 P w K mg base) (H_Z18 : yf2 P w K mg base) (Z : Zs mg) : xf4 P w K mg base :=
 D.mk fun f fd Fn => Fn.okD (k := 3) (m := yg9) sc_Z16 fun cdv A outer s H E hr => (z9 (a8 (l7 (w5 (fun t ha => qcl H_Z18 hr ha) rfl (z0 (z5 0 (pv 0)) (z0 (z5 1 (pv 1)) z7)) qal2) (j7 (is := [3, 4]) (a9 rfl (w4 (x8 (i := 3) sc_Z16.nd rfl (Or.inl rfl)) (w4 (x8 (i := 4) sc_Z16.nd rfl (Or.inl rfl)) m9)))))) (z9 (l5 (i := 5) sc_Z16.nd rfl (Or.inr rfl) (R9 (v6 (z0 (W2 (z0 y7 (z0 (j8 (v6 z7)) z7))) z7)) (w8 rfl (t9 Z) (x6 0 (pv 0))))) (z9 (l5 (i := 6) sc_Z16.nd rfl (Or.inr rfl) (R9 (v6 (z0 (W2 (z0 y7 (z0 (j8 (v6 z7)) z7))) z7)) (w8 rfl (t9 Z) (x6 0 (pv 0))))) (z9 (Y1 PassesOwn.never rfl (K6 rfl (P2 Z) rfl (g9 Z) (z0 (w8 rfl (t9 Z) (x6 0 (pv 0))) z7)) (u7 (i := 7) (x8 sc_Z16.nd rfl (Or.inl rfl))) (z9 (a8 (l7 (w5 (fun t ha => qcl H_Z2 hr ha) rfl (z0 (j8 (zz5 (A4 (by decide)) (T7 (N := ["later", "downs"]) (src := [none, some 6]) (y0 yy2) xq1 rfl rfl (by decide +kernel)) rfl (S0 (l8 (x6 3 (pv 3)) (z5 7 (pv 7)))) (fun C fp s0 H0 => (u7 (i := 0) (x8 N9 rfl (Or.inl rfl)))) (fun C fp s0 H0 => U3) (fun C fp s0 H0 => (l8 (x6 1 (pv 1)) (z5 0 (pv 0)))))) z7) qal1) (j7 (is := [8, 9]) (a9 rfl (w4 (x8 (i := 8) sc_Z16.nd rfl (Or.inl rfl)) (w4 (x8 (i := 9) sc_Z16.nd rfl (Or.inl rfl)) m9)))))) (z9 (j6 (i := 5) (l7 (W2 (z0 (l4 (l8 (x6 2 (pv 2)) (z5 7 (pv 7))) (z5 8 (pv 8))) (z0 (j8 (zu8 (zz4 (v6 (z0 (z5 7 (pv 7)) z7))) (x6 9 (pv 9)))) z7))) (R8 (pv 5) (z5 7 (pv 7)) c7))) (z9 (a8 (l7 (w5 (fun t ha => qcl H_Z2 hr ha) rfl (z0 (j8 (zz5 (A4 (by decide)) (T7 (N := ["later", "ups"]) (src := [none, some 5]) (y0 yy2) xq1 rfl rfl (by decide +kernel)) rfl (S0 (l8 (x6 4 (pv 4)) (z5 7 (pv 7)))) (fun C fp s0 H0 => (u7 (i := 0) (x8 N8 rfl (Or.inl rfl)))) (fun C fp s0 H0 => U3) (fun C fp s0 H0 => (l8 (x6 1 (pv 1)) (z5 0 (pv 0)))))) z7) qal1) (j7 (is := [8, 9]) (a9 rfl (w4 (x8 (i := 8) sc_Z16.nd rfl (Or.inl rfl)) (w4 (x8 (i := 9) sc_Z16.nd rfl (Or.inl rfl)) m9)))))) (y8 (j6 (i := 6) (l7 (W2 (z0 (l4 (l8 (x6 2 (pv 2)) (z5 7 (pv 7))) (z5 8 (pv 8))) (z0 (j8 (zu8 (zz4 (v6 (z0 (z5 7 (pv 7)) z7))) (x6 9 (pv 9)))) z7))) (R8 (pv 6) (z5 7 (pv 7)) c7)))))))) (t4 5 (t4 6 (y8 (u5 (W2 (z0 (z5 5 (pv 5)) (z0 (z5 6 (pv 6)) z7)))))))))))
abbrev yb4 : Stmt := top 29
abbrev xa9 : List Str := ["row", "step", "weights", "ups", "downs"]
theorem sc_Z22 : FnScope xa9 ["row", "step", "weights"] (y0 yb4) := qsc
theorem xk3 (D : QDf K mg "heaviest" yb4 ["row", "step", "weights"]) (H_Z2 : T_Z2 P w K mg base) (H_Z16 : xf4 P w K mg base) (H_Z17 : zi1 P w K mg base) (H_Z3 : T_Z3 P w K mg base) : xf0 P w K mg base :=
 D.mk fun f fd Fn => Fn.okD (k := 4) (m := xt6) sc_Z22 fun cdv A outer s H E hr => (z9 (c8 (w5 (fun t ha => qcl H_Z17 hr ha) rfl (z0 (z5 1 (pv 1)) z7) qal1)) (z9 (c8 (w5 (fun t ha => qcl H_Z3 hr ha) rfl (z0 (z5 0 (pv 0)) (z0 (z5 2 (pv 2)) z7)) qal2)) (z9 (a8 (l7 (w5 (fun t ha => qcl H_Z16 hr ha) rfl (z0 (z5 0 (pv 0)) (z0 (z5 1 (pv 1)) (z0 (z5 2 (pv 2)) z7))) qal3) (j7 (is := [3, 4]) (a9 rfl (w4 (x8 (i := 3) sc_Z22.nd rfl (Or.inl rfl)) (w4 (x8 (i := 4) sc_Z22.nd rfl (Or.inl rfl)) m9)))))) (y8 (u5 (w5 (fun t ha => qcl H_Z2 hr ha) rfl (z0 (l4 (z5 3 (pv 3)) (z5 4 (pv 4))) z7) qal1))))))
abbrev f6 : Stmt := zc6 31 0
abbrev M3 : List Str := ["self", "step"]
theorem P5 : FnScope M3 ["self", "step"] (y0 f6) := qsc
theorem P9 {y_Grown : Addr} (D : QMf K y_Grown "__init__" "Grown.__init__" f6 ["self", "step"]) (hC_Grown : W.nsIn K mainGlobals "Grown" = some (some (.ref y_Grown))) (cl_Grown : Cls K y_Grown) (H_Z17 : zi1 P w K mg base) (h_Grown_least_step : QHF K "Grown" "least_step") (h_Grown_lengths : QHF K "Grown" "lengths") (h_Grown_numbers : QHF K "Grown" "numbers") (h_Grown_weights : QHF K "Grown" "weights") : M2 P w K mg base y_Grown :=
 D.mk fun f fd Fn => Fn.okW (k := 1) (m := d9) P5 fun cdv A outer s H E hr => (t7 (psw (c8 (w5 (fun t ha => qcl H_Z17 hr ha) rfl (z0 (z5 1 (pv 1)) z7) qal1))) (t7 (xz1 h_Grown_least_step (z5 0 (pv 0)) (pdw (z5 1 (pv 1)))) (t7 (A7 h_Grown_numbers (z5 0 (pv 0)) (pfw (v6 z7))) (t7 (A7 h_Grown_weights (z5 0 (pv 0)) (pfw (v6 z7))) (Z6 (A7 h_Grown_lengths (z5 0 (pv 0)) (pfw (v6 z7))))))))
abbrev yb9 : Stmt := zc6 31 4
abbrev wz4 : List Str := ["self"]
theorem xo7 : FnScope wz4 ["self"] (y0 yb9) := qsc
theorem xj1 {y_Grown : Addr} (D : QMf K y_Grown "pieces" "Grown.pieces" yb9 ["self"]) (hC_Grown : W.nsIn K mainGlobals "Grown" = some (some (.ref y_Grown))) (cl_Grown : Cls K y_Grown) (H_Z21 : xf1 P w K mg base) (h_Grown_least_step : QHF K "Grown" "least_step") (h_Grown_numbers : QHF K "Grown" "numbers") : xf6 P w K mg base y_Grown :=
 D.mk fun f fd Fn => Fn.okD (k := 2) (m := xs6) xo7 fun cdv A outer s H E hr => (y8 (u5 (w5 (fun t ha => qcl H_Z21 hr ha) rfl (z0 (K8 (z5 0 (pv 0)) h_Grown_numbers) (z0 (K8 (z5 0 (pv 0)) h_Grown_least_step) z7)) qal2)))
abbrev ya2 : Stmt := zc6 31 3
abbrev wz7 : List Str := ["self", "word", "cuts"]
theorem sc_Z10 : FnScope wz7 ["self"] (y0 ya2) := qsc
theorem xj5 {y_Grown : Addr} (D : QMf K y_Grown "length" "Grown.length" ya2 ["self"]) (hC_Grown : W.nsIn K mainGlobals "Grown" = some (some (.ref y_Grown))) (cl_Grown : Cls K y_Grown) (H_Z14 : xf6 P w K mg base y_Grown) (h_Grown_numbers : QHF K "Grown" "numbers") (Z : Zs mg) : xq0 P w K mg base y_Grown :=
 D.mk fun f fd Fn => Fn.okD (k := 3) (m := xs9) sc_Z10 fun cdv A outer s H E hr => (z9 (a8 (l7 (V1 hC_Grown (z5 0 (pv 0)) (fun ta ho => qmt0 H_Z14 cl_Grown hr ho)) (j7 (is := [1, 2]) (a9 rfl (w4 (x8 (i := 1) sc_Z10.nd rfl (Or.inl rfl)) (w4 (x8 (i := 2) sc_Z10.nd rfl (Or.inl rfl)) m9)))))) (y8 (u5 (ye3 (yv7 (K8 (z5 0 (pv 0)) h_Grown_numbers)) (l4 (w8 rfl (t9 Z) (x6 2 (pv 2))) y7) y7))))
abbrev T9 : Stmt := zc6 31 1
abbrev zi2 : List Str := ["self", "number", "weight"]
theorem zv3 : FnScope zi2 ["self", "number", "weight"] (y0 T9) := qsc
theorem zt4 {y_Grown : Addr} (D : QMf K y_Grown "put" "Grown.put" T9 ["self", "number", "weight"]) (hC_Grown : W.nsIn K mainGlobals "Grown" = some (some (.ref y_Grown))) (cl_Grown : Cls K y_Grown) (H_Z10 : xq0 P w K mg base y_Grown) (H_Z4 : T_Z4 P w K mg base) (h_Grown_lengths : QHF K "Grown" "lengths") (h_Grown_numbers : QHF K "Grown" "numbers") (h_Grown_weights : QHF K "Grown" "weights") : E5 P w K mg base y_Grown :=
 D.mk fun f fd Fn => Fn.okW (k := 4) (m := R0) zv3 fun cdv A outer s H E hr => (t7 (psw (c8 (w5 (fun t ha => qcl H_Z4 hr ha) rfl (z0 (z5 2 (pv 2)) z7) qal1))) (t7 (A8 h_Grown_numbers (z5 0 (pv 0)) (pdw (z5 1 (pv 1))) rfl (fun to t ho ha => qap ho ha)) (t7 (A8 h_Grown_weights (z5 0 (pv 0)) (pdw (z5 2 (pv 2))) rfl (fun to t ho ha => qap ho ha)) (Z6 (A8 h_Grown_lengths (z5 0 (pv 0)) (yk7 (V1 hC_Grown (z5 0 (pv 0)) (fun ta ho => qmt0 H_Z10 cl_Grown hr ho))) rfl (fun to t ho ha => qap ho ha))))))
abbrev ya0 : Stmt := zc6 31 5
abbrev wz5 : List Str := ["self", "weight", "places"]
theorem sc_Z13 : FnScope wz5 ["self"] (y0 ya0) := qsc
theorem xj2 {y_Grown : Addr} (D : QMf K y_Grown "weight" "Grown.weight" ya0 ["self"]) (hC_Grown : W.nsIn K mainGlobals "Grown" = some (some (.ref y_Grown))) (cl_Grown : Cls K y_Grown) (H_Z22 : xf0 P w K mg base) (h_Grown_least_step : QHF K "Grown" "least_step") (h_Grown_numbers : QHF K "Grown" "numbers") (h_Grown_weights : QHF K "Grown" "weights") : xf7 P w K mg base y_Grown :=
 D.mk fun f fd Fn => Fn.okD (k := 5) (m := xs7) sc_Z13 fun cdv A outer s H E hr => (z9 (a8 (l7 (w5 (fun t ha => qcl H_Z22 hr ha) rfl (z0 (K8 (z5 0 (pv 0)) h_Grown_numbers) (z0 (K8 (z5 0 (pv 0)) h_Grown_least_step) (z0 (K8 (z5 0 (pv 0)) h_Grown_weights) z7))) qal3) (j7 (is := [1, 2]) (a9 rfl (w4 (x8 (i := 1) sc_Z13.nd rfl (Or.inl rfl)) (w4 (x8 (i := 2) sc_Z13.nd rfl (Or.inl rfl)) m9)))))) (y8 (L0 1 (pv 1))))
abbrev s_Z8 : Stmt := zc6 31 8
abbrev N_Z8 : List Str := ["self"]
theorem xd0 : FnScope N_Z8 ["self"] (y0 s_Z8) := qsc
theorem xc3 {y_Grown : Addr} (D : QMf K y_Grown "moments" "Grown.moments" s_Z8 ["self"]) (hC_Grown : W.nsIn K mainGlobals "Grown" = some (some (.ref y_Grown))) (cl_Grown : Cls K y_Grown) (h_Grown_lengths : QHF K "Grown" "lengths") (Z : Zs mg) : T_Z8 P w K mg base y_Grown :=
 D.mk fun f fd Fn => Fn.okD (k := 0) (m := b_Z8) xd0 fun cdv A outer s H E hr => (y8 (ym7 (xy3 rfl (yf3 Z) (D1 (K8 (z5 0 (pv 0)) h_Grown_lengths)) PyProof.Rows.boot_list)))
abbrev yb2 : Stmt := top 33
abbrev xa7 : List Str := ["pot", "many", "cell", "stir"]
theorem sc_Z24 : FnScope xa7 ["pot", "many"] (y0 yb2) := qsc
theorem xk1 (D : QDf K mg "_law_next" yb2 ["pot", "many"]) : xr8 P w K mg base :=
 D.mk fun f fd Fn => Fn.okGl (k := 0) (m := yg7) sc_Z24 (by decide) fun cdv A outer s H E hr => (z9 (j6 (i := 0) (l7 (l4 (l8 (x6 0 (pv 0)) y7) y7) (R8 (pv 0) y7 c7))) (z9 (u4 (i := 2) sc_Z24.nd rfl (Or.inl rfl) (l8 (x6 0 (pv 0)) y7)) (z9 (Z7 (u8 zn0 J1 (z5 2 (pv 2)) (ye1 y7 y7) (u3 _)) (z9 (j6 (i := 0) (l7 (yv4 (z5 2 (pv 2)) (z5 1 (pv 1))) (R8 (pv 0) y7 c7))) (y8 (zz0 0 (t3 (zt1 (z5 2 (pv 2)) (z5 1 (pv 1))))))) m6) (z9 (u4 (i := 3) sc_Z24.nd rfl (Or.inl rfl) (zt1 (l4 (l4 (zt0 (z5 2 (pv 2)) y7) (zt0 (l8 (x6 0 (pv 0)) y7) y7)) y7) y7)) (z9 (u4 (i := 3) sc_Z24.nd rfl (Or.inl rfl) (zt1 (zt0 (z5 3 (pv 3)) (z5 3 (pv 3))) y7)) (y8 (zz0 0 (t3 (zt1 (yv4 (zt1 (l4 (zt0 (z5 3 (pv 3)) y7) (zt0 (l8 (x6 0 (pv 0)) y7) y7)) y7) y7) (z5 1 (pv 1)))))))))))
abbrev U1 : Stmt := top 34
abbrev B9 : List Str := ["script"]
theorem zp9 : FnScope B9 ["script"] (y0 U1) := qsc
theorem zy1 : List.Nodup (["cell"] : List Str) := by decide +kernel
theorem zn1 (D : QDf K mg "_law_pots" U1 ["script"]) (Z : Zs mg) : B8 P w K mg base :=
 D.mk fun f fd Fn => Fn.okP (k := 0) zp9 rfl (fun cdv A outer s H E hr => (u8 yj2 zz8 (w8 rfl (t9 Z) (x6 0 (pv 0))) y7 (u3 _))) (fun cdv A outer s H E hr => (xz4 (v6 (z0 y7 (z0 y7 z7))))) (fun cdv A outer s H E hr => (xz5 (T7 (N := ["cell"]) (src := [none]) (y0 U1) B9 rfl rfl (by decide +kernel)) rfl (S0 (j8 (xy2 (x6 0 (pv 0)) zz3 (zz2 y7)))) (fun C fp s0 H0 => (u7 (i := 0) (x8 zy1 rfl (Or.inl rfl)))) (fun C fp s0 H0 => (v6 (z0 (z5 0 (pv 0)) (z0 y7 z7))))))
abbrev yb3 : Stmt := top 36
abbrev xa8 : List Str := ["pot", "step", "many", "most", "here", "sign", "row", "sizes", "k", "turn"]
theorem sc_Z23 : FnScope xa8 ["pot", "step", "many", "most"] (y0 yb3) := qsc
theorem xk2 (D : QDf K mg "_law_runs" yb3 ["pot", "step", "many", "most"]) (H_Z24 : xr8 P w K mg base) (Z : Zs mg) : xg9 P w K mg base :=
 D.mk fun f fd Fn => Fn.okGl (k := 1) (m := yg8) sc_Z23 (by decide) fun cdv A outer s H E hr => (z9 (M9 (i := 4) sc_Z23.nd rfl (Or.inl rfl) (O7 ye6 yv8 (n4 (i := 0) (fun t ha => qcl H_Z24 hr ha) rfl (pv 0) (m8 (z0 y7 z7)) (c6 qal1)) (t3 y7))) (z9 (M9 (i := 5) sc_Z23.nd rfl (Or.inl rfl) (yw9 (t3 (j8 (v6 (z0 y7 (z0 (Q1 y7) z7))))) (n4 (i := 0) (fun t ha => qcl H_Z24 hr ha) rfl (pv 0) (m8 (z0 y7 z7)) (c6 qal1)))) (z9 (l5 (i := 6) sc_Z23.nd rfl (Or.inl rfl) (v6 (z0 (z5 4 (pv 4)) z7))) (z9 (l5 (i := 7) sc_Z23.nd rfl (Or.inl rfl) (v6 z7)) (z9 (Y1 PassesOwn.never rfl (P8 rfl (g9 Z) (z0 (z5 2 (pv 2)) z7)) (u7 (i := 8) (x8 sc_Z23.nd rfl (Or.inl rfl))) (z9 (ym8 (i := 7) (fun t ha => qap (pv 7) ha) (Z8 (O7 (OpR.or J2 V2) S2 (t3 y7) (n4 (i := 0) (fun t ha => qcl H_Z24 hr ha) rfl (pv 0) (m8 (z0 (z5 3 (pv 3)) z7)) (c6 qal1))) (m8 z7))) (z9 (Y1 PassesOwn.never rfl (P8 rfl (g9 Z) (z0 (l8 (x6 7 (pv 7)) (Q1 y7)) z7)) (u7 (i := 9) (x8 sc_Z23.nd rfl (Or.inl rfl))) (z9 (M9 (i := 4) sc_Z23.nd rfl (Or.inl rfl) (O7 (OpR.or J2 V2) S2 (t3 (z5 4 (pv 4))) (O7 ye7 yv9 (t3 (z5 5 (pv 5))) (O7 (OpR.or J2 V2) S2 (t3 (z5 1 (pv 1))) (n4 (i := 0) (fun t ha => qcl H_Z24 hr ha) rfl (pv 0) (Z8 (yw9 (t3 (j8 (v6 (z0 y7 (z0 y7 (z0 y7 z7)))))) (n4 (i := 0) (fun t ha => qcl H_Z24 hr ha) rfl (pv 0) (m8 (z0 y7 z7)) (c6 qal1))) (m8 z7)) (X1 (c6 ze8))))))) (y8 (Y4 (i := 6) (pv 6) (z5 4 (pv 4)) (fun t ha => qap (pv 6) ha) (z0 (z5 4 (pv 4)) z7))))) (y8 (u4 (i := 5) sc_Z23.nd rfl (Or.inl rfl) (O8 y7 (z5 5 (pv 5)))))))) (t4 7 (t4 6 (y8 (zz0 0 (t3 (j8 (v6 (z0 (z5 6 (pv 6)) (z0 (z5 7 (pv 7)) z7))))))))))))))
abbrev yn5 : Stmt := top 37
abbrev xf9 : List Str := ["row", "sizes", "step", "turns", "kept", "both"]
theorem sc_Z20 : FnScope xf9 ["row", "sizes", "step"] (y0 yn5) := qsc
theorem T4 : List.Nodup (["one", "other"] : List Str) := by decide +kernel
theorem xk5 (D : QDf K mg "_law_right" yn5 ["row", "sizes", "step"]) (H_Z15 : xf5 P w K mg base) (H_Z5 : T_Z5 P w K mg base) (H_Z0 : T_Z0 P w K mg base) (Z : Zs mg) : xf2 P w K mg base :=
 D.mk fun f fd Fn => Fn.okD (k := 5) (m := xt8) sc_Z20 fun cdv A outer s H E hr => (z9 (u4 (i := 3) sc_Z20.nd rfl (Or.inl rfl) (O8 (w8 rfl (t9 Z) (x6 1 (pv 1))) y7)) (z9 (u4 (i := 4) sc_Z20.nd rfl (Or.inl rfl) (w5 (fun t ha => qcl H_Z5 hr ha) rfl (z0 (z5 0 (pv 0)) (z0 (z5 2 (pv 2)) z7)) qal2)) (z9 (Z7 (pc_w (zt3 (u8 zo9 S1 (l8 (x6 4 (pv 4)) (Q1 y7)) (w8 rfl (t9 Z) (x6 0 (pv 0))) (u3 _)) (zt3 (u8 zo9 S1 (w8 rfl (t9 Z) (x6 4 (pv 4))) (l4 (z5 3 (pv 3)) y7) (u3 _)) (yx3 (u8 zo9 S1 (w5 (fun t ha => qcl H_Z15 hr ha) rfl (z0 (z5 0 (pv 0)) (z0 (z5 2 (pv 2)) (z0 (w8 rfl (t9 Z) (x6 0 (pv 0))) z7))) qal3) (z5 3 (pv 3)) (u3 _)))))) (y8 (u5 zt2)) m6) (z9 (Z7 (pc_w (zt3 (xm2 (xm6 hr.units) (D1 (w5 (fun t ha => qcl H_Z0 hr ha) rfl (z0 (z5 0 (pv 0)) (z0 (z5 2 (pv 2)) (z0 (z5 3 (pv 3)) z7))) qal3)) (zz4 (yw7 rfl rfl (yf3 Z) rfl (g9 Z) (z0 (w8 rfl (t9 Z) (x6 0 (pv 0))) z7))) (u3 _)) (yx3 (u8 zz9 Q2 (l8 (x6 4 (pv 4)) y7) (l4 (yv2 rfl rfl (za4 Z) (x6 1 (pv 1))) y7) (u3 _))))) (y8 (u5 zt2)) m6) (z9 (yx7 (xz2 (i := 5) sc_Z20.nd rfl (Or.inl rfl) (T7 (N := ["one", "other"]) (src := [none, none]) (y0 yn5) xf9 rfl rfl (by decide +kernel)) rfl (yk1 rfl (xe2 Z) (z0 (z5 1 (pv 1)) (z0 (j8 (xy2 (x6 1 (pv 1)) (zz2 y7) zz3)) z7))) (fun C fp s0 H0 => (j7 (is := [0, 1]) (a9 rfl (w4 (x8 (i := 0) T4 rfl (Or.inl rfl)) (w4 (x8 (i := 1) T4 rfl (Or.inl rfl)) m9))))) (fun C fp s0 H0 => U3) (fun C fp s0 H0 => (l4 (z5 0 (pv 0)) (z5 1 (pv 1)))))) (z9 (Z7 (pc_w (yv6 (u8 xx8 yu0 (z5 3 (pv 3)) y7 (u3 _)) (yx4 (u8 zz9 Q2 (l8 (x6 4 (pv 4)) y7) (l4 (yv2 rfl rfl (za4 Z) (x6 5 (pv 5))) y7) (u3 _))))) (y8 (u5 zt2)) m6) (z9 (Z7 (pc_w (yv6 (u8 xx8 yu0 (z5 3 (pv 3)) y7 (u3 _)) (yx4 (u8 zn0 J1 (w8 rfl (t9 Z) (D1 (w5 (fun t ha => qcl H_Z0 hr ha) rfl (z0 (z5 0 (pv 0)) (z0 (z5 2 (pv 2)) (z0 (O8 (z5 3 (pv 3)) y7) z7))) qal3))) (w8 rfl (t9 Z) (x6 0 (pv 0))) (u3 _))))) (y8 (u5 zt2)) m6) (y8 (u5 (xm1 xm8 xx7 (w5 (fun t ha => qcl H_Z15 hr ha) rfl (z0 (z5 0 (pv 0)) (z0 (z5 2 (pv 2)) (z0 (l4 (w8 rfl (t9 Z) (x6 0 (pv 0))) y7) z7))) qal3) ye2 (u3 _)))))))))))
abbrev zd6 : Stmt := top 38
abbrev xa5 : List Str := ["script", "k", "pot", "step", "row", "sizes", "long", "wide", "grown", "number"]
theorem sc_Z26 : FnScope xa5 ["script"] (y0 zd6) := qsc
theorem xm9 {f : Addr} {fd : FuncData} {y_Grown : Addr} (Fn : Fun K "law" "law" zd6 f fd) (hC_Grown : W.nsIn K mainGlobals "Grown" = some (some (.ref y_Grown))) (cl_Grown : Cls K y_Grown) (H_Grown___init__ : QHi P w K mg base 2 y_Grown "Grown" ["self", "step"] (spW K 2 u9)) (H_Z10 : xq0 P w K mg base y_Grown) (H_Z8 : T_Z8 P w K mg base y_Grown) (H_Grown_put : E5 P w K mg base y_Grown) (H_Z13 : xf7 P w K mg base y_Grown) (H_Z24 : xr8 P w K mg base) (H_law_pots : B8 P w K mg base) (H_Z20 : xf2 P w K mg base) (H_Z23 : xg9 P w K mg base) (Z : Zs mg) : FnOk P w K mg base CX0 7 f fd ["script"] (spR K 1 zm3) :=
 Fn.okD (k := 6) (m := xt4) sc_Z26 fun cdv A outer s H E hr => (z9 (yx8 PassesOwn.never rfl rfl (T8 Z) (xz6 (fun t ha => qcl H_law_pots hr ha) rfl (z0 (j8 (xy2 (x6 0 (pv 0)) zz3 (zz2 y7))) z7) qal1) (a9 rfl (w4 (x8 (i := 1) sc_Z26.nd rfl (Or.inl rfl)) (w4 (x8 (i := 2) sc_Z26.nd rfl (Or.inl rfl)) m9))) (ym6 (t7 (psw (M9 (i := 3) sc_Z26.nd rfl (Or.inl rfl) (yw9 (xy9 (Z8 (t3 y7) (Z8 (O7 (OpR.or J2 V2) S2 (t3 y7) (n4 (i := 2) (fun t ha => qcl H_Z24 hr ha) rfl (pv 2) (m8 (z0 y7 z7)) (c6 qal1))) (m8 (z0 (ye1 y7 y7) z7))))) (n4 (i := 2) (fun t ha => qcl H_Z24 hr ha) rfl (pv 2) (m8 (z0 y7 z7)) (c6 qal1))))) (t7 (psw (zu2 (is := [4, 5]) (l7 (n4 (i := 2) (fun t ha => qcl H_Z23 hr ha) rfl (pv 2) (Z8 (t3 (z5 3 (pv 3))) (Z8 (O7 (OpR.or J2 V2) S2 (t3 y7) (n4 (i := 2) (fun t ha => qcl H_Z24 hr ha) rfl (pv 2) (m8 (z0 y7 z7)) (c6 qal1))) (m8 (z0 y7 z7)))) (X1 (X1 (c6 qal1)))) (yw6 rfl (w4 (x8 (i := 4) sc_Z26.nd rfl (Or.inl rfl)) (w4 (x8 (i := 5) sc_Z26.nd rfl (Or.inl rfl)) m9)))))) (t7 (yx5 (pcw (ye4 (yv7 (w5 (fun t ha => qcl H_Z20 hr ha) rfl (z0 (z5 4 (pv 4)) (z0 (z5 5 (pv 5)) (z0 (z5 3 (pv 3)) z7))) qal3)))) (Z6 (zo5 (R7 (pdw zt2)))) M7) (t7 (ya9 (xc0 (ya6 (yk9 (u8 yj2 zz8 (z5 1 (pv 1)) y7 (u3 _))) (ym3 (xx2 yj2 zz8 (n4 (i := 2) (fun t ha => qcl H_Z24 hr ha) rfl (pv 2) (m8 (z0 y7 z7)) (c6 qal1)) (t3 y7) (u3 _))))) (t7 (psw (zu2 (is := [6, 7]) (l7 (n4 (i := 2) (fun t ha => qcl H_Z23 hr ha) rfl (pv 2) (Z8 (t3 (z5 3 (pv 3))) (Z8 (O7 (OpR.or J2 V2) S2 (t3 y7) (n4 (i := 2) (fun t ha => qcl H_Z24 hr ha) rfl (pv 2) (m8 (z0 y7 z7)) (c6 qal1))) (m8 (z0 y7 z7)))) (X1 (X1 (c6 qal1)))) (yw6 rfl (w4 (x8 (i := 6) sc_Z26.nd rfl (Or.inl rfl)) (w4 (x8 (i := 7) sc_Z26.nd rfl (Or.inl rfl)) m9)))))) (Z6 (yx5 (pcw (ye4 (yv7 (w5 (fun t ha => qcl H_Z20 hr ha) rfl (z0 (z5 6 (pv 6)) (z0 (z5 7 (pv 7)) (z0 (z5 3 (pv 3)) z7))) qal3)))) (Z6 (zo5 (R7 (pdw zt2)))) M7))) M7) (ym5 hC_Grown (fun t ha => by exact qmkO H_Grown___init__ hr ha) (fun te he => zh2 (i := 8) sc_Z26.nd rfl (Or.inl rfl) he) rfl (z0 (z5 3 (pv 3)) z7) qal1 (t7 (xz0 PassesOwn.never rfl (S0 (z5 4 (pv 4))) (u7 (i := 9) (x8 sc_Z26.nd rfl (Or.inl rfl))) (Z6 (yx6 (K5 (yk6 hC_Grown (z5 8 (pv 8)) (fun ta t ho ha => qmt H_Grown_put cl_Grown hr ho ha) rfl (z0 (z5 9 (pv 9)) (z0 y7 z7)) qal2))))) (Z6 (yx5 (yk8 (pc_w (zt3 (u8 zo9 S1 (V1 hC_Grown (z5 8 (pv 8)) (fun ta ho => qmt0 H_Z10 cl_Grown hr ho)) (l4 (w8 rfl (t9 Z) (x6 5 (pv 5))) y7) (u3 _)) (zt3 (u8 zo9 S1 (V1 hC_Grown (z5 8 (pv 8)) (fun ta ho => qmt0 H_Z13 cl_Grown hr ho)) y7 (u3 _)) (yx3 (u8 zo9 S1 (l8 (D1 (V1 hC_Grown (z5 8 (pv 8)) (fun ta ho => qmt0 H_Z8 cl_Grown hr ho))) (Q1 y7)) (l4 (w8 rfl (t9 Z) (x6 5 (pv 5))) y7) (u3 _))))))) (Z6 (zo5 (R7 (pdw zt2)))) M7)))))))))) (y8 (u5 zt2)))
theorem all_mk {l : W.OpenLaw} {h : Heap} {fa : Addr} (X : K.In h) (G : h.Ns mainGlobals mg) (hfa : mg "law" = some (.ref fa)) {y_Grown : Addr} (eC_Grown : W.nsIn K mainGlobals "Grown" = some (some (.ref y_Grown))) (c1_Grown : W.plainGet K y_Grown Str.empty = true) (c2_Grown : W.hasDictIn K y_Grown = true) (c3_Grown : W.plainOver K y_Grown = true) (c4_Grown : W.findIn K (.ref y_Grown) "__setattr__" = some (some (.builtin "object.__setattr__"))) (n_Grown_least_step : W.findIn K (.ref y_Grown) "least_step" = some none) (n_Grown_lengths : W.findIn K (.ref y_Grown) "lengths" = some none) (n_Grown_numbers : W.findIn K (.ref y_Grown) "numbers" = some none) (n_Grown_weights : W.findIn K (.ref y_Grown) "weights" = some none) (m1_Grown : W.makesIn K y_Grown = true) (m2_Grown : W.keepIn K (.ref y_Grown) = true) (d_Z17 : QDn K "refuse_step" yb7) (d_Z18 : QDn K "later_steps" zo0) (d_Z9 : QDn K "longer_first" s_Z9) (d_Z19 : QDn K "first_break" yb6) (d_Z21 : QDn K "pieces_of" yb5) (d_Z1 : QDn K "longest_behind" s_Z1) (d_Z6 : QDn K "one_turn_more" s_Z6) (d_Z25 : QDn K "no_tails" yb1) (d_Z11 : QDn K "longest_tail" ya1) (d_Z0 : QDn K "longest_turning" s_Z0) (d_Z12 : QDn K "most_stepped" yn6) (d_Z5 : QDn K "kept_by_turns" s_Z5) (d_Z15 : QDn K "fewest_turns" yb8) (d_Z4 : QDn K "refuse_weight" s_Z4) (d_Z3 : QDn K "refuse_weights" s_Z3) (d_Z7 : QDn K "heavier_first" s_Z7) (d_Z2 : QDn K "first_heaviest" s_Z2) (d_Z16 : QDn K "heavy_tails" yy2) (d_Z22 : QDn K "heaviest" yb4) (d_Grown___init__ : QMn K y_Grown "__init__" "Grown.__init__" f6) (d_Z14 : QMn K y_Grown "pieces" "Grown.pieces" yb9) (d_Z10 : QMn K y_Grown "length" "Grown.length" ya2) (d_Grown_put : QMn K y_Grown "put" "Grown.put" T9) (d_Z13 : QMn K y_Grown "weight" "Grown.weight" ya0) (d_Z8 : QMn K y_Grown "moments" "Grown.moments" s_Z8) (d_Z24 : QDn K "_law_next" yb2) (d_law_pots : QDn K "_law_pots" U1) (d_Z23 : QDn K "_law_runs" yb3) (d_Z20 : QDn K "_law_right" yn5) (d_Z26 : QDn K "law" zd6) {y_OTHER_KIND : Addr} {es_OTHER_KIND : Array DictEntry} {ep_OTHER_KIND} (e_OTHER_KIND : W.nsIn K mainGlobals "OTHER_KIND" = some (some (.ref y_OTHER_KIND))) (l_OTHER_KIND : K.lookup y_OTHER_KIND = some ⟨.type "dict", none, .dict es_OTHER_KIND ep_OTHER_KIND, #[]⟩) (n_OTHER_KIND : (y_OTHER_KIND == sysModules) = false) (v_OTHER_KIND : yz6 tab_OTHER_KIND es_OTHER_KIND.toList) (h_OTHER_KIND : ∀ e ∈ es_OTHER_KIND.toList, ∀ k t, e.key = .str k t -> e.hash = hashStr w k) (y_enumerate : W.nsIn K mainGlobals "enumerate" = some none) (y_len : W.nsIn K mainGlobals "len" = some none) (y_list : W.nsIn K mainGlobals "list" = some none) (y_max : W.nsIn K mainGlobals "max" = some none) (y_min : W.nsIn K mainGlobals "min" = some none) (y_range : W.nsIn K mainGlobals "range" = some none) (y_reversed : W.nsIn K mainGlobals "reversed" = some none) (y_zip : W.nsIn K mainGlobals "zip" = some none) :
  ∃ fd : FuncData, (∀ (s : Shared) (v : Value), BindsTo s fd ⟨[v], []⟩ [("script", v)]) /\ ∀ base : Heap, K.In base -> base.Ns mainGlobals mg -> FnOk l.prog w K mg base CX0 7 fa fd ["script"] (spR K 1 zm3) := by
 obtain ⟨x, e, oc, o1, kV, dc, pm, o2, cd, ct, sl, l', c, k⟩ := d_Z26
 have e := hfa.symm.trans (W.mg_of X G e)
 cases e
 have cl_Grown : Cls K y_Grown := ⟨c1_Grown, c2_Grown, c3_Grown, c4_Grown⟩
 have hC_Grown := eC_Grown
 have a_Grown := W.mg_of X G eC_Grown
 have h_Grown_least_step : QHF K "Grown" "least_step" := fun C z => by
  rw [eC_Grown] at z; cases z; exact ⟨cl_Grown, n_Grown_least_step⟩
 have h_Grown_lengths : QHF K "Grown" "lengths" := fun C z => by
  rw [eC_Grown] at z; cases z; exact ⟨cl_Grown, n_Grown_lengths⟩
 have h_Grown_numbers : QHF K "Grown" "numbers" := fun C z => by
  rw [eC_Grown] at z; cases z; exact ⟨cl_Grown, n_Grown_numbers⟩
 have h_Grown_weights : QHF K "Grown" "weights" := fun C z => by
  rw [eC_Grown] at z; cases z; exact ⟨cl_Grown, n_Grown_weights⟩
 have T_OTHER_KIND : KTab w K y_OTHER_KIND tab_OTHER_KIND := ⟨n_OTHER_KIND, by decide, es_OTHER_KIND, ep_OTHER_KIND, l_OTHER_KIND, v_OTHER_KIND, h_OTHER_KIND⟩
 have a_OTHER_KIND := W.mg_of X G e_OTHER_KIND
 have Z : Zs mg := ⟨W.mg_none_of X G y_enumerate, W.mg_none_of X G y_len, W.mg_none_of X G y_list, W.mg_none_of X G y_max, W.mg_none_of X G y_min, W.mg_none_of X G y_range, W.mg_none_of X G y_reversed, W.mg_none_of X G y_zip, True.intro⟩
 refine ⟨W.fnOf "law" "law" (X6 zd6) (i7 zd6) (y0 zd6) .none kV dc pm o2 cd ct, fun s v => .of_eq rfl, fun base _ _ => ?_⟩
 have H_Z17 := xk8 (P := l.prog) (w := w) (mg := mg) (base := base) (d_Z17.df X G (qbd1 fun _ _ _ _ _ _ _ => rfl))
 have H_Z18 := xk7 (P := l.prog) (w := w) (mg := mg) (base := base) (d_Z18.df X G (qbd2 fun _ _ _ _ _ _ _ _ => rfl)) Z
 have H_Z9 := xc2 (P := l.prog) (w := w) (mg := mg) (base := base) (d_Z9.df X G (qbd1 fun _ _ _ _ _ _ _ => rfl)) Z
 have H_Z19 := xk6 (P := l.prog) (w := w) (mg := mg) (base := base) (d_Z19.df X G (qbd4 fun _ _ _ _ _ _ _ _ _ _ => rfl)) Z
 have H_Z21 := xk4 (P := l.prog) (w := w) (mg := mg) (base := base) (d_Z21.df X G (qbd2 fun _ _ _ _ _ _ _ _ => rfl)) H_Z19 H_Z17 T_OTHER_KIND a_OTHER_KIND Z
 have H_Z1 := xb0 (P := l.prog) (w := w) (mg := mg) (base := base) (d_Z1.df X G (qbd2 fun _ _ _ _ _ _ _ _ => rfl)) Z
 have H_Z6 := xc5 (P := l.prog) (w := w) (mg := mg) (base := base) (d_Z6.df X G (qbd2 fun _ _ _ _ _ _ _ _ => rfl)) H_Z9 H_Z1 Z
 have H_Z25 := xk0 (P := l.prog) (w := w) (mg := mg) (base := base) (d_Z25.df X G (qbd1 fun _ _ _ _ _ _ _ => rfl)) Z
 have H_Z11 := xj4 (P := l.prog) (w := w) (mg := mg) (base := base) (d_Z11.df X G (qbd1 fun _ _ _ _ _ _ _ => rfl)) H_Z9 Z
 have H_Z0 := xb1 (P := l.prog) (w := w) (mg := mg) (base := base) (d_Z0.df X G (qbd3 fun _ _ _ _ _ _ _ _ _ => rfl)) H_Z18 H_Z11 H_Z25 H_Z6 H_Z17 Z
 have H_Z12 := xj3 (P := l.prog) (w := w) (mg := mg) (base := base) (d_Z12.df X G (qbd1 fun _ _ _ _ _ _ _ => rfl)) Z
 have H_Z5 := xc6 (P := l.prog) (w := w) (mg := mg) (base := base) (d_Z5.df X G (qbd2 fun _ _ _ _ _ _ _ _ => rfl)) H_Z18 H_Z11 H_Z12 H_Z25 H_Z6 H_Z17 Z
 have H_Z15 := xj0 (P := l.prog) (w := w) (mg := mg) (base := base) (d_Z15.df X G (qbd3 fun _ _ _ _ _ _ _ _ _ => rfl)) H_Z5 H_Z17 Z
 have H_Z4 := xc7 (P := l.prog) (w := w) (mg := mg) (base := base) (d_Z4.df X G (qbd1 fun _ _ _ _ _ _ _ => rfl))
 have H_Z3 := xc8 (P := l.prog) (w := w) (mg := mg) (base := base) (d_Z3.df X G (qbd2 fun _ _ _ _ _ _ _ _ => rfl)) H_Z4 Z
 have H_Z7 := xc4 (P := l.prog) (w := w) (mg := mg) (base := base) (d_Z7.df X G (qbd1 fun _ _ _ _ _ _ _ => rfl)) Z
 have H_Z2 := xc9 (P := l.prog) (w := w) (mg := mg) (base := base) (d_Z2.df X G (qbd1 fun _ _ _ _ _ _ _ => rfl)) H_Z7 Z
 have H_Z16 := xk9 (P := l.prog) (w := w) (mg := mg) (base := base) (d_Z16.df X G (qbd3 fun _ _ _ _ _ _ _ _ _ => rfl)) H_Z2 H_Z18 Z
 have H_Z22 := xk3 (P := l.prog) (w := w) (mg := mg) (base := base) (d_Z22.df X G (qbd3 fun _ _ _ _ _ _ _ _ _ => rfl)) H_Z2 H_Z16 H_Z17 H_Z3
 have H_Grown___init__ := (P9 (P := l.prog) (w := w) (mg := mg) (base := base) (d_Grown___init__.mf (qbd2 fun _ _ _ _ _ _ _ _ => rfl)) hC_Grown cl_Grown H_Z17 h_Grown_least_step h_Grown_lengths h_Grown_numbers h_Grown_weights).hi m1_Grown m2_Grown a_Grown
 have H_Z14 := xj1 (P := l.prog) (w := w) (mg := mg) (base := base) (d_Z14.mf (qbd1 fun _ _ _ _ _ _ _ => rfl)) hC_Grown cl_Grown H_Z21 h_Grown_least_step h_Grown_numbers
 have H_Z10 := xj5 (P := l.prog) (w := w) (mg := mg) (base := base) (d_Z10.mf (qbd1 fun _ _ _ _ _ _ _ => rfl)) hC_Grown cl_Grown H_Z14 h_Grown_numbers Z
 have H_Grown_put := zt4 (P := l.prog) (w := w) (mg := mg) (base := base) (d_Grown_put.mf (qbd3 fun _ _ _ _ _ _ _ _ _ => rfl)) hC_Grown cl_Grown H_Z10 H_Z4 h_Grown_lengths h_Grown_numbers h_Grown_weights
 have H_Z13 := xj2 (P := l.prog) (w := w) (mg := mg) (base := base) (d_Z13.mf (qbd1 fun _ _ _ _ _ _ _ => rfl)) hC_Grown cl_Grown H_Z22 h_Grown_least_step h_Grown_numbers h_Grown_weights
 have H_Z8 := xc3 (P := l.prog) (w := w) (mg := mg) (base := base) (d_Z8.mf (qbd1 fun _ _ _ _ _ _ _ => rfl)) hC_Grown cl_Grown h_Grown_lengths Z
 have H_Z24 := xk1 (P := l.prog) (w := w) (mg := mg) (base := base) (d_Z24.df X G (qbd2 fun _ _ _ _ _ _ _ _ => rfl))
 have H_law_pots := zn1 (P := l.prog) (w := w) (mg := mg) (base := base) (d_law_pots.df X G (qbd1 fun _ _ _ _ _ _ _ => rfl)) Z
 have H_Z23 := xk2 (P := l.prog) (w := w) (mg := mg) (base := base) (d_Z23.df X G (qbd4 fun _ _ _ _ _ _ _ _ _ _ => rfl)) H_Z24 Z
 have H_Z20 := xk5 (P := l.prog) (w := w) (mg := mg) (base := base) (d_Z20.df X G (qbd3 fun _ _ _ _ _ _ _ _ _ => rfl)) H_Z15 H_Z5 H_Z0 Z
 exact xm9 (yr9 l' c k) hC_Grown cl_Grown H_Grown___init__ H_Z10 H_Z8 H_Grown_put H_Z13 H_Z24 H_law_pots H_Z20 H_Z23 Z
theorem walk {l : W.OpenLaw} {q : Program} {loose : List Str} {XP : (Str -> Option Value) -> Heap -> Prop} {YP : World -> Heap -> Prop} {d : DefRec} {K : Params -> W.Frag} (hn : l.most = some 63) (hdf : d.params.defaults = [])
  (law : ∀ ns : List Int, ns.length <= 63 -> zm3 [.lst (ns.map .int)] = some (.sh (.bl true)))
  (hY : ∀ (w : World) (h : Heap), YP w h -> (K w.params).In h)
  (F : ∀ (w : World) (mg : Str -> Option Value) (fa : Addr) (h : Heap), (K w.params).In h -> h.Ns mainGlobals mg -> mg d.name = some (.ref fa) ->
   ∃ fd : FuncData, (∀ (s : Shared) (u : Value), BindsTo s fd ⟨[u], []⟩ [("script", u)]) /\ ∀ base : Heap, (K w.params).In base -> base.Ns mainGlobals mg -> FnOk l.prog w (K w.params) mg base CX0 7 fa fd ["script"] (spR (K w.params) 1 zm3)) :
  W.WalkO q loose XP YP l.row.toRowW d [] (fun f vs => PySem.call f vs) :=
 L2.walk_of (n := 63) (k := 7) (x := "script") (CX := fun _ => CX0) (sp := fun w => spR (K w.params) 1 zm3) hn (by decide) hdf ⟨rfl, by decide, by decide⟩ hY F (fun w H a ns hl _ hS => xo1 law H a ns hl hS _) fun _ _ _ _ _ z => z
end
end Lw
open PySem PySem.W PyProof.Rows L2
set_option maxRecDepth 100000 in
set_option maxHeartbeats 0 in
theorem PySem.Challenge.cw_wavyrow_k35_whole_runs_by_turns_holds : PySem.Challenge.rw_wavyrow_k35_whole_runs_by_turns.Holds := by
 w_on; o_law; k_head; (case hw => w_witness2)
 k_fill
 refine Lw.walk (l := PySem.Challenge.rw_wavyrow_k35_whole_runs_by_turns) rfl rfl Lw.law_true (fun w h Y => PySem.W.kIn_of Y) ?F
 case F =>
  intro w mg fa h KX G hmg
  refine' Lw.all_mk KX G hmg ?eC_Grown ?c1_Grown ?c2_Grown ?c3_Grown ?c4_Grown ?n_Grown_least_step ?n_Grown_lengths ?n_Grown_numbers ?n_Grown_weights ?m1_Grown ?m2_Grown ?d_Z17 ?d_Z18 ?d_Z9 ?d_Z19 ?d_Z21 ?d_Z1 ?d_Z6 ?d_Z25 ?d_Z11 ?d_Z0 ?d_Z12 ?d_Z5 ?d_Z15 ?d_Z4 ?d_Z3 ?d_Z7 ?d_Z2 ?d_Z16 ?d_Z22 ?d_Grown___init__ ?d_Z14 ?d_Z10 ?d_Grown_put ?d_Z13 ?d_Z8 ?d_Z24 ?d_law_pots ?d_Z23 ?d_Z20 ?d_Z26 ?e_OTHER_KIND ?l_OTHER_KIND ?n_OTHER_KIND ?v_OTHER_KIND ?h_OTHER_KIND  ?y_enumerate ?y_len ?y_list ?y_max ?y_min ?y_range ?y_reversed ?y_zip
  (case e_OTHER_KIND => k_is); (case l_OTHER_KIND => k_is); (case n_OTHER_KIND => first | rfl | decide | k_is)
  (case v_OTHER_KIND => exact ⟨⟨_, rfl⟩, ⟨_, rfl⟩, ⟨_, rfl⟩, ⟨_, rfl⟩, True.intro⟩)
  (case h_OTHER_KIND => intro e he k t hk; simp only [List.mem_cons, List.not_mem_nil, or_false] at he; rcases he with rfl | rfl <;> cases hk <;> rfl)
  all_goals first | (refine' QDn.of ?e ?l ?c ?k; (case e => k_is); (case l => k_is); (case c => k_is); (case k => k_is)) | (refine' QMn.of ?e ?i ?l ?c ?k; (case e => k_is); (case i => k_is); (case l => k_is); (case c => k_is); (case k => k_is)) | k_is | skip
