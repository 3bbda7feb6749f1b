import PyProof.Rows.All
import Wide.All
import OpenK.AllK
import Wide.FinOn
import Lean
import PyProof.EqAt
import PyProof.EqKinds
import PyProof.TupleCall
import PyProof.NeKinds
import KE.IntBitsLaws
import PyProof.FitsBits
import PySem.Challenge.RW_wavyrow_k52_rows_made_wavy
set_option Elab.async false
set_option linter.all false
set_option maxRecDepth 100000
namespace L2
open List
open PySem PySem.Spec PyProof.Rows
section
abbrev Key := Sum Int Str
def keyIs : Key -> Value -> Bool
 | .inl k, v => Value.isInt k v
 | .inr x, v => Value.isStrOf x v
def keyH (w : World) : Key -> Int
 | .inl k => hashInt k
 | .inr x => hashStr w x
theorem keyIs_shape : ∀ {k : Key} {v : Value}, keyIs k v = true -> (∃ i t, k = Sum.inl i /\ v = Value.int i t) \/ (∃ x t, k = Sum.inr x /\ v = Value.str x t)
 | .inl i, v, h => by
  obtain ⟨t, e⟩ := Value.isInt_shape (k := i) (v := v) h
  exact .inl ⟨i, t, rfl, e⟩
 | .inr x, v, h => by
  obtain ⟨t, e⟩ := Value.isStrOf_shape (x := x) (v := v) h
  exact .inr ⟨x, t, rfl, e⟩
theorem keyIs_str (x : Str) (t : Tok) : keyIs (.inr x) (.str x t) = true := by simp [keyIs, Value.isStrOf]
theorem key_ll (a b : Int) : decide ((Sum.inl a : Key) = Sum.inl b) = (a == b) := by
 by_cases e : a = b
 ·subst e; simp
 ·have h : ¬ (Sum.inl a : Key) = Sum.inl b := fun q => e (Sum.inl.inj q)
  rw [decide_eq_false h]
  exact (beq_eq_false_iff_ne.mpr e).symm
theorem key_rr (a b : Str) : decide ((Sum.inr a : Key) = Sum.inr b) = decide (a = b) := by
 by_cases e : a = b
 ·subst e; simp
 ·have h : ¬ (Sum.inr a : Key) = Sum.inr b := fun q => e (Sum.inr.inj q)
  rw [decide_eq_false h, decide_eq_false e]
theorem key_lr (a : Int) (b : Str) : decide ((Sum.inl a : Key) = Sum.inr b) = false := decide_eq_false (fun q => nomatch q)
theorem key_rl (a : Str) (b : Int) : decide ((Sum.inr a : Key) = Sum.inl b) = false := decide_eq_false (fun q => nomatch q)
def mixKind (prog : Program) (w : World) : PySem.KeyKind prog w Key where
 is := keyIs
 hash := keyH w
 inj := fun v a b ha hb => by
  rcases keyIs_shape ha with ⟨i, t, rfl, rfl⟩ | ⟨x, t, rfl, rfl⟩
  ·rcases keyIs_shape hb with ⟨j, u, rfl, e⟩ | ⟨y, u, rfl, e⟩
   ·injection e with e1 _; rw [e1]
   ·exact nomatch e
  ·rcases keyIs_shape hb with ⟨j, u, rfl, e⟩ | ⟨y, u, rfl, e⟩
   ·exact nomatch e
   ·injection e with e1 _; rw [e1]
 byValue := fun k v h => by
  rcases keyIs_shape h with ⟨i, t, rfl, rfl⟩ | ⟨x, t, rfl, rfl⟩ <;> rfl
 pyHash := fun hv h => by
  rcases keyIs_shape hv with ⟨i, t, rfl, rfl⟩ | ⟨x, t, rfl, rfl⟩
  ·exact wpAny_pyHash_int h
  ·exact wpAny_pyHash_str h
 eqBool := fun hu hv h => by
  rcases keyIs_shape hu with ⟨i, t, rfl, rfl⟩ | ⟨x, t, rfl, rfl⟩
  ·rcases keyIs_shape hv with ⟨j, u, rfl, rfl⟩ | ⟨y, u, rfl, rfl⟩
   ·rw [key_ll] at h; exact wpAny_eqBool_int h
   ·rw [key_lr] at h; exact SeqAt.EqAt.int_str i t y u _ _ _ _ h
  ·rcases keyIs_shape hv with ⟨j, u, rfl, rfl⟩ | ⟨y, u, rfl, rfl⟩
   ·rw [key_rl] at h; exact SeqAt.EqAt.str_int x t j u _ _ _ _ h
   ·rw [key_rr] at h; exact wpAny_eqBool_str h
 «strs» := fun k x t v h => by
  rcases keyIs_shape h with ⟨i, u, rfl, e⟩ | ⟨y, u, rfl, e⟩
  ·exact nomatch e
  ·injection e with e1 _
   subst e1
   cases v <;> rfl
end
section
inductive V where
 | non | bl (b : Bool) | int (i : Int) | str (x : Str) | byt (b : Array UInt8) | flt (b : UInt64) | ref (a : Addr) | ty (n : String)
 deriving DecidableEq
def RelV : V -> Value -> Prop
 | .non, u => u = Value.none
 | .bl b, u => u = Value.bool b
 | .int i, u => ∃ t, u = Value.int i t
 | .str x, u => ∃ t, u = Value.str x t
 | .byt b, u => ∃ t, u = Value.bytes b t
 | .flt b, u => ∃ t, u = Value.float b t
 | .ref a, u => u = Value.ref a
 | .ty n, u => u = Value.type n
abbrev Vals : List V -> List Value -> Prop := Paired RelV
theorem Vals.length {xs : List V} {us : List Value} (r : Vals xs us) : xs.length = us.length := Paired.length r
theorem Vals.get : ∀ {xs : List V} {us : List Value} {i : Nat} {x : V}, Vals xs us -> xs[i]? = some x -> ∃ u, us[i]? = some u /\ RelV x u
 | _, _, _, _, .nil, e => by simp at e
 | _, _, 0, _, .cons r _, e => by simp at e; subst e; exact ⟨_, rfl, r⟩
 | _, _, i + 1, x, .cons _ t, e => by
  obtain ⟨u, h1, h2⟩ := Vals.get (i := i) (x := x) t (by simpa using e)
  exact ⟨u, by simpa using h1, h2⟩
theorem Vals.set {x : V} {u : Value} (r : RelV x u) : ∀ {xs : List V} {us : List Value} (i : Nat), Vals xs us -> Vals (xs.set i x) (us.set i u)
 | _, _, _, .nil => .nil
 | _, _, 0, .cons _ t => .cons r t
 | _, _, i + 1, .cons q t => .cons q (Vals.set r i t)
theorem Vals.append : ∀ {xs ys : List V} {us ws : List Value}, Vals xs us -> Vals ys ws -> Vals (xs ++ ys) (us ++ ws)
 | _, _, _, _, .nil, s => s
 | _, _, _, _, .cons r t, s => .cons r (Vals.append t s)
theorem Vals.take : ∀ {xs : List V} {us : List Value} (n : Nat), Vals xs us -> Vals (xs.take n) (us.take n)
 | _, _, 0, _ => .nil
 | _, _, _ + 1, .nil => .nil
 | _, _, n + 1, .cons r t => .cons r (Vals.take n t)
theorem Vals.drop : ∀ {xs : List V} {us : List Value} (n : Nat), Vals xs us -> Vals (xs.drop n) (us.drop n)
 | _, _, 0, r => r
 | _, _, _ + 1, .nil => .nil
 | _, _, n + 1, .cons _ t => Vals.drop n t
def RelO : Option V -> Option Value -> Prop
 | some v, some u => RelV v u
 | none, none => True
 | _, _ => False
def KV {κ : Type} : List (κ × V) -> List (κ × Value) -> Prop := Paired fun (p : κ × V) (q : κ × Value) => p.1 = q.1 /\ RelV p.2 q.2
def kV : Key -> V
 | .inl i => .int i
 | .inr x => .str x
inductive HO where
 | lst (xs : List V)
 | tup (xs : List V)
 | dK (kvs : List (Key × V)) | dT (kvs : List (List Key × V))
 | set (S : Int -> Bool) (n : Nat)
 | ins (C dx : Addr) (fs : List (Str × V))
 | own (x : Addr)
 | xd (fs : List (Str × V))
 | met (f x : Addr)
 | rng (lo hi : Int)
 | frz (o : Obj) (u : HO)
 | tbl (ps : Array Value)
 | ext (φ : Heap -> Prop)
abbrev Hp := Addr -> Option HO
def upd (H : Hp) (a : Addr) (o : HO) : Hp := fun b => if b = a then some o else H b
theorem upd_same {H : Hp} {a : Addr} {o : HO} : upd H a o a = some o := by unfold upd; rw [if_pos rfl]
theorem upd_ne {H : Hp} {a b : Addr} {o : HO} (h : b ≠ a) : upd H a o b = H b := by unfold upd; rw [if_neg h]
theorem ne_of_none {H : Hp} {a b : Addr} {o : HO} (h : H a = some o) (h' : H b = none) : a ≠ b := by
 intro e; subst e; rw [h] at h'; cases h'
section
variable (P : Program) (w : World)
def ObjOk (H : Hp) (h : Heap) (a : Addr) : HO -> Prop
 | .lst xs => xs.length <= sizeLine /\ ∃ (its : List Value) (n : Nat), Vals xs its /\ h.get? a = some { cls := .type "list", data := .seq its.toArray n }
 | .tup xs => xs.length <= sizeLine /\ ∃ its : List Value, Vals xs its /\ IsTup h a its.toArray
 | .dK kvs => kvs.length <= sizeLine /\ (a == sysModules) = false /\ ∃ vs, KV kvs vs /\ h.DictOf (mixKind P w) a vs
 | .dT kvs => kvs.length <= sizeLine /\ (a == sysModules) = false /\ ∃ xs : List (List Key × Addr × Value),
   Paired (fun (p : List Key × V) (q : List Key × Addr × Value) => p.1 = q.1 /\ H q.2.1 = some (.tup (p.1.map kV)) /\ RelV p.2 q.2.2) kvs xs /\
   ∃ o es ep, h.get? a = some o /\ o.ExactDict /\ o.data = .dict es ep /\ es.toList = xs.map (entryOfKey (tupleKind (mixKind P w))) /\ (xs.map (·.1)).Nodup
 | .set S n => h.SetOf (intKind P w) a S n
 | .ins C dx fs => H dx = some (.own a) /\ fs.length <= 1000 /\ dx ≠ a /\ h.get? a = some (W.instObj C dx) /\
   ∃ mA, h.Ns1 dx mA /\ (∀ f, RelO (fs.lookup f) (mA f)) /\ PySem.Within mA (fs.map (·.1))
 | .own _ => ∃ o, h.get? a = some o
 | .xd fs => ∃ mA, h.Ns1 a mA /\ ∀ f, RelO (fs.lookup f) (mA f)
 | .rng lo hi => ∃ t u v, h.get? a = some { cls := .type "range", data := .fields #[.int lo t, .int hi u, .int 1 v] }
 | .frz o u => h.get? a = some o /\ ObjOk H h a u
 | .tbl ps => h.get? a = some { cls := .none, data := .fields ps }
 | .met f x => h.get? a = some (W.methodObj (.ref f) (.ref x))
 | .ext φ => φ h /\ (∃ o, h.get? a = some o) /\ ∀ h1 h2 : Heap, φ h1 -> (∀ o, h1.get? a = some o -> h2.get? a = some o) -> φ h2
def HOk (H : Hp) (h : Heap) : Prop := ∀ a o, H a = some o -> ObjOk P w H h a o
end
section
variable {P : Program} {w : World} {H H' : Hp} {h h' : Heap} {a : Addr} {o : HO}
theorem ObjOk.lt (x : ObjOk P w H h a o) : a < h.objs.size := by
 cases o with
 | lst xs => obtain ⟨_, _, _, _, e⟩ := x; exact Heap.lt_size e
 | tup xs => obtain ⟨_, _, _, p⟩ := x; exact p.lt
 | dK kvs => obtain ⟨_, _, _, _, o, _, _, e, _⟩ := x; exact Heap.lt_size e
 | dT kvs => obtain ⟨_, _, _, _, o, _, _, e, _⟩ := x; exact Heap.lt_size e
 | set S n => obtain ⟨o, _, _, _, e, _⟩ := x; exact Heap.lt_size e
 | ins C dx fs => obtain ⟨_, _, _, e, _⟩ := x; exact Heap.lt_size e
 | own y => obtain ⟨_, e⟩ := x; exact Heap.lt_size e
 | xd fs => obtain ⟨_, ⟨_, _, _, e, _⟩, _⟩ := x; exact Heap.lt_size e
 | rng lo hi => obtain ⟨_, _, _, e⟩ := x; exact Heap.lt_size e
 | frz ob u => obtain ⟨e, _⟩ := x; exact Heap.lt_size e
 | tbl ps => exact Heap.lt_size (show h.get? a = some _ from x)
 | met f y => exact Heap.lt_size (show h.get? a = some _ from x)
 | ext φ => obtain ⟨_, ⟨_, e⟩, _⟩ := x; exact Heap.lt_size e
theorem Paired.mapP {α β : Type} {F G : α -> β -> Prop} : ∀ {l₁ : List α} {l₂ : List β}, Paired F l₁ l₂ -> (∀ a b, F a b -> G a b) -> Paired G l₁ l₂
 | _, _, .nil, _ => .nil
 | _, _, .cons r t, f => .cons (f _ _ r) (Paired.mapP t f)
theorem ObjOk.stay (x : ObjOk P w H h a o) (k : ∀ b u, (b = a \/ H b = some (.own a)) -> h.get? b = some u -> h'.get? b = some u)
  (ho : ∀ b, H b = some (.own a) -> H' b = some (.own a)) (ht : ∀ b xs, H b = some (.tup xs) -> H' b = some (.tup xs)) : ObjOk P w H' h' a o := by
 induction o with
 | lst xs => obtain ⟨z, its, n, r, e⟩ := x; exact ⟨z, its, n, r, k _ _ (.inl rfl) e⟩
 | tup xs => obtain ⟨z, its, r, ob, e, c⟩ := x; exact ⟨z, its, r, ob, k _ _ (.inl rfl) e, c⟩
 | dK kvs => obtain ⟨z, y, vs, r, ob, es, ep, e, c⟩ := x; exact ⟨z, y, vs, r, ob, es, ep, k _ _ (.inl rfl) e, c⟩
 | dT kvs =>
  obtain ⟨z, y, xs, r, ob, es, ep, e, c⟩ := x
  exact ⟨z, y, xs, Paired.mapP r fun p q z => ⟨z.1, ht _ _ z.2.1, z.2.2⟩, ob, es, ep, k _ _ (.inl rfl) e, c⟩
 | set S n => obtain ⟨ob, es, ep, t, e, c⟩ := x; exact ⟨ob, es, ep, t, k _ _ (.inl rfl) e, c⟩
 | ins C dx fs =>
  obtain ⟨d, z, ne, e, mA, ⟨od, es, ep, e2, c⟩, r⟩ := x
  exact ⟨ho _ d, z, ne, k _ _ (.inl rfl) e, mA, ⟨od, es, ep, k _ _ (.inr d) e2, c⟩, r⟩
 | own y => obtain ⟨ob, e⟩ := x; exact ⟨ob, k _ _ (.inl rfl) e⟩
 | xd fs => obtain ⟨mA, ⟨od, es, ep, e, c⟩, r⟩ := x; exact ⟨mA, ⟨od, es, ep, k _ _ (.inl rfl) e, c⟩, r⟩
 | rng lo hi => obtain ⟨t, u, v, e⟩ := x; exact ⟨t, u, v, k _ _ (.inl rfl) e⟩
 | frz ob u ih => obtain ⟨e, q⟩ := x; exact ⟨k _ _ (.inl rfl) e, ih q⟩
 | tbl ps =>
  have e : h.get? a = some { cls := .none, data := .fields ps } := x
  show h'.get? a = some { cls := .none, data := .fields ps }
  exact k a _ (.inl rfl) e
 | met f y =>
  have e : h.get? a = some (W.methodObj (.ref f) (.ref y)) := x
  show h'.get? a = some (W.methodObj (.ref f) (.ref y))
  exact k a _ (.inl rfl) e
 | ext φ => obtain ⟨p, ⟨o, e⟩, st⟩ := x; exact ⟨st _ _ p fun o q => k _ _ (.inl rfl) q, ⟨o, k _ _ (.inl rfl) e⟩, st⟩
theorem HOk.lt (x : HOk P w H h) (e : H a = some o) : a < h.objs.size := (x a o e).lt
theorem HOk.fresh (x : HOk P w H h) (e : h.objs.size <= a) : H a = none := by
 cases q : H a with
 | none => rfl
 | some u => exact absurd (Nat.lt_of_lt_of_le (x.lt q) e) (Nat.lt_irrefl _)
theorem HOk.kept (x : HOk P w H h) (k : ∀ b u, h.get? b = some u -> h'.get? b = some u) : HOk P w H h' := fun a o e =>
 (x a o e).stay (fun b u _ q => k b u q) (fun _ q => q) fun _ _ q => q
theorem HOk.laid (x : HOk P w H h) (k : ∀ b u, h.get? b = some u -> h'.get? b = some u) (hp : h.objs.size <= a) (new : ObjOk P w (upd H a o) h' a o) : HOk P w (upd H a o) h' := fun b u e => by
 have hn := x.fresh hp
 by_cases hb : b = a
 ·subst hb; rw [upd_same] at e; cases e; exact new
 ·rw [upd_ne hb] at e
  exact (x b u e).stay (fun c v _ q => k c v q) (fun c q => by rw [upd_ne (ne_of_none q hn)]; exact q) fun c xs q => by rw [upd_ne (ne_of_none q hn)]; exact q
end
def Rd (H : Hp) (a : Addr) (u : HO) : Prop := H a = some u \/ ∃ o, H a = some (.frz o u)
theorem Rd.of {H : Hp} {a : Addr} {u : HO} (h : H a = some u) : Rd H a u := .inl h
theorem Rd.ok {P : Program} {w : World} {H : Hp} {h : Heap} {a : Addr} {u : HO} (r : Rd H a u) (x : HOk P w H h) : ObjOk P w H h a u := by
 rcases r with r | ⟨o, r⟩
 ·exact x a u r
 ·obtain ⟨_, q⟩ := x a _ r
  exact q
def Mut : Option HO -> Prop
 | some (.lst _) => True
 | some (.dK _) => True
 | some (.dT _) => True
 | some (.set _ _) => True
 | some (.ins _ _ _) => True
 | some (.ext _) => True
 | _ => False
section
variable {P : Program} {w : World} {H : Hp} {h h' : Heap} {x e : Addr} {o' : HO}
theorem HOk.write (ok : HOk P w H h) (mu : Mut (H x)) (he : e = x \/ H e = some (.own x)) (k : ∀ b u, b ≠ e -> h.get? b = some u -> h'.get? b = some u) (heo : ∃ u, h'.get? e = some u)
  (new : ObjOk P w (upd H x o') h' x o') : HOk P w (upd H x o') h' := fun b u q => by
 have nown : ∀ c y, H c = some (.own y) -> c ≠ x := fun c y r z => by subst z; rw [r] at mu; exact mu
 have ntup : ∀ c xs, H c = some (.tup xs) -> c ≠ x := fun c xs r z => by subst z; rw [r] at mu; exact mu
 by_cases hb : b = x
 ·subst hb; rw [upd_same] at q; cases q; exact new
 ·rw [upd_ne hb] at q
  by_cases hbe : b = e
  ·have q' : H b = some (.own x) := by
    rcases he with z | z
    ·exact absurd (hbe.trans z) hb
    ·rw [hbe]; exact z
   rw [q] at q'; cases q'
   obtain ⟨v, hv⟩ := heo
   exact ⟨v, by rw [hbe]; exact hv⟩
  ·refine (ok b u q).stay (fun c v hc r => k c v ?_ r) (fun c r => by rw [upd_ne (nown c b r)]; exact r) fun c xs r => by rw [upd_ne (ntup c xs r)]; exact r
   rcases hc with rfl | hc
   ·exact hbe
   ·rintro rfl
    rcases he with z | z
    ·exact nown c b hc z
    ·rw [hc] at z; cases z; exact hb rfl
end
structure Un (fs ex : List Addr) (H H' : Hp) (h h' : Heap) : Prop where
 keep : ∀ b o, h.get? b = some o -> H b = none -> b ∉ fs -> b ∉ ex -> h'.get? b = some o
 slot : ∀ b o, h.get? b = some o -> H b = none -> b ∈ fs -> b ∉ ex -> ∃ sl, h'.get? b = some { o with slots := sl }
 free : ∀ b o, h.get? b = some o -> H b = none -> b ∉ ex -> H' b = none
 there : ∀ b o, h.get? b = some o -> b ∉ ex -> ∃ o', h'.get? b = some o'
 tups : ∀ b xs, H b = some (.tup xs) -> H' b = some (.tup xs)
 frzs : ∀ b o u, H b = some (.frz o u) -> H' b = some (.frz o u)
 tbls : ∀ b ps, H b = some (.tbl ps) -> ∃ more, H' b = some (.tbl (ps ++ more))
section
variable {fs fs' ex ex' : List Addr} {H H1 H2 : Hp} {h h1 h2 h' : Heap} {a x e : Addr} {o : HO}
theorem Un.any (u : Un fs ex H H1 h h1) {b : Addr} {ob : Obj} (q : h.get? b = some ob) (n : H b = none) (hx : b ∉ ex) : ∃ sl, h1.get? b = some { ob with slots := sl } := by
 by_cases hb : b ∈ fs
 ·exact u.slot b ob q n hb hx
 ·exact ⟨ob.slots, u.keep b ob q n hb hx⟩
theorem Un.trans (a : Un fs ex H H1 h h1) (b : Un fs ex H1 H2 h1 h2) : Un fs ex H H2 h h2 where
 keep := fun c ob q n hc hx => b.keep c ob (a.keep c ob q n hc hx) (a.free c ob q n hx) hc hx
 slot := fun c ob q n hc hx => by
  obtain ⟨sl, e1⟩ := a.slot c ob q n hc hx
  obtain ⟨sl', e2⟩ := b.slot c _ e1 (a.free c ob q n hx) hc hx
  exact ⟨sl', e2⟩
 free := fun c ob q n hx => by
  obtain ⟨o', e1⟩ := a.there c ob q hx
  exact b.free c o' e1 (a.free c ob q n hx) hx
 there := fun c ob q hx => by
  obtain ⟨o', e1⟩ := a.there c ob q hx
  exact b.there c o' e1 hx
 tups := fun c xs q => b.tups c xs (a.tups c xs q)
 frzs := fun c ob xs q => b.frzs c ob xs (a.frzs c ob xs q)
 tbls := fun c ps q => by
  obtain ⟨m1, e1⟩ := a.tbls c ps q
  obtain ⟨m2, e2⟩ := b.tbls c _ e1
  exact ⟨m1 ++ m2, by rw [e2, Array.append_assoc]⟩
theorem Un.kept (k : ∀ b u, h.get? b = some u -> h'.get? b = some u) : Un fs ex H H h h' :=
 ⟨fun b ob q _ _ _ => k b ob q, fun b ob q _ _ _ => ⟨ob.slots, k b ob q⟩, fun _ _ _ n _ => n, fun b ob q _ => ⟨ob, k b ob q⟩, fun _ _ q => q, fun _ _ _ q => q, fun _ ps q => ⟨#[], by rw [q]; simp⟩⟩
theorem Un.refl : Un fs ex H H h h := Un.kept fun _ _ q => q
theorem Un.laid (k : ∀ b u, h.get? b = some u -> h'.get? b = some u) (hp : h.objs.size <= a) (hn : H a = none) : Un fs ex H (upd H a o) h h' where
 keep := fun b u q _ _ _ => k b u q
 slot := fun b u q _ _ _ => ⟨u.slots, k b u q⟩
 free := fun b u q n _ => by rw [upd_ne (Nat.ne_of_lt (Nat.lt_of_lt_of_le (Heap.lt_size q) hp))]; exact n
 there := fun b u q _ => ⟨u, k b u q⟩
 tups := fun b xs q => by rw [upd_ne (ne_of_none q hn)]; exact q
 frzs := fun b u xs q => by rw [upd_ne (ne_of_none q hn)]; exact q
 tbls := fun b ps q => ⟨#[], by rw [upd_ne (ne_of_none q hn), q]; simp⟩
theorem Un.write (mu : Mut (H x)) (he : e = x \/ H e = some (.own x)) (k : ∀ b u, b ≠ e -> h.get? b = some u -> h'.get? b = some u) (heo : ∃ u, h'.get? e = some u) : Un fs ex H (upd H x o) h h' := by
 have hx : ∀ b, H b = none -> b ≠ x := fun b n z => by subst z; rw [n] at mu; exact mu
 have hb : ∀ b, H b = none -> b ≠ e := fun b n z => by
  subst z
  rcases he with r | r
  ·exact hx b n r
  ·rw [n] at r; cases r
 have hm : ∀ b u, H b = some u -> ¬ Mut (some u) -> b ≠ x := fun b u q nm z => by subst z; rw [q] at mu; exact nm mu
 refine ⟨fun b u q n _ _ => k b u (hb b n) q, fun b u q n _ _ => ⟨u.slots, k b u (hb b n) q⟩, fun b u q n _ => by rw [upd_ne (hx b n)]; exact n, fun b u q _ => ?_,
  fun b xs q => by rw [upd_ne (hm b _ q fun z => z)]; exact q, fun b u xs q => by rw [upd_ne (hm b _ q fun z => z)]; exact q, fun b ps q => ⟨#[], by rw [upd_ne (hm b _ q fun z => z), q]; simp⟩⟩
 by_cases hbe : b = e
 ·subst hbe; exact heo
 ·exact ⟨u, k b u hbe q⟩
theorem Un.mono (u : Un fs ex H H1 h h1) (hs : ∀ b ∈ fs, b ∈ fs') (hx : ∀ b ∈ ex, b ∈ ex') : Un fs' ex' H H1 h h1 :=
 ⟨fun b ob q n hb he => u.keep b ob q n (fun z => hb (hs b z)) fun z => he (hx b z), fun _ _ q n _ he => u.any q n fun z => he (hx _ z), fun b ob q n he => u.free b ob q n fun z => he (hx b z), fun b ob q he => u.there b ob q fun z => he (hx b z), u.tups, u.frzs, u.tbls⟩
end
def trk (h : Heap) (H : Hp) : List Addr := (List.range h.objs.size).filter fun a => (H a).isSome
def hidT (h : Heap) (H : Hp) : Heap := W.hideAll h (trk h H)
theorem hidT_size (h : Heap) (H : Hp) : (hidT h H).objs.size = h.objs.size := W.hideAll_size _ _
theorem hidT_get {h : Heap} {H : Hp} {b : Addr} {o : Obj} (e : h.get? b = some o) (n : H b = none) : (hidT h H).get? b = some o :=
 W.hideAll_get _ e fun hm => by
  have q : (H b).isSome = true := (List.mem_filter.mp hm).2
  rw [n] at q; simp at q
theorem of_hidT {h : Heap} {H : Hp} {b : Addr} {o : Obj} (e : (hidT h H).get? b = some o) : h.get? b = some o /\ H b = none := by
 have e' : h.get? b = some o := W.of_hideAll (trk h H) e
 refine ⟨e', ?_⟩
 cases q : H b with
 | none => rfl
 | some x =>
  have hm : b ∈ trk h H := List.mem_filter.mpr ⟨List.mem_range.mpr (Heap.lt_size e'), by simp [q]⟩
  have z : (hidT h H).get? b = none := W.hideAll_none (trk h H) hm
  rw [z] at e; cases e
def allNews (g h : Heap) (L : Addr) : List (Addr × Obj) := (List.range h.objs.size).filterMap fun a => if a = L \/ (g.get? a).isSome = true then none else (h.get? a).map fun o => (a, o)
def rest (g h : Heap) (L d : Addr) : List (Addr × Obj) := (allNews g h L).filter fun p => decide (p.1 ≠ d)
end
section
structure Mod (K : W.Frag) (mg : Str -> Option Value) (base : Heap) : Prop where
 kin : K.In base
 glob : base.Ns mainGlobals mg
 blt : ∃ mb, base.Ns builtinsNs mb /\ ∀ x : Str, x ≠ "__name__" -> mb x = bootBuiltins x
 nolimit : base.NoLimit
structure Cx where
 prog : Program
 w : World
 K : W.Frag
 mg : Str -> Option Value
 base : Heap
 A : Around
 N : List Str
 s₀ : Shared
 H₀ : Hp
 env : Env
 outer : List Env
 stack : List Env
 ex : List Addr
 fn : Str -> Bool
 calm : Bool
 pn : List (Addr × Obj)
 xe : Value -> Shared -> Prop
def frs (l : List Env) : List Addr := l.filterMap (·.frame)
abbrev Cx.fs (X : Cx) : List Addr := frs X.outer
def Vis (sc : Scope) (x : Str) : Prop := sc.names.lookup x = some .local \/ sc.names.lookup x = some .cell \/ sc.names.lookup x = some .free
def Loc (sc : Scope) (x : Str) : Prop := sc.names.lookup x = some .local \/ sc.names.lookup x = some .cell
def Look (env : Env) (h : Heap) (m : Str -> Option Value) (x : Str) (u : Value) : Prop :=
 (env.kindOf x = some .local /\ m x = some u) \/ ((env.kindOf x = some .cell \/ env.kindOf x = some .free) /\ ∃ c, env.cells.lookup x = some c /\ h.IsCell c (some u))
structure Cx.Ok (X : Cx) : Prop where
 mod : Mod X.K X.mg X.base
 kind : X.env.scope.kind = .function
 glob : X.env.globals = mainGlobals
 blt : X.env.builtins = builtinsNs
 above : X.s₀.heap.objs.size <= X.env.locals
 inj : ∀ x y c, X.env.cells.lookup x = some c -> X.env.cells.lookup y = some c -> x = y
 has : ∀ x, (X.env.kindOf x = some .cell \/ X.env.kindOf x = some .free) -> ∃ c, X.env.cells.lookup x = some c
 cab : ∀ x c, X.fn x = true -> X.env.cells.lookup x = some c -> X.s₀.heap.objs.size <= c
 hd : X.calm = true -> X.A.handled = none
 frames : X.A.frames = some X.stack
 stk : X.stack = X.outer \/ (X.stack = X.env :: X.outer /\ X.env.frame = some X.env.locals)
 exf : ∀ b ∈ X.ex, b ≠ X.env.locals /\ ∀ x c, X.env.cells.lookup x = some c -> c ≠ b
 bs : ∀ b o, X.base.get? b = some o -> X.s₀.heap.get? b = some o /\ X.H₀ b = none
 bsz : X.base.objs.size <= X.s₀.heap.objs.size
 noex : ∀ b o, X.base.get? b = some o -> b ∉ X.ex
 exfs : ∀ b ∈ X.ex, b ∉ X.fs
 funs : X.s₀.heap.FunFrames X.base X.outer
 frf : ∀ b ∈ X.fs, X.H₀ b = none
structure Inv (X : Cx) (pins : List (Addr × Obj)) (σ : List (Option V)) (H : Hp) (s : Shared) : Prop where
 ok : X.Ok
 os : s.os = X.s₀.os
 bare : AllBare s.gens
 base : Un X.fs X.ex X.H₀ H X.s₀.heap s.heap
 loc : ∃ m, s.heap.Ns X.env.locals m /\ ∀ (i : Nat) (x : Str) (v : V), X.N[i]? = some x -> σ[i]? = some (some v) -> Vis X.env.scope x -> ∃ u, RelV v u /\ Look X.env s.heap m x u
 cell : ∀ x c, X.env.cells.lookup x = some c -> ∃ v, s.heap.IsCell c v
 free : H X.env.locals = none
 freeC : ∀ x c, X.env.cells.lookup x = some c -> H c = none
 pin : ∀ p ∈ X.pn ++ pins, s.heap.get? p.1 = some p.2 /\ H p.1 = none /\ p.1 ≠ X.env.locals /\ p.1 ∉ X.fs /\ ∀ v, p.2.data ≠ .cell v
 hok : HOk X.prog X.w H s.heap
 len : σ.length = X.N.length
section
variable {X : Cx} {pins : List (Addr × Obj)} {σ : List (Option V)} {H H' : Hp} {s : Shared} {h' : Heap}
theorem Cx.Ok.nofr (ok : X.Ok) {b : Addr} {o : Obj} (e : X.base.get? b = some o) : b ∉ X.fs := fun hb => by
 have := (ok.funs.mem hb).1
 rw [e] at this; cases this
theorem Inv.bs (I : Inv X pins σ H s) : ∀ b o, X.base.get? b = some o -> s.heap.get? b = some o /\ H b = none := fun b o e =>
 ⟨I.base.keep b o (I.ok.bs b o e).1 (I.ok.bs b o e).2 (I.ok.nofr e) (I.ok.noex b o e), I.base.free b o (I.ok.bs b o e).1 (I.ok.bs b o e).2 (I.ok.noex b o e)⟩
theorem Inv.bk (I : Inv X pins σ H s) : ∀ b o, X.base.get? b = some o -> s.heap.get? b = some o := fun b o e => (I.bs b o e).1
theorem Inv.mod (I : Inv X pins σ H s) : Mod X.K X.mg X.base := I.ok.mod
theorem Inv.kIn (I : Inv X pins σ H s) : X.K.In s.heap := I.ok.mod.kin.keeps I.bk
theorem Inv.nolimit (I : Inv X pins σ H s) : s.heap.NoLimit := I.ok.mod.nolimit.keeps I.bk
theorem Inv.fr (I : Inv X pins σ H s) : ∃ m, Fr X.base X.env.locals s.heap m :=
 let ⟨m, hn, _⟩ := I.loc
 ⟨m, hn, I.bk, Nat.le_trans I.ok.bsz I.ok.above⟩
theorem Inv.lt (I : Inv X pins σ H s) : X.env.locals < s.heap.objs.size := let ⟨_, hn, _⟩ := I.loc; hn.lt
theorem Inv.sz (I : Inv X pins σ H s) : X.s₀.heap.objs.size <= s.heap.objs.size := Nat.le_trans I.ok.above (Nat.le_of_lt I.lt)
theorem Inv.nofs (I : Inv X pins σ H s) {a : Addr} (h : s.heap.objs.size <= a) : a ∉ X.fs := fun hb => by
 obtain ⟨_, o, ho, _⟩ := I.ok.funs.mem hb
 exact absurd (Nat.lt_of_lt_of_le (Heap.lt_size ho) (Nat.le_trans I.sz h)) (Nat.lt_irrefl _)
theorem Inv.cne (I : Inv X pins σ H s) : ∀ x c, X.env.cells.lookup x = some c -> c ≠ X.env.locals := fun x c e z => by
 obtain ⟨v, o, ho, hd⟩ := I.cell x c e
 obtain ⟨m, ⟨o', es, ep, ho', hd', _⟩, _⟩ := I.loc
 rw [z, ho'] at ho; cases ho; rw [hd'] at hd; cases hd
theorem Inv.funs (I : Inv X pins σ H s) : s.heap.FunFrames X.base X.outer := by
 have all : ∀ (l : List Env), (∀ b ∈ frs l, b ∈ X.fs) -> X.s₀.heap.FunFrames X.base l -> s.heap.FunFrames X.base l := by
  intro l
  induction l with
  | nil => intro _ _; trivial
  | cons env r ih =>
   intro hs hl
   obtain ⟨hk, ⟨L, o, hf, hn, ho, hd⟩, hr⟩ := hl
   have hL : L ∈ X.fs := hs L (by unfold frs; rw [filterMap_cons, hf]; exact mem_cons_self)
   obtain ⟨sl, e⟩ := I.base.slot L o ho (I.ok.frf L hL) hL fun z => I.ok.exfs L z hL
   exact ⟨hk, ⟨L, _, hf, hn, e, hd⟩, ih (fun b hb => hs b (by unfold frs; rw [filterMap_cons, hf]; exact mem_cons_of_mem _ hb)) hr⟩
 exact all X.outer (fun _ hb => hb) I.ok.funs
theorem Inv.stack (I : Inv X pins σ H s) : s.heap.FunFrames X.base X.stack := by
 rcases I.ok.stk with e | ⟨e, hf⟩
 ·rw [e]; exact I.funs
 ·rw [e]
  obtain ⟨m, hn, _⟩ := I.loc
  refine .cons (by rw [I.ok.kind]; decide) hf hn ?_ I.funs
  exact Heap.get?_none_of_le (Nat.le_trans I.ok.bsz I.ok.above)
theorem Inv.stkSub (I : Inv X pins σ H s) : ∀ b ∈ frs X.stack, b ∈ X.env.locals :: X.fs := fun b hb => by
 rcases I.ok.stk with e | ⟨e, hf⟩
 ·rw [e] at hb; exact mem_cons_of_mem _ hb
 ·rw [e] at hb
  unfold frs at hb
  rw [filterMap_cons, hf] at hb
  exact hb
theorem Inv.stkFree (I : Inv X pins σ H s) : ∀ b ∈ frs X.stack, H b = none := fun b hb => by
 rcases List.mem_cons.mp (I.stkSub b hb) with e | hb
 ·rw [e]; exact I.free
 ·obtain ⟨_, o, ho, _⟩ := I.ok.funs.mem hb
  exact I.base.free b o ho (I.ok.frf b hb) fun z => I.ok.exfs b z hb
theorem Inv.step {g' : Array GenState} {t' : Nat} {d' : Drawn} {ch : List Addr} (I : Inv X pins σ H s)
  (hch : ∀ b ∈ ch, (b ∈ X.ex \/ X.s₀.heap.objs.size <= b) /\ b ≠ X.env.locals /\ (∀ x c, X.env.cells.lookup x = some c -> c ≠ b) /\ ∀ p ∈ X.pn ++ pins, p.1 ≠ b)
  (keep : ∀ b o, b ≠ X.env.locals -> b ∉ X.fs -> b ∉ ch -> s.heap.get? b = some o -> H b = none -> h'.get? b = some o)
  (slot : ∀ b o, b ≠ X.env.locals -> b ∈ X.fs -> b ∉ ch -> s.heap.get? b = some o -> H b = none -> ∃ sl, h'.get? b = some { o with slots := sl }) (free : ∀ b o, b ∉ ch -> s.heap.get? b = some o -> H b = none -> H' b = none)
  (there : ∀ b o, b ∉ ch -> s.heap.get? b = some o -> ∃ o', h'.get? b = some o')
  (tups : ∀ b xs, H b = some (.tup xs) -> H' b = some (.tup xs)) (frzs : ∀ b o u, H b = some (.frz o u) -> H' b = some (.frz o u)) (tbls : ∀ b ps, H b = some (.tbl ps) -> ∃ more, H' b = some (.tbl (ps ++ more)))
  (ns : ∀ m, s.heap.Ns X.env.locals m -> h'.Ns X.env.locals m) (hok : HOk X.prog X.w H' h') (hg : AllBare g') :
  Inv X pins σ H' { s with heap := h', gens := g', drawn := d', toks := t' } := by
 have neL : ∀ b o, X.s₀.heap.get? b = some o -> b ≠ X.env.locals := fun b o e => Nat.ne_of_lt (Nat.lt_of_lt_of_le (Heap.lt_size e) I.ok.above)
 have neC : ∀ b o, X.s₀.heap.get? b = some o -> b ∉ X.ex -> b ∉ ch := fun b o e hx hb => by
  rcases (hch b hb).1 with z | z
  ·exact hx z
  ·exact absurd (Nat.lt_of_lt_of_le (Heap.lt_size e) z) (Nat.lt_irrefl _)
 have cellK : ∀ x c, X.env.cells.lookup x = some c -> ∀ v, s.heap.IsCell c v -> h'.IsCell c v := fun x c e v hpat => by
  obtain ⟨o, ho, hd⟩ := hpat
  have nch : c ∉ ch := fun z => (hch c z).2.2.1 x c e rfl
  by_cases hc : c ∈ X.fs
  ·obtain ⟨sl, q⟩ := slot c o (I.cne x c e) hc nch ho (I.freeC x c e)
   exact ⟨_, q, hd⟩
  ·exact ⟨o, keep c o (I.cne x c e) hc nch ho (I.freeC x c e), hd⟩
 refine ⟨I.ok, I.os, hg, ⟨fun b o e n hb hx => ?_, fun b o e n hb hx => ?_, fun b o e n hx => ?_, fun b o e hx => ?_, fun b xs e => tups b xs (I.base.tups b xs e), fun b o xs e => frzs b o xs (I.base.frzs b o xs e), fun b ps e => ?_⟩, ?_, fun x c e => ?_, ?_, fun x c e => ?_, fun p hp => ?_, hok, I.len⟩
 ·exact keep b o (neL b o e) hb (neC b o e hx) (I.base.keep b o e n hb hx) (I.base.free b o e n hx)
 ·obtain ⟨sl, e1⟩ := I.base.slot b o e n hb hx
  obtain ⟨sl', e2⟩ := slot b _ (neL b o e) hb (neC b o e hx) e1 (I.base.free b o e n hx)
  exact ⟨sl', e2⟩
 ·obtain ⟨o', e1⟩ := I.base.there b o e hx
  exact free b o' (neC b o e hx) e1 (I.base.free b o e n hx)
 ·obtain ⟨o', e1⟩ := I.base.there b o e hx
  exact there b o' (neC b o e hx) e1
 ·obtain ⟨m1, e1⟩ := I.base.tbls b ps e
  obtain ⟨m2, e2⟩ := tbls b _ e1
  exact ⟨m1 ++ m2, by rw [e2, Array.append_assoc]⟩
 ·obtain ⟨m, hn, hl⟩ := I.loc
  refine ⟨m, ns m hn, fun i x v e1 e2 e3 => ?_⟩
  obtain ⟨u, r, l⟩ := hl i x v e1 e2 e3
  refine ⟨u, r, ?_⟩
  rcases l with l | ⟨k, c, e, z⟩
  ·exact .inl l
  ·exact .inr ⟨k, c, e, cellK x c e _ z⟩
 ·obtain ⟨v, z⟩ := I.cell x c e
  exact ⟨v, cellK x c e v z⟩
 ·obtain ⟨m, ⟨o, _, _, ho, _⟩, _⟩ := I.loc
  exact free _ o (fun z => (hch _ z).2.1 rfl) ho I.free
 ·obtain ⟨v, o, ho, hd⟩ := I.cell x c e
  exact free c o (fun z => (hch c z).2.2.1 x c e rfl) ho (I.freeC x c e)
 ·obtain ⟨e, n, ne, nf, d⟩ := I.pin p hp
  have nch : p.1 ∉ ch := fun z => (hch p.1 z).2.2.2 p hp rfl
  exact ⟨keep p.1 p.2 ne nf nch e n, free p.1 p.2 nch e n, ne, nf, d⟩
theorem Inv.un {t' : Nat} (I : Inv X pins σ H s) (u : Un X.fs [] H H' s.heap h') (hok : HOk X.prog X.w H' h') : Inv X pins σ H' { s with heap := h', toks := t' } := by
 obtain ⟨m, ⟨o, es, ep, ho, r⟩, _⟩ := id I.loc
 obtain ⟨sl, hL⟩ := u.any ho I.free (by simp)
 exact I.step (g' := s.gens) (d' := s.drawn) (ch := []) (fun _ z => nomatch z) (fun b o _ hb _ e n => u.keep b o e n hb (by simp)) (fun b o _ hb _ e n => u.slot b o e n hb (by simp)) (fun b o _ e n => u.free b o e n (by simp)) (fun b o _ e => u.there b o e (by simp)) u.tups u.frzs u.tbls (fun m' hm => by
  obtain ⟨o', es', ep', ho', r'⟩ := hm
  rw [ho] at ho'; cases ho'
  exact ⟨_, es', ep', hL, r'⟩) hok I.bare
theorem Inv.call {g' : Array GenState} {t' : Nat} {d' : Drawn} {ch : List Addr} (I : Inv X pins σ H s) (u : Un (frs X.stack) ch H H' s.heap h') (hok : HOk X.prog X.w H' h') (hg : AllBare g')
  (hch : ∀ b ∈ ch, (b ∈ X.ex \/ X.s₀.heap.objs.size <= b) /\ b ≠ X.env.locals /\ (∀ x c, X.env.cells.lookup x = some c -> c ≠ b) /\ ∀ p ∈ X.pn ++ pins, p.1 ≠ b) :
  Inv X pins σ H' { s with heap := h', gens := g', drawn := d', toks := t' } := by
 obtain ⟨m, ⟨o, es, ep, ho, r⟩, _⟩ := id I.loc
 obtain ⟨sl, hL⟩ := u.any ho I.free fun z => (hch _ z).2.1 rfl
 exact I.step (ch := ch) hch (fun b o hL hb hc e n => u.keep b o e n (fun z => (List.mem_cons.mp (I.stkSub b z)).elim hL hb) hc) (fun b o _ _ hc e n => u.any e n hc) (fun b o hc e n => u.free b o e n hc) (fun b o hc e => u.there b o e hc) u.tups u.frzs u.tbls (fun m' hm => by
  obtain ⟨o', es', ep', ho', r'⟩ := hm
  rw [ho] at ho'; cases ho'
  exact ⟨_, es', ep', hL, r'⟩) hok hg
theorem Inv.turned {t' : Nat} {it : Addr} (I : Inv X pins σ H s) (k : ∀ b o, b ≠ it -> s.heap.get? b = some o -> h'.get? b = some o) (hn : H it = none) (hL : it ≠ X.env.locals)
  (h1 : it ∈ X.ex \/ X.s₀.heap.objs.size <= it) (h2 : ∀ x c, X.env.cells.lookup x = some c -> c ≠ it) (h3 : ∀ p ∈ X.pn ++ pins, p.1 ≠ it) : Inv X pins σ H { s with heap := h', toks := t' } := by
 have nit : ∀ b u, H b = some u -> b ≠ it := fun b u e z => by rw [z, hn] at e; cases e
 refine I.step (g' := s.gens) (d' := s.drawn) (ch := [it]) (fun b hb => ?_) (fun b o _ _ hc e _ => k b o (fun z => hc (by simp [z])) e) (fun b o _ _ hc e _ => ⟨o.slots, k b o (fun z => hc (by simp [z])) e⟩) (fun _ _ _ _ n => n)
  (fun b o hc e => ⟨o, k b o (fun z => hc (by simp [z])) e⟩) (fun _ _ e => e) (fun _ _ _ e => e) (fun b ps e => ⟨#[], by rw [e]; simp⟩) (fun m hm => ?_) (fun b u e => ?_) I.bare
 ·have e : b = it := by simpa using hb
  subst e
  exact ⟨h1, hL, h2, h3⟩
 ·obtain ⟨o, es, ep, ho, r⟩ := hm
  exact ⟨o, es, ep, k _ o (Ne.symm hL) ho, r⟩
 ·refine (I.hok b u e).stay (fun c v hc q => k c v ?_ q) (fun _ q => q) fun _ _ q => q
  rcases hc with z | z
  ·rw [z]; exact nit b u e
  ·exact nit c _ z
theorem Inv.tok (I : Inv X pins σ H s) (t : Nat) : Inv X pins σ H { s with toks := t } := I.un (h' := s.heap) (t' := t) Un.refl I.hok
theorem Inv.kept {t' : Nat} (I : Inv X pins σ H s) (k : ∀ b u, s.heap.get? b = some u -> h'.get? b = some u) : Inv X pins σ H { s with heap := h', toks := t' } := I.un (Un.kept k) (I.hok.kept k)
theorem Inv.laid {a : Addr} {o : HO} {t' : Nat} (I : Inv X pins σ H s) (k : ∀ b u, s.heap.get? b = some u -> h'.get? b = some u) (hp : s.heap.objs.size <= a) (new : ObjOk X.prog X.w (upd H a o) h' a o) :
  Inv X pins σ (upd H a o) { s with heap := h', toks := t' } := I.un (Un.laid k hp (I.hok.fresh hp)) (I.hok.laid k hp new)
theorem Inv.write {x e : Addr} {o : HO} {t' : Nat} (I : Inv X pins σ H s) (mu : Mut (H x)) (he : e = x \/ H e = some (.own x)) (k : ∀ b u, b ≠ e -> s.heap.get? b = some u -> h'.get? b = some u) (heo : ∃ u, h'.get? e = some u)
  (new : ObjOk X.prog X.w (upd H x o) h' x o) : Inv X pins σ (upd H x o) { s with heap := h', toks := t' } := I.un (Un.write mu he k heo) (I.hok.write mu he k heo new)
theorem Inv.pins_of {pins' : List (Addr × Obj)} (I : Inv X pins σ H s) (h : ∀ p ∈ pins', s.heap.get? p.1 = some p.2 /\ H p.1 = none /\ p.1 ≠ X.env.locals /\ p.1 ∉ X.fs /\ ∀ v, p.2.data ≠ .cell v) : Inv X pins' σ H s :=
 ⟨I.ok, I.os, I.bare, I.base, I.loc, I.cell, I.free, I.freeC, fun p hp => (List.mem_append.mp hp).elim (fun z => I.pin p (mem_append_left _ z)) (h p), I.hok, I.len⟩
theorem nodup_ix {N : List Str} (hN : N.Nodup) {i j : Nat} {x : Str} (a : N[i]? = some x) (b : N[j]? = some x) : i = j := by
 obtain ⟨h1, e1⟩ := List.getElem?_eq_some_iff.mp a
 obtain ⟨h2, e2⟩ := List.getElem?_eq_some_iff.mp b
 exact (getElem_inj hN).mp (e1.trans e2.symm)
theorem store_ok2 {M : Model} {A : Around} {E : Value -> Shared -> Prop} {i : Nat} {x : Str} {v : V} {u : Value} {Q : Unit -> Shared -> Prop} (I : Inv X pins σ H s) (hN : X.N.Nodup) (hi : X.N[i]? = some x) (hx : Loc X.env.scope x) (r : RelV v u)
  (h : ∀ s', Inv X pins (σ.set i (some v)) H s' -> (∃ a, Heap.SameBut a s.heap s'.heap /\ (a = X.env.locals \/ X.env.cells.lookup x = some a)) -> Q () s') (hf : X.fn x = true \/ X.env.scope.names.lookup x = some .local := by first | exact .inl rfl | exact .inr rfl | assumption) : wpAny M A (storeName X.env x u) Q E s := by
 obtain ⟨m, hn, hl⟩ := id I.loc
 have hcls : (X.env.scope.kind == .class || (X.env.scope.kind == .module && X.env.locals != X.env.globals)) = false := by rw [I.ok.kind]; rfl
 have hiσ : i < σ.length := by rw [I.len]; exact (List.getElem?_eq_some_iff.mp hi).1
 have cne := I.cne
 have tracked : ∀ {a : Addr} {h' : Heap}, (∃ o, s.heap.get? a = some o /\ H a = none) -> Heap.SameBut a s.heap h' -> HOk X.prog X.w H h' := fun {a h'} ha hs b ob e => by
  obtain ⟨_, _, hfree⟩ := ha
  refine (I.hok b ob e).stay (fun c w' hc q => (hs.2 c ?_).trans q) (fun _ q => q) fun _ _ q => q
  rintro rfl
  rcases hc with rfl | hc
  ·rw [hfree] at e; cases e
  ·rw [hfree] at hc; cases hc
 rcases hx with hk | hk
 ·refine wpAny_storeName_local hk hn (fun h' hn' hs => ?_) hcls
  obtain ⟨oL, _, _, hoL, _⟩ := id hn
  refine h _ ⟨I.ok, I.os, I.bare, ⟨fun b o e n hb hx => ?_, fun b o e n hb hx => ?_, I.base.free, fun b o e hx => ?_, I.base.tups, I.base.frzs, I.base.tbls⟩, ⟨_, hn', fun j y v' e1 e2 e3 => ?_⟩, fun y c e => ?_, I.free, I.freeC, fun p hp => ?_, tracked ⟨oL, hoL, I.free⟩ hs, by simpa using I.len⟩ ⟨_, hs, .inl rfl⟩
  ·exact (hs.2 b (Nat.ne_of_lt (Nat.lt_of_lt_of_le (Heap.lt_size e) I.ok.above))).trans (I.base.keep b o e n hb hx)
  ·obtain ⟨sl, e1⟩ := I.base.slot b o e n hb hx
   exact ⟨sl, (hs.2 b (Nat.ne_of_lt (Nat.lt_of_lt_of_le (Heap.lt_size e) I.ok.above))).trans e1⟩
  ·obtain ⟨o', e1⟩ := I.base.there b o e hx
   exact ⟨o', (hs.2 b (Nat.ne_of_lt (Nat.lt_of_lt_of_le (Heap.lt_size e) I.ok.above))).trans e1⟩
  ·by_cases hj : j = i
   ·subst hj
    rw [hi] at e1; cases e1
    rw [getElem?_set_self hiσ] at e2
    cases e2
    exact ⟨u, r, .inl ⟨hk, by simp⟩⟩
   ·rw [getElem?_set_ne (Ne.symm hj)] at e2
    obtain ⟨u', r', q⟩ := hl j y v' e1 e2 e3
    refine ⟨u', r', ?_⟩
    rcases q with ⟨k, e⟩ | ⟨k, c, e, z⟩
    ·refine .inl ⟨k, ?_⟩
     have : y ≠ x := fun e => hj (nodup_ix hN e1 (e ▸ hi))
     simp [this, e]
    ·exact .inr ⟨k, c, e, z.sameBut hs (cne y c e)⟩
  ·obtain ⟨w', z⟩ := I.cell y c e
   exact ⟨w', z.sameBut hs (cne y c e)⟩
  ·obtain ⟨e, n, ne, nf, d⟩ := I.pin p hp
   exact ⟨(hs.2 p.1 ne).trans e, n, ne, nf, d⟩
 ·have hfn : X.fn x = true := by
   rcases hf with z | z
   ·exact z
   ·rw [z] at hk; cases hk
  obtain ⟨c, hc⟩ := I.ok.has x (.inl hk)
  obtain ⟨w', z⟩ := I.cell x c hc
  refine wpAny_storeName_cell I.ok.kind hk hc z (fun h' hc' hs => ?_)
  obtain ⟨oc, hoc, hocd⟩ := id z
  refine h { s with heap := h' } ⟨I.ok, I.os, I.bare, ⟨fun b o e n hb hx => ?_, fun b o e n hb hx => ?_, I.base.free, fun b o e hx => ?_, I.base.tups, I.base.frzs, I.base.tbls⟩, ⟨m, hn.sameBut hs (Ne.symm (cne x c hc)), fun j y v' e1 e2 e3 => ?_⟩, fun y c' e => ?_, I.free, I.freeC, fun p hp => ?_, tracked ⟨oc, hoc, I.freeC x c hc⟩ hs, by simpa using I.len⟩ ⟨c, hs, .inr hc⟩
  ·exact (hs.2 b (Nat.ne_of_lt (Nat.lt_of_lt_of_le (Heap.lt_size e) (I.ok.cab x c hfn hc)))).trans (I.base.keep b o e n hb hx)
  ·obtain ⟨sl, e1⟩ := I.base.slot b o e n hb hx
   exact ⟨sl, (hs.2 b (Nat.ne_of_lt (Nat.lt_of_lt_of_le (Heap.lt_size e) (I.ok.cab x c hfn hc)))).trans e1⟩
  ·obtain ⟨o', e1⟩ := I.base.there b o e hx
   exact ⟨o', (hs.2 b (Nat.ne_of_lt (Nat.lt_of_lt_of_le (Heap.lt_size e) (I.ok.cab x c hfn hc)))).trans e1⟩
  ·by_cases hj : j = i
   ·subst hj
    rw [hi] at e1; cases e1
    rw [getElem?_set_self hiσ] at e2
    cases e2
    exact ⟨u, r, .inr ⟨.inl hk, c, hc, hc'⟩⟩
   ·rw [getElem?_set_ne (Ne.symm hj)] at e2
    obtain ⟨u', r', q⟩ := hl j y v' e1 e2 e3
    refine ⟨u', r', ?_⟩
    rcases q with q | ⟨k, c', e, z'⟩
    ·exact .inl q
    ·refine .inr ⟨k, c', e, z'.sameBut hs ?_⟩
     rintro rfl
     exact hj (nodup_ix hN e1 (I.ok.inj _ _ _ e hc ▸ hi))
  ·by_cases hcc : c' = c
   ·subst hcc; exact ⟨_, hc'⟩
   ·obtain ⟨w2, z2⟩ := I.cell y c' e
    exact ⟨w2, z2.sameBut hs hcc⟩
  ·obtain ⟨e, n, ne, nf, d⟩ := I.pin p hp
   refine ⟨(hs.2 p.1 ?_).trans e, n, ne, nf, d⟩
   intro q
   rw [q, hoc] at e
   have q' : oc = p.2 := Option.some.inj e
   exact d w' (by rw [<- q']; exact hocd)
theorem store_ok {M : Model} {A : Around} {E : Value -> Shared -> Prop} {i : Nat} {x : Str} {v : V} {u : Value} {Q : Unit -> Shared -> Prop} (I : Inv X pins σ H s) (hN : X.N.Nodup) (hi : X.N[i]? = some x) (hx : Loc X.env.scope x) (r : RelV v u)
  (h : ∀ s', Inv X pins (σ.set i (some v)) H s' -> Q () s') (hf : X.fn x = true \/ X.env.scope.names.lookup x = some .local := by first | exact .inl rfl | exact .inr rfl | assumption) : wpAny M A (storeName X.env x u) Q E s :=
 store_ok2 I hN hi hx r (fun s' I' _ => h s' I') hf
theorem Inv.call' {s' : Shared} {ch : List Addr} (I : Inv X pins σ H s) (ho : s'.os = s.os) (u : Un (frs X.stack) ch H H' s.heap s'.heap) (hok : HOk X.prog X.w H' s'.heap) (hg : AllBare s'.gens)
  (hch : ∀ b ∈ ch, (b ∈ X.ex \/ X.s₀.heap.objs.size <= b) /\ b ≠ X.env.locals /\ (∀ x c, X.env.cells.lookup x = some c -> c ≠ b) /\ ∀ p ∈ X.pn ++ pins, p.1 ≠ b) : Inv X pins σ H' s' := by
 obtain ⟨h', g', d', t', o'⟩ := s'
 have e : o' = s.os := ho
 subst e
 exact I.call (g' := g') (t' := t') (d' := d') u hok hg hch
end
abbrev XK := Value -> Option Addr -> Hp -> Prop
abbrev St := List (Option V)
abbrev VK := V -> Hp -> Prop
abbrev TE := St -> Hp -> VK -> Prop
abbrev TT := St -> Hp -> (Bool -> Hp -> Prop) -> Prop
abbrev TA := St -> Hp -> (List V -> Hp -> Prop) -> Prop
structure Ends where
 nx : St -> Hp -> Prop
 rt : VK
 bk : St -> Hp -> Prop := fun _ _ => False
 ct : St -> Hp -> Prop := fun _ _ => False
abbrev TS := Ends -> St -> Hp -> Prop
def EP (X : Cx) (pins : List (Addr × Obj)) (σ : St) (Q : VK) (u : Value) (s' : Shared) : Prop := ∃ v H', Inv X pins σ H' s' /\ RelV v u /\ Q v H'
def TP (X : Cx) (pins : List (Addr × Obj)) (σ : St) (Q : Bool -> Hp -> Prop) (b : Bool) (s' : Shared) : Prop := ∃ H', Inv X pins σ H' s' /\ Q b H'
def AP (X : Cx) (pins : List (Addr × Obj)) (σ : St) (Q : List V -> Hp -> Prop) (us : List Value) (s' : Shared) : Prop := ∃ vs H', Inv X pins σ H' s' /\ Vals vs us /\ Q vs H'
def SP (X : Cx) (pins : List (Addr × Obj)) (D : Ends) (f : Flow) (s' : Shared) : Prop :=
 match f with
 | .next => ∃ σ' H', Inv X pins σ' H' s' /\ D.nx σ' H'
 | .brk => ∃ σ' H', Inv X pins σ' H' s' /\ D.bk σ' H'
 | .cont => ∃ σ' H', Inv X pins σ' H' s' /\ D.ct σ' H'
 | .ret u => ∃ v σ' H', Inv X pins σ' H' s' /\ RelV v u /\ D.rt v H'
def PE (X : Cx) (e : Expr) (t : TE) : Prop :=
 ∀ (pins : List (Addr × Obj)) (s : Shared) (σ : St) (H : Hp) (Q : VK), Inv X pins σ H s -> t σ H Q -> wpAny (model X.prog X.w) X.A (eval e X.env) (EP X pins σ Q) X.xe s
def PT (X : Cx) (e : Expr) (t : TT) : Prop :=
 ∀ (pins : List (Addr × Obj)) (s : Shared) (σ : St) (H : Hp) (Q : Bool -> Hp -> Prop), Inv X pins σ H s -> t σ H Q -> wpAny (model X.prog X.w) X.A (isTrue e X.env (eval e X.env)) (TP X pins σ Q) X.xe s
def PW (X : Cx) (e : Expr) (t : TT) : Prop :=
 ∀ (whole : Sem Value) (pins : List (Addr × Obj)) (s : Shared) (σ : St) (H : Hp) (Q : Bool -> Hp -> Prop), Inv X pins σ H s -> t σ H Q -> wpAny (model X.prog X.w) X.A (isTrue e X.env whole) (TP X pins σ Q) X.xe s
theorem PW.pt {X : Cx} {e : Expr} {t : TT} (h : PW X e t) : PT X e t := h _
def PA (X : Cx) (es : List Expr) (t : TA) : Prop :=
 ∀ (pos : Pos) (pins : List (Addr × Obj)) (s : Shared) (σ : St) (H : Hp) (Q : List V -> Hp -> Prop), Inv X pins σ H s -> t σ H Q -> wpAny (model X.prog X.w) X.A (spliced (backTo pos (starEach es X.env))) (AP X pins σ Q) X.xe s
def PS (X : Cx) (st : Stmt) (t : TS) : Prop :=
 ∀ (pins : List (Addr × Obj)) (s : Shared) (σ : St) (H : Hp) (D : Ends), Inv X pins σ H s -> t D σ H -> wpAny (model X.prog X.w) X.A (exec st X.env) (SP X pins D) X.xe s
def PSs (X : Cx) (st : List Stmt) (t : TS) : Prop :=
 ∀ (pins : List (Addr × Obj)) (s : Shared) (σ : St) (H : Hp) (D : Ends), Inv X pins σ H s -> t D σ H -> wpAny (model X.prog X.w) X.A (execs st X.env) (SP X pins D) X.xe s
theorem thn {α : Type} {t : Sem α} {Q Q' : α -> Shared -> Prop} {M : Model} {A : Around} {E : Value -> Shared -> Prop} {s : Shared} (h : wpAny M A t Q E s) (hQ : ∀ a s, Q a s -> Q' a s) : wpAny M A t Q' E s := wpAny_mono h hQ fun _ _ x => x
end
section
section
variable {X : Cx}
def tVar (i : Nat) : TE := fun σ H Q => ∃ v, σ[i]? = some (some v) /\ Q v H
def tC (v : V) : TE := fun _ H Q => Q v H
theorem pe_var {i : Nat} {x : Str} {pos : Pos} (hN : X.N[i]? = some x) (hv : Vis X.env.scope x) (hd : (x == ("__debug__" : Str)) = false := by decide) (hcd : (x == ("__classdict__" : Str)) = false := by decide) : PE X (.Name x pos) (tVar i) := by
 intro pins s σ H Q I h
 obtain ⟨v, e, h⟩ := h
 obtain ⟨m, hn, hl⟩ := I.loc
 obtain ⟨u, r, l⟩ := hl i x v hN e hv
 have fin : EP X pins σ Q u s := ⟨v, H, I, r, h⟩
 rcases l with ⟨hk, hm⟩ | ⟨hk, c, hc, hcell⟩
 ·exact wpAny_Name (wpAny_loadName_local I.ok.kind hk hn hm fin) hd
 ·rcases hk with hk | hk
  ·exact wpAny_Name (wpAny_loadName_cell I.ok.kind hk hc hcell fin) hd
  ·exact wpAny_Name (wpAny_loadName_free I.ok.kind hk hc hcell fin hcd) hd
theorem pe_int {i j pos} : PE X (.Constant (.int i) j pos) (tC (.int i)) := fun _ _ _ H _ I h => wpAny_Constant_int ⟨.int i, H, I.tok _, ⟨_, rfl⟩, h⟩
theorem pe_bl {b j pos} : PE X (.Constant (.bool b) j pos) (tC (.bl b)) := fun _ _ _ H _ I h => Constant_bool ⟨.bl b, H, I, rfl, h⟩
def Gl (X : Cx) (x : Str) : Prop := X.env.kindOf x = some .globalImplicit
theorem ld_glob {E : Value -> Shared -> Prop} {pins : List (Addr × Obj)} {s : Shared} {σ : St} {H : Hp} {x : Str} {u : Value} {pos : Pos} {Q : Value -> Shared -> Prop} (I : Inv X pins σ H s) (hg : Gl X x) (hm : X.mg x = some u) (h : Q u s)
  (hd : (x == ("__debug__" : Str)) = false := by decide) : wpAny (model X.prog X.w) X.A (eval (.Name x pos) X.env) Q E s :=
 Calls.Name_function_global I.ok.kind hg (Calls.loadGlobal_global (by rw [I.ok.glob]; exact I.mod.glob.keeps I.bk) hm h) hd
theorem ld_blt {E : Value -> Shared -> Prop} {pins : List (Addr × Obj)} {s : Shared} {σ : St} {H : Hp} {x : Str} {u : Value} {pos : Pos} {Q : Value -> Shared -> Prop} (I : Inv X pins σ H s) (hg : Gl X x) (hm : X.mg x = none) (hv : bootBuiltins x = some u) (h : Q u s)
  (hn : x ≠ "__name__" := by decide) (hd : (x == ("__debug__" : Str)) = false := by decide) : wpAny (model X.prog X.w) X.A (eval (.Name x pos) X.env) Q E s := by
 obtain ⟨mb, h1, h2⟩ := I.mod.blt
 exact Calls.Name_function_global I.ok.kind hg (Calls.loadGlobal_builtin (by rw [I.ok.glob]; exact I.mod.glob.keeps I.bk) hm (by rw [I.ok.blt]; exact h1.keeps I.bk) ((h2 x hn).trans hv) h) hd
theorem pe_glob {x : Str} {v : V} {u : Value} {pos : Pos} (hg : Gl X x) (hm : X.mg x = some u) (r : RelV v u) (hd : (x == ("__debug__" : Str)) = false := by decide) : PE X (.Name x pos) (tC v) :=
 fun _ _ _ H _ I h => ld_glob I hg hm ⟨v, H, I, r, h⟩ hd
theorem pe_bltn {x : Str} {v : V} {u : Value} {pos : Pos} (hg : Gl X x) (hm : X.mg x = none) (hv : bootBuiltins x = some u) (r : RelV v u) (hn : x ≠ "__name__" := by decide) (hd : (x == ("__debug__" : Str)) = false := by decide) : PE X (.Name x pos) (tC v) :=
 fun _ _ _ H _ I h => ld_blt I hg hm hv ⟨v, H, I, r, h⟩ hn hd
variable {a b : Expr} {ta tb : TE} {pos : Pos}
def tB (t : TE) : TT := fun σ H Q => t σ H fun x H1 => ∃ c, x = .bl c /\ Q c H1
variable {tA tB' : TT} {rest : List Expr}
def tAnd (t u : TT) : TT := fun σ H Q => t σ H fun c H1 => if c = true then u σ H1 Q else Q false H1
def tOr (t u : TT) : TT := fun σ H Q => t σ H fun c H1 => if c = true then Q true H1 else u σ H1 Q
def tNot (t : TT) : TT := fun σ H Q => t σ H fun c H1 => Q (!c) H1
theorem pw_and1 (ha : PT X a tA) : PW X (.BoolOp .And [a] pos) tA := by
 intro wh pins s σ H Q I h
 refine isTrue_and (thn (ha pins s σ H Q I h) fun c s1 e => ?_)
 cases c with
 | true => exact isTrue_and_nil e
 | false => exact e
theorem pw_or1 (ha : PT X a tA) : PW X (.BoolOp .Or [a] pos) tA := by
 intro wh pins s σ H Q I h
 refine isTrue_or (thn (ha pins s σ H Q I h) fun c s1 e => ?_)
 cases c with
 | false => exact isTrue_or_nil e
 | true => exact e
theorem pw_and (ha : PT X a tA) (hb : PW X (.BoolOp .And (b :: rest) pos) tB') : PW X (.BoolOp .And (a :: b :: rest) pos) (tAnd tA tB') := by
 intro wh pins s σ H Q I h
 refine isTrue_and (thn (ha pins s σ H _ I h) fun c s1 hpat => ?_)
 obtain ⟨H1, I1, q1⟩ := hpat
 cases c with
 | true => exact hb wh pins s1 σ H1 Q I1 q1
 | false => exact ⟨H1, I1, q1⟩
theorem pw_or (ha : PT X a tA) (hb : PW X (.BoolOp .Or (b :: rest) pos) tB') : PW X (.BoolOp .Or (a :: b :: rest) pos) (tOr tA tB') := by
 intro wh pins s σ H Q I h
 refine isTrue_or (thn (ha pins s σ H _ I h) fun c s1 hpat => ?_)
 obtain ⟨H1, I1, q1⟩ := hpat
 cases c with
 | true => exact ⟨H1, I1, q1⟩
 | false => exact hb wh pins s1 σ H1 Q I1 q1
theorem pt_not (ha : PT X a tA) : PT X (.UnaryOp .Not a pos) (tNot tA) := by
 intro pins s σ H Q I h
 exact isTrue_not (ha pins s σ H (fun c H1 => Q (!c) H1) I h)
def tAndV (ta tb : TE) : TE := fun σ H Q => ta σ H fun x H1 => ∃ c, x = .bl c /\ if c = true then tb σ H1 Q else Q (.bl false) H1
def tOrV (ta tb : TE) : TE := fun σ H Q => ta σ H fun x H1 => ∃ c, x = .bl c /\ if c = true then Q (.bl true) H1 else tb σ H1 Q
theorem pe_one {op} {t : TE} (h : PE X a t) : PE X (.BoolOp op [a] pos) t := fun pins s σ H Q I hw => BoolOp_one (h pins s σ H Q I hw)
theorem pe_and (ha : PE X a ta) (hb : PE X (.BoolOp .And (b :: rest) pos) tb) : PE X (.BoolOp .And (a :: b :: rest) pos) (tAndV ta tb) := by
 intro pins s σ H Q I h
 refine BoolOp_and (thn (ha pins s σ H _ I h) fun v s1 hpat => ?_)
 obtain ⟨x, H1, I1, r1, q1⟩ := hpat
 obtain ⟨c, rfl, q1⟩ := q1
 cases r1
 refine wpAny_truthy_bool ?_
 cases c with
 | true => exact hb pins s1 σ H1 Q I1 q1
 | false => exact ⟨.bl false, H1, I1, rfl, q1⟩
theorem pe_or (ha : PE X a ta) (hb : PE X (.BoolOp .Or (b :: rest) pos) tb) : PE X (.BoolOp .Or (a :: b :: rest) pos) (tOrV ta tb) := by
 intro pins s σ H Q I h
 refine BoolOp_or (thn (ha pins s σ H _ I h) fun v s1 hpat => ?_)
 obtain ⟨x, H1, I1, r1, q1⟩ := hpat
 obtain ⟨c, rfl, q1⟩ := q1
 cases r1
 refine wpAny_truthy_bool ?_
 cases c with
 | false => exact hb pins s1 σ H1 Q I1 q1
 | true => exact ⟨.bl true, H1, I1, rfl, q1⟩
def tIf (t : TT) (ta tb : TE) : TE := fun σ H Q => t σ H fun c H1 => if c = true then ta σ H1 Q else tb σ H1 Q
theorem pe_ifExp {c : Expr} (hc : PT X c tA) (ha : PE X a ta) (hb : PE X b tb) : PE X (.IfExp c a b pos) (tIf tA ta tb) := by
 intro pins s σ H Q I h
 refine wpAny_IfExp (thn (hc pins s σ H _ I h) fun d s1 hpat => ?_)
 obtain ⟨H1, I1, q1⟩ := hpat
 cases d with
 | true => exact ha pins s1 σ H1 Q I1 q1
 | false => exact hb pins s1 σ H1 Q I1 q1
end
end
section
def SqL (K : W.Frag) (H : Hp) (a : Addr) (xs : List V) : Prop :=
 Rd H a (.lst xs) \/
  ∃ (o : Obj) (its : Array Value) (n : Nat), K.lookup a = some o /\ o.cls = .type "list" /\ o.dict = none /\ o.data = .seq its n /\ its.size <= sizeLine /\ Vals xs its.toList
def SqT (K : W.Frag) (H : Hp) (a : Addr) (xs : List V) : Prop :=
 Rd H a (.tup xs) \/
  ∃ (o : Obj) (its : Array Value) (n : Nat), K.lookup a = some o /\ o.cls = .type "tuple" /\ o.data = .seq its n /\ its.size <= sizeLine /\ Vals xs its.toList
def absV : Value -> Option V
 | .none => some .non
 | .bool b => some (.bl b)
 | .int i _ => some (.int i)
 | .str x _ => some (.str x)
 | .bytes b _ => some (.byt b)
 | .float b _ => some (.flt b)
 | .ref a => some (.ref a)
 | .type n => some (.ty n)
 | _ => none
theorem RelV.abs {x : V} {u : Value} (r : RelV x u) : absV u = some x := by
 cases x with
 | non => cases r; rfl
 | bl _ => cases r; rfl
 | int _ => obtain ⟨t, rfl⟩ := r; rfl
 | str _ => obtain ⟨t, rfl⟩ := r; rfl
 | byt _ => obtain ⟨t, rfl⟩ := r; rfl
 | flt _ => obtain ⟨t, rfl⟩ := r; rfl
 | ref _ => cases r; rfl
 | ty _ => cases r; rfl
theorem RelV.inj {x y : V} {u : Value} (r : RelV x u) (q : RelV y u) : x = y := Option.some.inj (r.abs.symm.trans q.abs)
theorem Vals.inj : ∀ {xs ys : List V} {us : List Value}, Vals xs us -> Vals ys us -> xs = ys
 | _, _, _, .nil, .nil => rfl
 | _, _, _, .cons r t, .cons r' t' => by rw [r.inj r', Vals.inj t t']
section
variable {X : Cx} {pins : List (Addr × Obj)} {σ : St} {H : Hp} {s : Shared} {a : Addr} {xs ys : List V}
theorem SqL.of {K : W.Frag} (h : H a = some (.lst xs)) : SqL K H a xs := .inl (.inl h)
theorem SqT.of {K : W.Frag} (h : H a = some (.tup xs)) : SqT K H a xs := .inl (.inl h)
theorem Inv.list (I : Inv X pins σ H s) (h : SqL X.K H a xs) : ∃ its : List Value, Vals xs its /\ PlainL s.heap a its.toArray /\ xs.length <= sizeLine := by
 rcases h with h | ⟨o, its, n, hk, hc, hd, hs, hz, r⟩
 ·obtain ⟨z, its, n, r, e⟩ := h.ok I.hok
  exact ⟨its, r, ⟨_, n, e, rfl, rfl, rfl⟩, z⟩
 ·refine ⟨its.toList, r, ⟨o, n, I.kIn a o hk, hc, hd, by simpa using hs⟩, ?_⟩
  have e := r.length
  simp only [Array.length_toList] at e
  omega
theorem Inv.tuple (I : Inv X pins σ H s) (h : SqT X.K H a xs) : ∃ its : List Value, Vals xs its /\ IsTup s.heap a its.toArray /\ xs.length <= sizeLine := by
 rcases h with h | ⟨o, its, n, hk, hc, hs, hz, r⟩
 ·obtain ⟨z, its, r, p⟩ := h.ok I.hok
  exact ⟨its, r, p, z⟩
 ·refine ⟨its.toList, r, ⟨o, I.kIn a o hk, hc, n, by simpa using hs⟩, ?_⟩
  have e := r.length
  simp only [Array.length_toList] at e
  omega
theorem Inv.list_inj (I : Inv X pins σ H s) (h : SqL X.K H a xs) (h' : SqL X.K H a ys) : xs = ys := by
 obtain ⟨its, r, ⟨o, n, e, _, _, d⟩, _⟩ := I.list h
 obtain ⟨its', r', ⟨o', n', e', _, _, d'⟩, _⟩ := I.list h'
 rw [e] at e'; cases e'
 rw [d] at d'
 injection d' with d1 _
 have : its = its' := by simpa using congrArg Array.toList d1
 subst this
 exact r.inj r'
theorem Inv.tuple_inj (I : Inv X pins σ H s) (h : SqT X.K H a xs) (h' : SqT X.K H a ys) : xs = ys := by
 obtain ⟨its, r, ⟨o, e, _, n, d⟩, _⟩ := I.tuple h
 obtain ⟨its', r', ⟨o', e', _, n', d'⟩, _⟩ := I.tuple h'
 rw [e] at e'; cases e'
 rw [d] at d'
 injection d' with d1 _
 have : its = its' := by simpa using congrArg Array.toList d1
 subst this
 exact r.inj r'
end
abbrev Cx.wish (X : Cx) (E : Value -> Shared -> Prop) : Cx := { X with xe := E }
abbrev Cx.nox (X : Cx) : Cx := X.wish fun _ _ => False
theorem Cx.Ok.wish {X : Cx} (ok : X.Ok) (E : Value -> Shared -> Prop) : (X.wish E).Ok :=
 ⟨ok.mod, ok.kind, ok.glob, ok.blt, ok.above, ok.inj, ok.has, ok.cab, ok.hd, ok.frames, ok.stk, ok.exf, ok.bs, ok.bsz, ok.noex, ok.exfs, ok.funs, ok.frf⟩
theorem Cx.Ok.unwish {X : Cx} {E : Value -> Shared -> Prop} (ok : (X.wish E).Ok) : X.Ok :=
 ⟨ok.mod, ok.kind, ok.glob, ok.blt, ok.above, ok.inj, ok.has, ok.cab, ok.hd, ok.frames, ok.stk, ok.exf, ok.bs, ok.bsz, ok.noex, ok.exfs, ok.funs, ok.frf⟩
section
variable {X : Cx} {pins : List (Addr × Obj)} {σ : St} {H : Hp} {s : Shared} {E : Value -> Shared -> Prop}
theorem Inv.wish (I : Inv X pins σ H s) (E : Value -> Shared -> Prop) : Inv (X.wish E) pins σ H s := ⟨I.ok.wish E, I.os, I.bare, I.base, I.loc, I.cell, I.free, I.freeC, I.pin, I.hok, I.len⟩
theorem Inv.unwish (I : Inv (X.wish E) pins σ H s) : Inv X pins σ H s := ⟨I.ok.unwish, I.os, I.bare, I.base, I.loc, I.cell, I.free, I.freeC, I.pin, I.hok, I.len⟩
theorem SP.unwish {D : Ends} {f : Flow} {s' : Shared} (h : SP (X.wish E) pins D f s') : SP X pins D f s' := by
 cases f with
 | next => obtain ⟨σ', H', I, q⟩ := h; exact ⟨σ', H', I.unwish, q⟩
 | brk => obtain ⟨σ', H', I, q⟩ := h; exact ⟨σ', H', I.unwish, q⟩
 | cont => obtain ⟨σ', H', I, q⟩ := h; exact ⟨σ', H', I.unwish, q⟩
 | ret u => obtain ⟨v, σ', H', I, r, q⟩ := h; exact ⟨v, σ', H', I.unwish, r, q⟩
theorem PE.nox {e : Expr} {t : TE} (h : PE X.nox e t) : PE X e t := fun pins s σ H Q I hw =>
 wpAny_mono (h pins s σ H Q (I.wish _) hw) (fun _ _ ⟨v, H', I', r, q⟩ => ⟨v, H', I'.unwish, r, q⟩) fun _ _ z => False.elim z
theorem PT.nox {e : Expr} {t : TT} (h : PT X.nox e t) : PT X e t := fun pins s σ H Q I hw =>
 wpAny_mono (h pins s σ H Q (I.wish _) hw) (fun _ _ ⟨H', I', q⟩ => ⟨H', I'.unwish, q⟩) fun _ _ z => False.elim z
theorem PSs.nox {st : List Stmt} {t : TS} (h : PSs X.nox st t) : PSs X st t := fun pins s σ H D I hw =>
 wpAny_mono (h pins s σ H D (I.wish _) hw) (fun _ _ q => q.unwish) fun _ _ z => False.elim z
end
section
variable {X : Cx} {st : Stmt} {rest : List Stmt} {t u : TS} {e : Expr} {te : TE} {pos : Pos}
def tNext : TS := fun D σ H => D.nx σ H
def tSeq (t u : TS) : TS := fun D σ H => t { D with nx := u D } σ H
theorem pss_nil : PSs X [] tNext := fun _ _ σ H _ I h => wpAny_execs_nil ⟨σ, H, I, h⟩
theorem pss_cons (h1 : PS X st t) (h2 : PSs X rest u) : PSs X (st :: rest) (tSeq t u) := by
 intro pins s σ H D I h
 refine wpAny_execs_cons (thn (h1 pins s σ H { D with nx := u D } I h) fun f s1 q => ?_)
 cases f with
 | next =>
  obtain ⟨σ', H', I', q⟩ := q
  exact h2 pins s1 σ' H' D I' q
 | ret v => exact q
 | brk => exact q
 | cont => exact q
theorem pss_one (h1 : PS X st t) : PSs X [st] t := by
 intro pins s σ H D I h
 refine wpAny_execs_cons (thn (h1 pins s σ H D I h) fun f s1 q => ?_)
 cases f with
 | next => exact wpAny_execs_nil q
 | ret v => exact q
 | brk => exact q
 | cont => exact q
theorem Inv.quiet {pins : List (Addr × Obj)} {σ : St} {H : Hp} {s : Shared} (I : Inv X pins σ H s) : interactive X.env = false := by simp [interactive, I.ok.kind]
def tDrop (te : TE) : TS := fun D σ H => te σ H fun _ H1 => D.nx σ H1
theorem ps_expr (he : PE X e te) (hs : swapsWith e none pos.line X.env = pure false := by rfl) : PS X (.Expr e pos) (tDrop te) := by
 intro pins s σ H D I h
 exact wpAny_Expr_any (thn (he pins s σ H _ I h) fun v s1 ⟨x, H1, I1, r1, q1⟩ => ⟨σ, H1, I1, q1⟩) I.quiet hs
def tRet (te : TE) : TS := fun D σ H => te σ H D.rt
theorem ps_ret (he : PE X e te) : PS X (.Return (some e) pos) (tRet te) := by
 intro pins s σ H D I h
 exact wpAny_Return_some (thn (he pins s σ H _ I h) fun v s1 ⟨x, H1, I1, r1, q1⟩ => ⟨x, σ, H1, I1, r1, q1⟩)
def tIfS (c : TT) (t u : TS) : TS := fun D σ H => c σ H fun b H1 => if b = true then t D σ H1 else u D σ H1
theorem ps_if {c : Expr} {a b : List Stmt} {tc : TT} (hc : PT X c tc) (ha : PSs X a t) (hb : PSs X b u) : PS X (.If c a b pos) (tIfS tc t u) := by
 intro pins s σ H D I h
 refine wpAny_If (thn (hc pins s σ H _ I h) fun d s1 hpat => ?_)
 obtain ⟨H1, I1, q1⟩ := hpat
 cases d with
 | true => exact ha pins s1 σ H1 D I1 q1
 | false => exact hb pins s1 σ H1 D I1 q1
def tNever : TS := fun _ _ _ => False
theorem ps_never : PS X st tNever := fun _ _ _ _ _ _ h => h.elim
end
abbrev TG := V -> St -> Hp -> (St -> Hp -> Prop) -> Prop
abbrev TGs := List V -> St -> Hp -> (St -> Hp -> Prop) -> Prop
def PG (X : Cx) (target : Expr) (t : TG) : Prop :=
 ∀ (pins : List (Addr × Obj)) (s : Shared) (σ : St) (H : Hp) (v : V) (u : Value) (Q : St -> Hp -> Prop), Inv X pins σ H s -> RelV v u -> t v σ H Q ->
  wpAny (model X.prog X.w) X.A (assign target X.env u) (fun _ s' => ∃ σ' H', Inv X pins σ' H' s' /\ Q σ' H') X.xe s
def PGs (X : Cx) (ts : List Expr) (t : TGs) : Prop :=
 ∀ (pins : List (Addr × Obj)) (s : Shared) (σ : St) (H : Hp) (vs : List V) (us : List Value) (Q : St -> Hp -> Prop), Inv X pins σ H s -> Vals vs us -> t vs σ H Q ->
  wpAny (model X.prog X.w) X.A (assignInOrder ((assignEach ts X.env).map (·.2)) us) (fun _ s' => ∃ σ' H', Inv X pins σ' H' s' /\ Q σ' H') X.xe s
abbrev TSet := V -> V -> V -> Hp -> (Hp -> Prop) -> Prop
def PSet (X : Cx) (t : TSet) : Prop :=
 ∀ (pins : List (Addr × Obj)) (s : Shared) (σ : St) (H : Hp) (o i v : V) (ov iv u : Value) (Q : Hp -> Prop), Inv X pins σ H s -> RelV o ov -> RelV i iv -> RelV v u -> t o i v H Q ->
  wpAny (model X.prog X.w) X.A (setItem ov iv u) (fun _ s' => ∃ H', Inv X pins σ H' s' /\ Q H') X.xe s
section
variable {X : Cx} {pos : Pos}
def gName (i : Nat) : TG := fun v σ H Q => Q (σ.set i (some v)) H
theorem pg_name {i : Nat} {x : Str} (hN : X.N.Nodup) (hi : X.N[i]? = some x) (hx : Loc X.env.scope x) (hf : X.fn x = true \/ X.env.scope.names.lookup x = some .local := by first | exact .inl rfl | exact .inr rfl | assumption) : PG X (.Name x pos) (gName i) := by
 intro pins s σ H v u Q I r h
 exact wpAny_assign_Name (store_ok I hN hi hx r (fun s' I' => ⟨_, H, I', h⟩) hf)
def gNil : TGs := fun vs σ H Q => vs = [] /\ Q σ H
def gCons (t : TG) (u : TGs) : TGs := fun vs σ H Q => ∃ v r, vs = v :: r /\ t v σ H fun σ' H' => u r σ' H' Q
theorem pgs_nil : PGs X [] gNil := by
 intro pins s σ H vs us Q I r h
 obtain ⟨e, h⟩ := h
 subst e
 cases r
 exact assignInOrder_nil ⟨σ, H, I, h⟩
theorem pgs_cons {e : Expr} {es : List Expr} {t : TG} {u : TGs} (h1 : PG X e t) (h2 : PGs X es u)
  (hs : (assignEach (e :: es) X.env).map (·.2) = assign e X.env :: (assignEach es X.env).map (·.2) := by rfl) : PGs X (e :: es) (gCons t u) := by
 intro pins s σ H vs us Q I r h
 obtain ⟨v, vr, e1, h⟩ := h
 subst e1
 cases r with
 | cons r rr =>
  rw [hs]
  refine assignInOrder_cons (thn (h1 pins s σ H _ _ _ I r h) fun _ s1 hpat => ?_)
  obtain ⟨σ1, H1, I1, q1⟩ := hpat
  exact h2 pins s1 σ1 H1 _ _ Q I1 rr q1
def gTup (K : W.Frag) (n : Nat) (t : TGs) : TG := fun v σ H Q => ∃ a xs, v = .ref a /\ SqT K H a xs /\ xs.length = n /\ t xs σ H Q
theorem pg_tup {es : List Expr} {k : Nat} {t : TGs} {n : Nat} (hc : X.calm = true) (h : PGs X es t)
  (hn : (assignEach es X.env).length = n := by rfl) (hst : (assignEach es X.env).findIdx? (·.1) = none := by rfl) : PG X (.Tuple es k pos) (gTup X.K n t) := by
 intro pins s σ H v u Q I r hw
 obtain ⟨a, xs, e1, hq, hl, hw⟩ := hw
 subst e1
 cases r
 obtain ⟨its, rv, ht, hz⟩ := I.tuple hq
 refine assign_Tuple_tuple (I.ok.hd hc) ht (by simp [hn, <- hl, rv.length]) hst fun h' hx => ?_
 have I1 : Inv X pins σ H { s with heap := h' } := I.kept (t' := s.toks) fun b o e => hx b o (Nat.ne_of_lt (Heap.lt_size e)) e
 exact h pins _ σ H xs _ Q I1 (by simpa using rv) hw
def gSub (to ti : TE) (t : TSet) : TG := fun v σ H Q => to σ H fun o H1 => ti σ H1 fun i H2 => t o i v H2 fun H3 => Q σ H3
theorem pg_sub {o i : Expr} {to ti : TE} {t : TSet} (ho : PE X o to) (hi : PE X i ti) (hs : PSet X t)
  (ha : ∀ v, assign (.Subscript o i pos) X.env v = (do
   let ov ← holding [v] (eval o X.env)
   let iv ← holding [v, ov] (eval i X.env)
   standAt pos
   holding [v, ov, iv] (setItem ov iv v)
   release [v, ov, iv] []) := by intro _; rfl) : PG X (.Subscript o i pos) (gSub to ti t) := by
 intro pins s σ H v u Q I r h
 rw [ha]
 refine wpAny_bind (wpAny_holding (thn (ho pins s σ H _ I h) fun ov s1 hpat => ?_))
 obtain ⟨x, H1, I1, r1, q1⟩ := hpat
 refine wpAny_bind (wpAny_holding (thn (hi pins s1 σ H1 _ I1 q1) fun iv s2 hpat => ?_))
 obtain ⟨y, H2, I2, r2, q2⟩ := hpat
 refine wpAny_bind (wpAny_standAt (wpAny_bind (wpAny_holding (thn (hs pins s2 σ H2 x y v ov iv u _ I2 r1 r2 r q2) fun _ s3 hpat => ?_))))
 obtain ⟨H3, I3, q3⟩ := hpat
 exact wpAny_release ⟨σ, H3, I3, q3⟩
def tAsg (te : TE) (g : TG) : TS := fun D σ H => te σ H fun x H1 => g x σ H1 D.nx
theorem ps_asg {tg e : Expr} {te : TE} {g : TG} (he : PE X e te) (hg : PG X tg g) (hs : swapsWithSole [tg] e pos.line X.env = pure false := by rfl) (hw : swappedStores [tg] e X.env = pure none := by rfl)
  (h1 : (assignEach [tg] X.env).map (·.2) = [assign tg X.env] := by rfl) : PS X (.Assign [tg] e pos) (tAsg te g) := by
 intro pins s σ H D I h
 refine wpAny_Assign_stores (thn (he pins s σ H _ I h) fun v s1 hpat => ?_) hs hw
 obtain ⟨x, H1, I1, r1, q1⟩ := hpat
 rw [h1]
 exact thn (hg pins s1 σ H1 x v _ I1 r1 q1) fun _ s2 q => q
theorem ps_set {i : Nat} {x : Str} {e : Expr} {te : TE} {pos' : Pos} (hN : X.N.Nodup) (hi : X.N[i]? = some x) (hx : Loc X.env.scope x) (he : PE X e te) (hs : swapsWith e (some (.Name x pos')) pos.line X.env = pure false := by rfl) (hf : X.fn x = true \/ X.env.scope.names.lookup x = some .local := by first | exact .inl rfl | exact .inr rfl | assumption) :
  PS X (.Assign [.Name x pos'] e pos) (tAsg te (gName i)) := by
 intro pins s σ H D I h
 refine wpAny_Assign_Name (thn (he pins s σ H _ I h) fun v s1 hpat => ?_) hs
 obtain ⟨y, H1, I1, r1, q1⟩ := hpat
 exact store_ok I1 hN hi hx r1 (fun s2 I2 => ⟨_, H1, I2, q1⟩) hf
end
section
variable {X : Cx} {pos : Pos}
end
structure It where
 go : Nat -> Hp -> Prop
 yld : Nat -> Hp -> V -> Hp -> Prop
 stop : Nat -> Hp -> Prop
def FpOk (X : Cx) (pins : List (Addr × Obj)) (H : Hp) (b : Addr) : Prop :=
 H b = none /\ b ≠ X.env.locals /\ b ∉ X.fs /\ (b ∈ X.ex \/ X.s₀.heap.objs.size <= b) /\ (∀ x c, X.env.cells.lookup x = some c -> c ≠ b) /\ ∀ p ∈ X.pn ++ pins, p.1 ≠ b
theorem Inv.fpOk {X : Cx} {pins : List (Addr × Obj)} {σ : St} {H H' : Hp} {s : Shared} {b : Addr} (I : Inv X pins σ H s) (hb : s.heap.objs.size <= b) (hn : H' b = none) : FpOk X pins H' b := by
 refine ⟨hn, Nat.ne_of_gt (Nat.lt_of_lt_of_le I.lt hb), I.nofs hb, .inr (Nat.le_trans I.sz hb), fun x c e z => ?_, fun p hp z => ?_⟩
 ·obtain ⟨v, q⟩ := I.cell x c e
  exact absurd (Nat.lt_of_lt_of_le q.lt (by rw [z]; exact hb)) (Nat.lt_irrefl _)
 ·exact absurd (Nat.lt_of_lt_of_le (Heap.lt_size (I.pin p hp).1) (by rw [z]; exact hb)) (Nat.lt_irrefl _)
structure Turn (P : Program) (w : World) (K : W.Frag) (tg : Expr) (J : It) (fp : List Addr) (it : Addr) (tn : Nat -> Heap -> Prop) : Prop where
 mem : it ∈ fp
 obj : ∀ i h, tn i h -> ∀ b ∈ fp, ∃ o, h.get? b = some o /\ ∀ v, o.data ≠ .cell v
 keep : ∀ i h h', tn i h -> (∀ b ∈ fp, ∀ o, h.get? b = some o -> h'.get? b = some o) -> tn i h'
 item : ∀ (X : Cx), X.prog = P -> X.w = w -> X.K = K -> X.calm = true -> ∀ (i : Nat) (pins : List (Addr × Obj)) (s : Shared) (σ : St) (H : Hp) (E : Value -> Shared -> Prop), Inv X pins σ H s -> (∀ b ∈ fp, FpOk X pins H b) -> tn i s.heap -> J.go i H ->
  wpAny (model P w) X.A (pyNext (.ref it)) (fun r s1 => ∃ u, r = some u /\
   wpAny (model P w) X.A (letOwnedTupleGo tg (.ref it) u) (fun _ s2 => ∃ x H', Inv X pins σ H' s2 /\ RelV x u /\ J.yld i H x H' /\ tn (i + 1) s2.heap /\ ∀ b ∈ fp, H' b = none) E s1) E s
 done : ∀ (X : Cx), X.prog = P -> X.w = w -> X.K = K -> X.calm = true -> ∀ (i : Nat) (pins : List (Addr × Obj)) (s : Shared) (σ : St) (H : Hp) (E : Value -> Shared -> Prop), Inv X pins σ H s -> (∀ b ∈ fp, FpOk X pins H b) -> tn i s.heap -> J.stop i H ->
  wpAny (model P w) X.A (pyNext (.ref it)) (fun r s1 => r = none /\ Inv X pins σ H s1) E s
 self : ∀ (A : Around) (i : Nat) (s : Shared) (Q : Value -> Shared -> Prop) (E : Value -> Shared -> Prop), tn i s.heap -> Q (.ref it) s -> wpAny (model P w) A (pyIter (.ref it)) Q E s
abbrev TI := St -> Hp -> (It -> Hp -> Prop) -> Prop
def PIE (X : Cx) (pins : List (Addr × Obj)) (σ : St) (tg : Expr) (R : It -> Hp -> Prop) (itv : Value) (s2 : Shared) : Prop :=
 ∃ (it : Addr) (fp : List Addr) (tn : Nat -> Heap -> Prop) (J : It) (H' : Hp), itv = .ref it /\ Inv X pins σ H' s2 /\ Turn X.prog X.w X.K tg J fp it tn /\ tn 0 s2.heap /\ (∀ b ∈ fp, FpOk X pins H' b) /\ R J H'
def PI (X : Cx) (tg iter : Expr) (wi : TI) : Prop :=
 ∀ (pins : List (Addr × Obj)) (s : Shared) (σ : St) (H : Hp) (R : It -> Hp -> Prop), Inv X pins σ H s -> wi σ H R ->
  wpAny (model X.prog X.w) X.A (eval iter X.env) (fun v s1 => wpAny (model X.prog X.w) X.A (pyIter v) (PIE X pins σ tg R) X.xe s1) X.xe s
theorem go_of {M : Model} {A : Around} {E : Value -> Shared -> Prop} {s : Shared} {tg : Expr} {it : Addr} {u : Value} {o : Obj} {n : String} {vs : Array Value} {Q : Unit -> Shared -> Prop} (ho : s.heap.get? it = some o) (hc : o.cls = .type n) (hd : o.data = .fields vs)
  (hn : ["enumerate", "zip", "dict_itemiterator", "dict_reverseitemiterator", "odict_iterator", "itertools.zip_longest", "itertools.pairwise"].contains n = false) (hQ : Q () s) : wpAny M A (letOwnedTupleGo tg (.ref it) u) Q E s := by
 unfold letOwnedTupleGo
 cases tg <;> first
  | exact wpAny_pure hQ
  | (cases u <;> first
    | exact wpAny_pure hQ
    | (refine wpAny_bind (wpAny_load ho ?_)
       rw [hc, hd]
       show wpAny M A (if (["enumerate", "zip", "dict_itemiterator", "dict_reverseitemiterator", "odict_iterator", "itertools.zip_longest", "itertools.pairwise"].contains n && vs[0]? == some (rawInt _)) = true then _ else _) Q E s
       rw [if_neg (by intro h; rw [hn, Bool.false_and] at h; cases h)]
       exact wpAny_pure hQ))
def Itl (K : W.Frag) (a : Addr) : It :=
 ⟨fun i H => ∃ xs x, SqL K H a xs /\ xs[i]? = some x, fun i H x H' => H' = H /\ ∀ xs, SqL K H a xs -> xs[i]? = some x, fun i H => ∃ xs, SqL K H a xs /\ xs.length <= i⟩
def Itt (K : W.Frag) (a : Addr) : It :=
 ⟨fun i H => ∃ xs x, SqT K H a xs /\ xs[i]? = some x, fun i H x H' => H' = H /\ ∀ xs, SqT K H a xs -> xs[i]? = some x, fun i H => ∃ xs, SqT K H a xs /\ xs.length <= i⟩
def Itr (lo : Int) (n : Nat) : It := ⟨fun i _ => i < n, fun i H x H' => H' = H /\ x = .int (lo + i), fun i _ => n <= i⟩
theorem turn_list {P : Program} {w : World} {K : W.Frag} {tg : Expr} (a it : Addr) : Turn P w K tg (Itl K a) [it] it (fun i h => h.IsListIter it a i) where
 mem := by simp
 obj := fun i h st b hb => by
  have e : b = it := by simpa using hb
  subst e
  obtain ⟨o, e, c, d⟩ := st
  exact ⟨o, e, fun v z => by rw [d] at z; cases z⟩
 keep := fun i h h' st k => st.at fun o e => k it (by simp) o e
 item := by
  intro X hP hw hK hc i pins s σ H E I hf st hg
  subst hP hw hK
  obtain ⟨xs, x, hq, hx⟩ := hg
  obtain ⟨its, rv, p, hz⟩ := I.list hq
  obtain ⟨u, hu, ru⟩ := rv.get hx
  obtain ⟨f0, f1, f2, f3, f4, f5⟩ := hf it (by simp)
  refine wpAny_pyNext_list_item st p.isList (x := u) (by simpa using hu) fun h' st' sb => ?_
  have I1 : Inv X pins σ H { s with heap := h' } := I.turned (t' := s.toks) (fun b o hb e => (sb.2 b hb).trans e) f0 f1 f3 f4 f5
  obtain ⟨o, e, c, d⟩ := id st'
  exact ⟨u, rfl, go_of (s := { s with heap := h' }) e c d (by decide) ⟨x, H, I1, ru, ⟨rfl, fun ys hy => by rw [I.list_inj hy hq]; exact hx⟩, st', fun b hb => (hf b hb).1⟩⟩
 done := by
  intro X hP hw hK hc i pins s σ H E I hf st hg
  subst hP hw hK
  obtain ⟨xs, hq, hx⟩ := hg
  obtain ⟨its, rv, p, hz⟩ := I.list hq
  obtain ⟨f0, f1, f2, f3, f4, f5⟩ := hf it (by simp)
  have hl := rv.length
  exact wpAny_pyNext_list_end (I.ok.hd hc) st p.isList (by simp; omega) fun h' eb => ⟨rfl, I.turned (t' := s.toks) (fun b o hb e => eb b o hb e) f0 f1 f3 f4 f5⟩
 self := fun _ _ _ _ _ st h => wpAny_pyIter_listiter st h
theorem turn_tuple {P : Program} {w : World} {K : W.Frag} {tg : Expr} (a it : Addr) : Turn P w K tg (Itt K a) [it] it (fun i h => h.IsTupleIter it a i) where
 mem := by simp
 obj := fun i h st b hb => by
  have e : b = it := by simpa using hb
  subst e
  obtain ⟨o, e, c, d⟩ := st
  exact ⟨o, e, fun v z => by rw [d] at z; cases z⟩
 keep := fun i h h' st k => st.at fun o e => k it (by simp) o e
 item := by
  intro X hP hw hK hc i pins s σ H E I hf st hg
  subst hP hw hK
  obtain ⟨xs, x, hq, hx⟩ := hg
  obtain ⟨its, rv, p, hz⟩ := I.tuple hq
  obtain ⟨u, hu, ru⟩ := rv.get hx
  obtain ⟨f0, f1, f2, f3, f4, f5⟩ := hf it (by simp)
  refine wpAny_pyNext_tuple_item st (show s.heap.IsTuple a its.toArray from p) (x := u) (by simpa using hu) fun h' st' sb => ?_
  have I1 : Inv X pins σ H { s with heap := h' } := I.turned (t' := s.toks) (fun b o hb e => (sb.2 b hb).trans e) f0 f1 f3 f4 f5
  obtain ⟨o, e, c, d⟩ := id st'
  exact ⟨u, rfl, go_of (s := { s with heap := h' }) e c d (by decide) ⟨x, H, I1, ru, ⟨rfl, fun ys hy => by rw [I.tuple_inj hy hq]; exact hx⟩, st', fun b hb => (hf b hb).1⟩⟩
 done := by
  intro X hP hw hK hc i pins s σ H E I hf st hg
  subst hP hw hK
  obtain ⟨xs, hq, hx⟩ := hg
  obtain ⟨its, rv, p, hz⟩ := I.tuple hq
  obtain ⟨f0, f1, f2, f3, f4, f5⟩ := hf it (by simp)
  have hl := rv.length
  exact wpAny_pyNext_tuple_end (I.ok.hd hc) st (show s.heap.IsTuple a its.toArray from p) (by simp; omega) fun h' eb => ⟨rfl, I.turned (t' := s.toks) (fun b o hb e => eb b o hb e) f0 f1 f3 f4 f5⟩
 self := fun _ _ _ _ _ st h => wpAny_pyIter_tupleiter st h
theorem turn_range {P : Program} {w : World} {K : PySem.W.Frag} {tg : Expr} (it : Addr) (lo : Int) (n : Nat) : Turn P w K tg (Itr lo n) [it] it (fun i h => IsRangeIter h it (lo + (i : Nat) * 1) ((n : Int) - (i : Nat)) 1) where
 mem := by simp
 obj := fun i h st b hb => by
  have e : b = it := by simpa using hb
  subst e
  exact ⟨_, st, fun v z => by
   have z' : Data.fields _ = Data.cell v := z
   cases z'⟩
 keep := fun i h h' st k => k it (by simp) _ st
 item := by
  intro X hP hw hK hc i pins s σ H E I hf st hg
  subst hP hw hK
  obtain ⟨f0, f1, f2, f3, f4, f5⟩ := hf it (by simp)
  have W := Walks.range (prog := X.prog) (w := X.w) (I.ok.hd hc) it lo 1 n
  refine W.item i s _ _ hg st fun v h' tk hv st' kk => ?_
  obtain ⟨t, rfl⟩ := hv
  have I1 : Inv X pins σ H { s with heap := h', toks := tk } := I.turned (fun b o hb e => kk b o (by simpa using hb) e) f0 f1 f3 f4 f5
  refine ⟨_, rfl, go_of (s := { s with heap := h', toks := tk }) (n := "range_iterator") st' rfl rfl (by decide) ⟨.int (lo + i), H, I1, ⟨t, ?_⟩, ⟨rfl, rfl⟩, st', fun b hb => (hf b hb).1⟩⟩
  rw [Int.mul_one]
 done := by
  intro X hP hw hK hc i pins s σ H E I hf st hg
  subst hP hw hK
  obtain ⟨f0, f1, f2, f3, f4, f5⟩ := hf it (by simp)
  exact wpAny_pyNext_range_end (I.ok.hd hc) st (by have : n <= i := hg; omega) fun h' eb => ⟨rfl, I.turned (t' := s.toks) (fun b o hb e => eb b o hb e) f0 f1 f3 f4 f5⟩
 self := fun _ _ _ _ _ st h => wpAny_pyIter_rangeiter st h
end
section
section
variable {X : Cx} {tg : Expr}
def iList (K : W.Frag) (tl : TE) : TI := fun σ H R => tl σ H fun x H1 => ∃ a, x = .ref a /\ (∃ xs, SqL K H1 a xs) /\ R (Itl K a) H1
def iTup (K : W.Frag) (tl : TE) : TI := fun σ H R => tl σ H fun x H1 => ∃ a, x = .ref a /\ (∃ xs, SqT K H1 a xs) /\ R (Itt K a) H1
theorem pi_list {l : Expr} {tl : TE} (hl : PE X l tl) : PI X tg l (iList X.K tl) := by
 intro pins s σ H R I h
 refine thn (hl pins s σ H _ I h) fun v s1 hpat => ?_
 obtain ⟨x, H1, I1, r1, q1⟩ := hpat
 obtain ⟨a, e, ⟨xs, hq⟩, q⟩ := q1
 subst e
 cases r1
 obtain ⟨its, rv, p, hz⟩ := I1.list hq
 refine wpAny_pyIter_list p.isList ?_
 refine ⟨s1.heap.objs.size, [s1.heap.objs.size], _, _, H1, rfl, I1.kept (t' := s1.toks) fun b o e => Heap.get?_push_of_some _ e, turn_list a _, ⟨_, Heap.get?_push_size _ rfl, rfl, rfl⟩, fun b hb => ?_, q⟩
 have e : b = s1.heap.objs.size := by simpa using hb
 subst e
 exact I1.fpOk (Nat.le_refl _) (I1.hok.fresh (Nat.le_refl _))
theorem pi_tup {l : Expr} {tl : TE} (hl : PE X l tl) : PI X tg l (iTup X.K tl) := by
 intro pins s σ H R I h
 refine thn (hl pins s σ H _ I h) fun v s1 hpat => ?_
 obtain ⟨x, H1, I1, r1, q1⟩ := hpat
 obtain ⟨a, e, ⟨xs, hq⟩, q⟩ := q1
 subst e
 cases r1
 obtain ⟨its, rv, p, hz⟩ := I1.tuple hq
 refine wpAny_pyIter_tuple (show s1.heap.IsTuple a its.toArray from p) ?_
 refine ⟨s1.heap.objs.size, [s1.heap.objs.size], _, _, H1, rfl, I1.kept (t' := s1.toks) fun b o e => Heap.get?_push_of_some _ e, turn_tuple a _, ⟨_, Heap.get?_push_size _ rfl, rfl, rfl⟩, fun b hb => ?_, q⟩
 have e : b = s1.heap.objs.size := by simpa using hb
 subst e
 exact I1.fpOk (Nat.le_refl _) (I1.hok.fresh (Nat.le_refl _))
theorem range_it {pins : List (Addr × Obj)} {σ : St} {H : Hp} {s : Shared} {R : It -> Hp -> Prop} {E : Value -> Shared -> Prop} {lo hi : Int} {t u v : Tok} {tk : Nat} (I : Inv X pins σ H s) (h1 : -(2 ^ 62) <= lo) (h2 : lo < 2 ^ 62) (h3 : -(2 ^ 62) <= hi) (h4 : hi < 2 ^ 62)
  (q : R (Itr lo (hi - lo).toNat) H) : wpAny (model X.prog X.w) X.A (pyIter (.ref s.heap.objs.size)) (PIE X pins σ tg R) E { s with heap := s.heap.push { cls := .type "range", data := .fields #[.int lo t, .int hi u, .int 1 v] }, toks := tk } := by
 refine wpAny_pyIter_range (IsRange.new ..) (small_one h1 h2 h3 h4) ?_
 have I1 : Inv X pins σ H { s with heap := s.heap.push { cls := .type "range", data := .fields #[.int lo t, .int hi u, .int 1 v] }, toks := tk } := I.kept fun b o e => Heap.get?_push_of_some _ e
 refine ⟨(s.heap.push { cls := .type "range", data := .fields #[.int lo t, .int hi u, .int 1 v] }).objs.size, [(s.heap.push { cls := .type "range", data := .fields #[.int lo t, .int hi u, .int 1 v] }).objs.size], _, _, H, rfl,
  I1.kept (t' := tk) fun b o e => Heap.get?_push_of_some _ e, turn_range _ lo (hi - lo).toNat, ?_, fun b hb => ?_, q⟩
 ·have e1 : lo + ((0 : Nat) : Int) * 1 = lo := by simp
  have e2 : (((hi - lo).toNat : Nat) : Int) - ((0 : Nat) : Int) = Builtin.Range.rangeSize lo hi 1 := by rw [rangeSize_one]; split <;> omega
  show IsRangeIter _ _ (lo + ((0 : Nat) : Int) * 1) ((((hi - lo).toNat : Nat) : Int) - ((0 : Nat) : Int)) 1
  rw [e1, e2]
  exact Heap.get?_push_size _ rfl
 ·have e : b = (s.heap.push { cls := .type "range", data := .fields #[.int lo t, .int hi u, .int 1 v] }).objs.size := by simpa using hb
  subst e
  exact I1.fpOk (Nat.le_refl _) (I1.hok.fresh (Nat.le_refl _))
def iRng1 (ta : TA) : TI := fun σ H R => ta σ H fun vs H1 => ∃ j : Int, vs = [.int j] /\ -(2 ^ 62) <= j /\ j < 2 ^ 62 /\ R (Itr 0 j.toNat) H1
def iRng2 (ta : TA) : TI := fun σ H R => ta σ H fun vs H1 => ∃ i j : Int, vs = [.int i, .int j] /\ (-(2 ^ 62) <= i /\ i < 2 ^ 62 /\ -(2 ^ 62) <= j /\ j < 2 ^ 62) /\ R (Itr i (j - i).toNat) H1
theorem pi_range1 {a : Expr} {ta : TA} {p pos : Pos} (hg : Gl X "range") (hm : X.mg "range" = none) (ha : PA X [a] ta) (hs : starEach [a] X.env = [(false, eval a X.env)] := by rfl) : PI X tg (.Call (.Name "range" p) [a] [] pos) (iRng1 ta) := by
 intro pins s σ H R I h
 refine Call_ (ld_blt I hg hm boot_range (PyProof.Rows.callWith_type1 (thn (ha pos pins s σ H _ I h) fun us s1 hpat => ?_) hs rfl))
 obtain ⟨vs, H1, I1, r1, q1⟩ := hpat
 obtain ⟨j, e, q1, q2, q⟩ := q1
 subst e
 cases r1 with
 | cons r rr =>
  cases rr
  obtain ⟨t, rfl⟩ := r
  exact call_range_1 (range_it I1 (by omega) (by omega) q1 q2 (by simpa using q))
theorem pi_range2 {a b : Expr} {ta : TA} {p pos : Pos} (hg : Gl X "range") (hm : X.mg "range" = none) (ha : PA X [a, b] ta) (hs : starEach [a, b] X.env = [(false, eval a X.env), (false, eval b X.env)] := by rfl) (hs2 : starEach [b] X.env = [(false, eval b X.env)] := by rfl) :
  PI X tg (.Call (.Name "range" p) [a, b] [] pos) (iRng2 ta) := by
 intro pins s σ H R I h
 refine Call_ (ld_blt I hg hm boot_range (PyProof.Rows.callWith_type1 (thn (ha pos pins s σ H _ I h) fun us s1 hpat => ?_) (by rw [hs, hs2]) (by rw [hs2]; rfl)))
 obtain ⟨vs, H1, I1, r1, q1⟩ := hpat
 obtain ⟨i, j, e, ⟨q1, q2, q3, q4⟩, q⟩ := q1
 subst e
 cases r1 with
 | cons r rr =>
  cases rr with
  | cons r' rr =>
   cases rr
   obtain ⟨t, rfl⟩ := r
   obtain ⟨t', rfl⟩ := r'
   exact call_range_2 (range_it I1 q1 q2 q3 q4 q)
def tFor (wi : TI) (g : TG) (tb : TS) : TS := fun D σ H => wi σ H fun J H1 => ∃ W : Nat -> Nat -> St -> Hp -> Prop, (∃ m, W 0 m σ H1) /\ ∀ i m σ H, W i m σ H ->
 (J.stop i H /\ D.nx σ H) \/ (J.go i H /\ ∃ N : St -> Hp -> Prop, (∀ σ' H', N σ' H' -> ∃ m', m' < m /\ W (i + 1) m' σ' H') /\ ∀ x H', J.yld i H x H' -> g x σ H' fun σ2 H2 => tb { D with nx := N, ct := N, bk := D.nx } σ2 H2)
def pinsAt (fp : List Addr) (h : Heap) : List (Addr × Obj) := fp.filterMap fun b => (h.get? b).map fun o => (b, o)
theorem mem_pinsAt {fp : List Addr} {h : Heap} {b : Addr} {o : Obj} (hb : b ∈ fp) (e : h.get? b = some o) : (b, o) ∈ pinsAt fp h := List.mem_filterMap.mpr ⟨b, hb, by rw [e]; rfl⟩
theorem of_pinsAt {fp : List Addr} {h : Heap} {p : Addr × Obj} (hp : p ∈ pinsAt fp h) : p.1 ∈ fp /\ h.get? p.1 = some p.2 := by
 obtain ⟨b, hb, e⟩ := List.mem_filterMap.mp hp
 cases q : h.get? b with
 | none => rw [q] at e; cases e
 | some o =>
  rw [q] at e
  have e' : (b, o) = p := Option.some.inj e
  subst e'
  exact ⟨hb, q⟩
theorem Inv.pinned {pins : List (Addr × Obj)} {σ : St} {H : Hp} {s : Shared} {fp : List Addr} (I : Inv X pins σ H s) (hf : ∀ b ∈ fp, FpOk X pins H b) (ho : ∀ b ∈ fp, ∃ o, s.heap.get? b = some o /\ ∀ v, o.data ≠ .cell v) : Inv X (pins ++ pinsAt fp s.heap) σ H s :=
 I.pins_of fun p hp => (List.mem_append.mp hp).elim (fun z => I.pin p (mem_append_right _ z)) fun z => by
  obtain ⟨hb, e⟩ := of_pinsAt z
  obtain ⟨f0, f1, f2, _⟩ := hf p.1 hb
  obtain ⟨o, e', d⟩ := ho p.1 hb
  rw [e] at e'; cases e'
  exact ⟨e, f0, f1, f2, d⟩
theorem Inv.unpinned {pins pl : List (Addr × Obj)} {σ : St} {H : Hp} {s : Shared} (I : Inv X (pins ++ pl) σ H s) : Inv X pins σ H s := I.pins_of fun p hp => I.pin p (mem_append_right _ (mem_append_left _ hp))
theorem ps_for {iter : Expr} {body : List Stmt} {wi : TI} {g : TG} {tb : TS} {pos : Pos} (hp : PassesOwn (model X.prog X.w) X.A X.env X.xe) (hc : X.calm = true) (hi : PI X tg iter wi) (hg : PG X tg g) (hb : PSs X body tb)
  (hs : ∀ x, foldedSetIterable iter X.env x = pure x := by intro _; rfl) : PS X (.For tg iter body [] pos) (tFor wi g tb) := by
 intro pins s σ H D I h
 refine wpAny_For (thn (hi pins s σ H _ I h) fun v s1 h1 => thn h1 fun itv s2 h2 => ?_) hs
 obtain ⟨it, fp, tn, J, H2, e, I2, T, st2, f2, W, ⟨m0, w0⟩, turn⟩ := h2
 subst e
 have stat : ∀ {H' : Hp}, (∀ b ∈ fp, H' b = none) -> ∀ b ∈ fp, FpOk X pins H' b := fun hn b hb => ⟨hn b hb, (f2 b hb).2⟩
 refine codeAny_forLoop_any (fun n s' => ∃ i σ' H', Inv X pins σ' H' s' /\ tn i s'.heap /\ (∀ b ∈ fp, H' b = none) /\ W i n σ' H') ?_ m0 ⟨0, σ, H2, I2, st2, fun b hb => (f2 b hb).1, w0⟩
 rintro n s3 ⟨i, σ3, H3, I3, st3, fr3, w3⟩
 rcases turn i n σ3 H3 w3 with ⟨stop, qn⟩ | ⟨go, N, hN, step⟩
 ·refine wpAny_passesOwn hp (thn (T.done X rfl rfl rfl hc i pins s3 σ3 H3 X.xe I3 (stat fr3) st3 stop) fun r s4 ⟨hr, I4⟩ => ?_)
  subst hr
  exact wpAny_execs_nil ⟨σ3, H3, I4, qn⟩
 ·refine wpAny_passesOwn hp (thn (T.item X rfl rfl rfl hc i pins s3 σ3 H3 X.xe I3 (stat fr3) st3 go) fun r s4 ⟨u, hr, h4⟩ => ?_)
  subst hr
  refine wpAny_passesOwn hp (thn h4 fun _ s5 hpat => ?_)
  obtain ⟨x, H5, I5, r5, y5, st5, fr5⟩ := hpat
  have I5' := I5.pinned (stat fr5) (T.obj _ _ st5)
  refine wpAny_passesOwn hp (thn (hg _ s5 σ3 H5 x u _ I5' r5 (step x H5 y5)) fun _ s6 hpat => ?_)
  obtain ⟨σ6, H6, I6, q6⟩ := hpat
  refine wpAny_passesOwn hp (thn (hb _ s6 σ6 H6 _ I6 q6) fun f s7 q7 => ?_)
  have again : ∀ {σ7 : St} {H7 : Hp}, Inv X (pins ++ pinsAt fp s5.heap) σ7 H7 s7 -> N σ7 H7 -> ∃ m, m < n /\ ∃ i σ' H', Inv X pins σ' H' s7 /\ tn i s7.heap /\ (∀ b ∈ fp, H' b = none) /\ W i m σ' H' := fun {σ7 H7} I7 n7 => by
   obtain ⟨m', hm, w7⟩ := hN σ7 H7 n7
   refine ⟨m', hm, i + 1, σ7, H7, I7.unpinned, T.keep _ _ _ st5 fun b hb o e => (I7.pin (b, o) (mem_append_right _ (mem_append_right _ (mem_pinsAt hb e)))).1, fun b hb => ?_, w7⟩
   obtain ⟨o, e, d⟩ := T.obj _ _ st5 b hb
   exact (I7.pin (b, o) (mem_append_right _ (mem_append_right _ (mem_pinsAt hb e)))).2.1
  cases f with
  | next => obtain ⟨σ7, H7, I7, n7⟩ := q7; exact again I7 n7
  | cont => obtain ⟨σ7, H7, I7, n7⟩ := q7; exact again I7 n7
  | brk => obtain ⟨σ7, H7, I7, q7⟩ := q7; exact ⟨σ7, H7, I7.unpinned, q7⟩
  | ret v => obtain ⟨x7, σ7, H7, I7, r7, q7⟩ := q7; exact ⟨x7, σ7, H7, I7.unpinned, r7, q7⟩
end
end
section
abbrev R2 := V -> V -> Hp -> VK -> Prop
def OpR (X : Cx) (f : Value -> Value -> Sem Value) (r : R2) : Prop :=
 ∀ (pins : List (Addr × Obj)) (s : Shared) (σ : St) (H : Hp) (x y : V) (v u : Value) (Q : VK), Inv X pins σ H s -> RelV x v -> RelV y u -> r x y H Q ->
  wpAny (model X.prog X.w) X.A (f v u) (EP X pins σ Q) X.xe s
def UnR (X : Cx) (f : Value -> Sem Value) (r : V -> Hp -> VK -> Prop) : Prop :=
 ∀ (pins : List (Addr × Obj)) (s : Shared) (σ : St) (H : Hp) (x : V) (v : Value) (Q : VK), Inv X pins σ H s -> RelV x v -> r x H Q ->
  wpAny (model X.prog X.w) X.A (f v) (EP X pins σ Q) X.xe s
def CallR (X : Cx) (f : Value) (r : List V -> Hp -> VK -> Prop) : Prop :=
 ∀ (pins : List (Addr × Obj)) (s : Shared) (σ : St) (H : Hp) (xs : List V) (us : List Value) (Q : VK), Inv X pins σ H s -> Vals xs us -> r xs H Q ->
  wpAny (model X.prog X.w) X.A (call f us) (EP X pins σ Q) X.xe s
def TruR (X : Cx) (r : V -> Hp -> (Bool -> Hp -> Prop) -> Prop) : Prop :=
 ∀ (pins : List (Addr × Obj)) (s : Shared) (σ : St) (H : Hp) (x : V) (v : Value) (Q : Bool -> Hp -> Prop), Inv X pins σ H s -> RelV x v -> r x H Q ->
  wpAny (model X.prog X.w) X.A (truthy v) (TP X pins σ Q) X.xe s
def tOp (r : R2) (ta tb : TE) : TE := fun σ H Q => ta σ H fun x H1 => tb σ H1 fun y H2 => r x y H2 Q
def tUn (r : V -> Hp -> VK -> Prop) (ta : TE) : TE := fun σ H Q => ta σ H fun x H1 => r x H1 Q
def rI (C : Int -> Int -> Prop) (g : Int -> Int -> V) : R2 := fun x y H Q => ∃ i j, x = .int i /\ y = .int j /\ C i j /\ Q (g i j) H
def rI0 (g : Int -> Int -> V) : R2 := fun x y H Q => ∃ i j, x = .int i /\ y = .int j /\ Q (g i j) H
def rU (g : Int -> V) : V -> Hp -> VK -> Prop := fun x H Q => ∃ i, x = .int i /\ Q (g i) H
section
variable {X : Cx} {a b c : Expr} {ta tb tc : TE} {pos : Pos}
theorem binT (ha : PE X a ta) (hb : PE X b tb) {pins : List (Addr × Obj)} {s : Shared} {σ : St} {H : Hp} {R : V -> V -> Hp -> Prop} (I : Inv X pins σ H s)
  (h : ta σ H fun x H1 => tb σ H1 fun y H2 => R x y H2) {Q : Value -> Shared -> Prop} {f : Value -> Value -> Sem Value}
  (hf : ∀ v u s2 x y H2, Inv X pins σ H2 s2 -> RelV x v -> RelV y u -> R x y H2 -> wpAny (model X.prog X.w) X.A (f v u) Q X.xe s2) :
  wpAny (model X.prog X.w) X.A (eval a X.env) (fun v s₁ => wpAny (model X.prog X.w) X.A (eval b X.env) (fun u s₂ => wpAny (model X.prog X.w) X.A (f v u) Q X.xe s₂) X.xe s₁) X.xe s := by
 refine thn (ha pins s σ H _ I h) fun v s1 hpat => ?_
 obtain ⟨x, H1, I1, r1, q1⟩ := hpat
 refine thn (hb pins s1 σ H1 _ I1 q1) fun u s2 hpat => ?_
 obtain ⟨y, H2, I2, r2, q2⟩ := hpat
 exact hf v u s2 x y H2 I2 r1 r2 q2
theorem pe_op {op : Operator} {r : R2} (ho : OpR X (binaryOp op) r) (ha : PE X a ta) (hb : PE X b tb) : PE X (.BinOp a op b pos) (tOp r ta tb) := by
 intro pins s σ H Q I h
 exact wpAny_BinOp (binT ha hb I h fun v u s2 x y H2 I2 rx ry q => ho pins s2 σ H2 x y v u Q I2 rx ry q)
theorem pe_un {op : UnaryOp} {r : V -> Hp -> VK -> Prop} (ho : UnR X (unaryOp op) r) (ha : PE X a ta) : PE X (.UnaryOp op a pos) (tUn r ta) := by
 intro pins s σ H Q I h
 exact UnaryOp_ (thn (ha pins s σ H _ I h) fun v s1 ⟨x, H1, I1, r1, q1⟩ => ho pins s1 σ H1 x v Q I1 r1 q1)
theorem opI {f : Value -> Value -> Sem Value} {C : Int -> Int -> Prop} {g : Int -> Int -> Int}
  (rule : ∀ (i j : Int) (t u : Tok) (s : Shared) (Q : Value -> Shared -> Prop) (E : Value -> Shared -> Prop), C i j -> Q (.int (g i j) s.toks) { s with toks := s.toks + 1 } -> wpAny (model X.prog X.w) X.A (f (.int i t) (.int j u)) Q E s) :
  OpR X f (rI C fun i j => .int (g i j)) := by
 intro pins s σ H x y v u Q I rx ry h
 obtain ⟨i, j, rfl, rfl, hc, q⟩ := h
 obtain ⟨t, rfl⟩ := rx
 obtain ⟨t', rfl⟩ := ry
 exact rule i j t t' s _ _ hc ⟨.int (g i j), H, I.tok _, ⟨_, rfl⟩, q⟩
theorem opI0 {f : Value -> Value -> Sem Value} {g : Int -> Int -> Int}
  (rule : ∀ (i j : Int) (t u : Tok) (s : Shared) (Q : Value -> Shared -> Prop) (E : Value -> Shared -> Prop), Q (.int (g i j) s.toks) { s with toks := s.toks + 1 } -> wpAny (model X.prog X.w) X.A (f (.int i t) (.int j u)) Q E s) :
  OpR X f (rI0 fun i j => .int (g i j)) := by
 intro pins s σ H x y v u Q I rx ry h
 obtain ⟨i, j, rfl, rfl, q⟩ := h
 obtain ⟨t, rfl⟩ := rx
 obtain ⟨t', rfl⟩ := ry
 exact rule i j t t' s _ _ ⟨.int (g i j), H, I.tok _, ⟨_, rfl⟩, q⟩
theorem opB0 {f : Value -> Value -> Sem Value} {g : Int -> Int -> Bool}
  (rule : ∀ (i j : Int) (t u : Tok) (s : Shared) (Q : Value -> Shared -> Prop) (E : Value -> Shared -> Prop), Q (.bool (g i j)) s -> wpAny (model X.prog X.w) X.A (f (.int i t) (.int j u)) Q E s) :
  OpR X f (rI0 fun i j => .bl (g i j)) := by
 intro pins s σ H x y v u Q I rx ry h
 obtain ⟨i, j, rfl, rfl, q⟩ := h
 obtain ⟨t, rfl⟩ := rx
 obtain ⟨t', rfl⟩ := ry
 exact rule i j t t' s _ _ ⟨.bl (g i j), H, I, rfl, q⟩
def CDiv (i j : Int) : Prop := 0 < j /\ j < 1073741824
def CPow (i j : Int) : Prop := 0 <= j /\ j <= 1000000 /\ i.natAbs < 2 ^ 64
def CMul (i j : Int) : Prop := (-(2 ^ 64) < i /\ i < 2 ^ 64) \/ (-(2 ^ 64) < j /\ j < 2 ^ 64)
theorem CMul.ok {i j : Int} (h : CMul i j) : IntMulOk i j := by
 rcases h with ⟨h1, h2⟩ | ⟨h1, h2⟩
 ·exact .of_left (intBits_le_64 h1 h2)
 ·exact .of_right (intBits_le_64 h1 h2)
theorem op_add : OpR X (binaryOp .Add) (rI0 fun i j => .int (i + j)) := opI0 fun _ _ _ _ _ _ _ q => add_int q
theorem op_sub : OpR X (binaryOp .Sub) (rI0 fun i j => .int (i - j)) := opI0 fun _ _ _ _ _ _ _ q => sub_int q
theorem op_mul : OpR X (binaryOp .Mult) (rI CMul fun i j => .int (i * j)) := opI fun _ _ _ _ _ _ _ hc q => mul_int q hc.ok
theorem op_fdiv : OpR X (binaryOp .FloorDiv) (rI CDiv fun i j => .int (i / j)) := opI fun i j _ _ _ _ _ hc q => by
 have h1 : (0 : Int) < j := hc.1
 have h2 : j < 1073741824 := hc.2
 exact floordiv_int (by omega) (by rw [Int.fdiv_eq_ediv_of_nonneg i (by omega)]; exact q) (.inl (PyProof.noPylong_small (by omega)))
theorem op_mod : OpR X (binaryOp .Mod) (rI (fun _ j => 0 < j) fun i j => .int (i % j)) := opI fun i j _ _ _ _ _ hc q => by
 have h1 : (0 : Int) < j := hc
 exact mod_int' (by omega) (by rw [Int.fmod_eq_emod_of_nonneg i (by omega)]; exact q)
theorem op_pow : OpR X (binaryOp .Pow) (rI CPow fun i j => .int (i ^ j.toNat)) := opI fun _ _ _ _ _ _ _ hc q => pow_int_small hc.1 hc.2.1 hc.2.2 q
theorem unI {f : Value -> Sem Value} {g : Int -> Int}
  (rule : ∀ (i : Int) (t : Tok) (s : Shared) (Q : Value -> Shared -> Prop) (E : Value -> Shared -> Prop), Q (.int (g i) s.toks) { s with toks := s.toks + 1 } -> wpAny (model X.prog X.w) X.A (f (.int i t)) Q E s) :
  UnR X f (rU fun i => .int (g i)) := by
 intro pins s σ H x v Q I rx h
 obtain ⟨i, rfl, q⟩ := h
 obtain ⟨t, rfl⟩ := rx
 exact rule i t s _ _ ⟨.int (g i), H, I.tok _, ⟨_, rfl⟩, q⟩
theorem un_neg : UnR X (unaryOp .USub) (rU fun i => .int (-i)) := unI fun _ _ _ _ _ q => neg_int q
end
def scal : V -> V -> Bool
 | .non, .non => true | .non, .int _ => true | .int _, .non => true | .non, .bl _ => true | .bl _, .non => true | .non, .str _ => true | .str _, .non => true
 | .int _, .int _ => true | .bl _, .bl _ => true | .str _, .str _ => true | .byt _, .byt _ => true
 | .int _, .str _ => true | .str _, .int _ => true | .bl _, .str _ => true | .str _, .bl _ => true
 | _, _ => false
def rEq : R2 := fun x y H Q => scal x y = true /\ Q (.bl (decide (x = y))) H
def rNe : R2 := fun x y H Q => scal x y = true /\ Q (.bl (!decide (x = y))) H
theorem dec_int {i j : Int} : decide (V.int i = V.int j) = (i == j) := by
 rw [Bool.eq_iff_iff]
 simp
theorem dec_bl {i j : Bool} : decide (V.bl i = V.bl j) = (i == j) := by
 rw [Bool.eq_iff_iff]
 simp
theorem dec_str {i j : Str} : decide (V.str i = V.str j) = (i == j) := by
 rw [Bool.eq_iff_iff]
 simp
theorem dec_byt {i j : Array UInt8} : decide (V.byt i = V.byt j) = (i.toList == j.toList) := by
 rw [Bool.eq_iff_iff]
 cases i
 cases j
 simp
section
variable {X : Cx} {a b c : Expr} {ta tb tc : TE} {pos : Pos}
theorem fin_bl {pins : List (Addr × Obj)} {σ : St} {H : Hp} {s : Shared} {Q : VK} {k k' : Bool} (I : Inv X pins σ H s) (q : Q (.bl k) H) (e : k = k') : EP X pins σ Q (.bool k') s := by
 subst e
 exact ⟨.bl k, H, I, rfl, q⟩
theorem op_eq : OpR X (compareOp .Eq) rEq := by
 intro pins s σ H x y v u Q I rx ry h
 obtain ⟨hs, q⟩ := h
 cases x with
 | non =>
  cases rx
  cases y with
  | non => cases ry; exact PySem.EqNone.eq_none_none (fin_bl I q (by simp))
  | bl j => cases ry; exact PySem.EqNone.eq_none_bool (fin_bl I q (by simp))
  | int j => obtain ⟨t', rfl⟩ := ry; exact PySem.EqNone.eq_none_int (fin_bl I q (by simp))
  | str j => obtain ⟨t', rfl⟩ := ry; exact PySem.EqNone.eq_none_str (fin_bl I q (by simp))
  | _ => exact absurd (show false = true from hs) Bool.false_ne_true
 | bl i =>
  cases rx
  cases y with
  | non => cases ry; exact PySem.EqNone.eq_bool_none (fin_bl I q (by simp))
  | bl j => cases ry; exact eq_bool (fin_bl I q dec_bl)
  | str j => obtain ⟨t', rfl⟩ := ry; exact PySem.EqMixed.eq_bool_str (fin_bl I q (by simp))
  | _ => exact absurd (show false = true from hs) Bool.false_ne_true
 | int i =>
  obtain ⟨t, rfl⟩ := rx
  cases y with
  | non => cases ry; exact PySem.EqNone.eq_int_none (fin_bl I q (by simp))
  | int j => obtain ⟨t', rfl⟩ := ry; exact eq_int (fin_bl I q dec_int)
  | str j => obtain ⟨t', rfl⟩ := ry; exact PySem.EqMixed.eq_int_str (fin_bl I q (by simp))
  | _ => exact absurd (show false = true from hs) Bool.false_ne_true
 | str i =>
  obtain ⟨t, rfl⟩ := rx
  cases y with
  | non => cases ry; exact PySem.EqNone.eq_str_none (fin_bl I q (by simp))
  | bl j => cases ry; exact PySem.EqMixed.eq_str_bool (fin_bl I q (by simp))
  | int j => obtain ⟨t', rfl⟩ := ry; exact PySem.EqMixed.eq_str_int (fin_bl I q (by simp))
  | str j => obtain ⟨t', rfl⟩ := ry; exact eq_str (fin_bl I q dec_str)
  | _ => exact absurd (show false = true from hs) Bool.false_ne_true
 | byt i =>
  obtain ⟨t, rfl⟩ := rx
  cases y with
  | byt j => obtain ⟨t', rfl⟩ := ry; exact W.eq_bytes (fin_bl I q dec_byt)
  | _ => exact absurd (show false = true from hs) Bool.false_ne_true
 | _ => cases y <;> exact absurd (show false = true from hs) Bool.false_ne_true
theorem op_ne : OpR X (compareOp .NotEq) rNe := by
 intro pins s σ H x y v u Q I rx ry h
 obtain ⟨hs, q⟩ := h
 cases x with
 | non =>
  cases rx
  cases y with
  | non => cases ry; exact PySem.EqNone.ne_none_none (fin_bl I q (by simp))
  | bl j => cases ry; exact PySem.EqNone.ne_none_bool (fin_bl I q (by simp))
  | int j => obtain ⟨t', rfl⟩ := ry; exact PySem.EqNone.ne_none_int (fin_bl I q (by simp))
  | str j => obtain ⟨t', rfl⟩ := ry; exact PySem.EqNone.ne_none_str (fin_bl I q (by simp))
  | _ => exact absurd (show false = true from hs) Bool.false_ne_true
 | bl i =>
  cases rx
  cases y with
  | non => cases ry; exact PySem.EqNone.ne_bool_none (fin_bl I q (by simp))
  | bl j => cases ry; exact ne_bool (fin_bl I q (congrArg not dec_bl))
  | str j => obtain ⟨t', rfl⟩ := ry; exact PySem.EqMixed.ne_bool_str (fin_bl I q (by simp))
  | _ => exact absurd (show false = true from hs) Bool.false_ne_true
 | int i =>
  obtain ⟨t, rfl⟩ := rx
  cases y with
  | non => cases ry; exact PySem.EqNone.ne_int_none (fin_bl I q (by simp))
  | int j => obtain ⟨t', rfl⟩ := ry; exact ne_int (fin_bl I q (congrArg not dec_int))
  | str j => obtain ⟨t', rfl⟩ := ry; exact PySem.EqMixed.ne_int_str (fin_bl I q (by simp))
  | _ => exact absurd (show false = true from hs) Bool.false_ne_true
 | str i =>
  obtain ⟨t, rfl⟩ := rx
  cases y with
  | non => cases ry; exact PySem.EqNone.ne_str_none (fin_bl I q (by simp))
  | bl j => cases ry; exact PySem.EqMixed.ne_str_bool (fin_bl I q (by simp))
  | int j => obtain ⟨t', rfl⟩ := ry; exact PySem.EqMixed.ne_str_int (fin_bl I q (by simp))
  | str j => obtain ⟨t', rfl⟩ := ry; exact ne_str (fin_bl I q (congrArg not dec_str))
  | _ => exact absurd (show false = true from hs) Bool.false_ne_true
 | byt i =>
  obtain ⟨t, rfl⟩ := rx
  cases y with
  | byt j => obtain ⟨t', rfl⟩ := ry; exact W.ne_bytes (fin_bl I q (congrArg not dec_byt))
  | _ => exact absurd (show false = true from hs) Bool.false_ne_true
 | _ => cases y <;> exact absurd (show false = true from hs) Bool.false_ne_true
theorem op_lt : OpR X (compareOp .Lt) (rI0 fun i j => .bl (decide (i < j))) := opB0 fun _ _ _ _ _ _ _ q => lt_int q
theorem op_gt : OpR X (compareOp .Gt) (rI0 fun i j => .bl (decide (j < i))) := opB0 fun _ _ _ _ _ _ _ q => gt_int q
theorem op_ge : OpR X (compareOp .GtE) (rI0 fun i j => .bl (decide (j <= i))) := opB0 fun _ _ _ _ _ _ _ q => ge_int q
theorem OpR.or {f : Value -> Value -> Sem Value} {r r' : R2} (h : OpR X f r) (h' : OpR X f r') : OpR X f (fun x y H Q => r x y H Q \/ r' x y H Q) := by
 intro pins s σ H x y v u Q I rx ry q
 rcases q with q | q
 ·exact h pins s σ H x y v u Q I rx ry q
 ·exact h' pins s σ H x y v u Q I rx ry q
theorem nomark (b : Expr) {op : CmpOp} (h : op ≠ .In := by decide) (h2 : op ≠ .NotIn := by decide) : behindInMarks op b = false := by
 have e1 : (op == CmpOp.In) = false := by cases op <;> first | rfl | exact absurd rfl h
 have e2 : (op == CmpOp.NotIn) = false := by cases op <;> first | rfl | exact absurd rfl h2
 cases b <;> simp [behindInMarks, e1, e2]
theorem pe_cmpR {op : CmpOp} {r : R2} (ho : OpR X (compareOp op) r) (ha : PE X a ta) (hb : PE X b tb) (hm : behindInMarks op b = false) : PE X (.Compare a [op] [b] pos) (tOp r ta tb) := by
 intro pins s σ H Q I h
 exact wpAny_Compare1 (binT ha hb I h fun v u s2 x y H2 I2 rx ry q => ho pins s2 σ H2 x y v u Q I2 rx ry q) hm
def tTest (t : TE) : TT := fun σ H Q => t σ H fun x H' => ∃ k, x = .bl k /\ Q k H'
theorem pt_cmpR {op : CmpOp} {r : R2} (ho : OpR X (compareOp op) r) (ha : PE X a ta) (hb : PE X b tb) (hm : behindInMarks op b = false) : PT X (.Compare a [op] [b] pos) (tTest (tOp r ta tb)) := by
 intro pins s σ H Q I h
 refine wpAny_isTrue_Compare1 (thn (ha pins s σ H _ I h) fun v s1 ⟨x, H1, I1, r1, q1⟩ => thn (hb pins s1 σ H1 _ I1 q1) fun u s2 ⟨y, H2, I2, r2, q2⟩ =>
  thn (ho pins s2 σ H2 x y v u _ I2 r1 r2 q2) fun c s3 ⟨z, H3, I3, r3, k, e, q3⟩ => ?_) hm
 subst e
 cases r3
 exact wpAny_truthy_bool ⟨H3, I3, q3⟩
def TruV (K : W.Frag) (x : V) (H : Hp) (k : Bool) : Prop :=
 match x with
 | .non => k = false
 | .bl b => k = b
 | .int i => k = (i != 0)
 | .str y => y.length <= sizeLine /\ k = ((y.length : Int) != 0)
 | .byt y => y.size <= sizeLine /\ k = ((y.size : Int) != 0)
 | .ref p => (∃ xs, SqL K H p xs /\ k = !xs.isEmpty) \/ (∃ xs, SqT K H p xs /\ k = !xs.isEmpty) \/ ∃ kvs, H p = some (.dK kvs) /\ k = !kvs.isEmpty
 | _ => False
theorem isEmpty_kv {κ : Type} {kvs : List (κ × V)} {vs : List (κ × Value)} (r : KV kvs vs) : (!vs.isEmpty) = !kvs.isEmpty := by
 cases r <;> rfl
theorem isEmpty_of {xs : List V} {its : List Value} (r : Vals xs its) : (!its.toArray.isEmpty) = !xs.isEmpty := by
 cases r <;> simp
theorem line63 : (sizeLine : Nat) < 2 ^ 63 := by rw [sizeLine_eq]; decide
theorem tru_ok : TruR X (fun x H Q => ∃ k, TruV X.K x H k /\ Q k H) := by
 intro pins s σ H x v Q I rx h
 obtain ⟨k, e, q⟩ := h
 have hl := line63
 have hs : sizeLine = 16777216 := sizeLine_eq
 cases x with
 | non =>
  cases rx
  have e' : k = false := e
  subst e'
  exact truthy_none ⟨H, I, q⟩
 | bl b =>
  cases rx
  have e' : k = b := e
  subst e'
  exact wpAny_truthy_bool ⟨H, I, q⟩
 | int i =>
  obtain ⟨t, rfl⟩ := rx
  have e' : k = (i != 0) := e
  subst e'
  exact PySem.P.truthy_int ⟨H, I, q⟩
 | str y =>
  obtain ⟨t, rfl⟩ := rx
  obtain ⟨hy, e'⟩ : y.length <= sizeLine /\ k = ((y.length : Int) != 0) := e
  subst e'
  exact PySem.P.truthy_str (by omega) ⟨H, I.tok _, q⟩
 | byt y =>
  obtain ⟨t, rfl⟩ := rx
  obtain ⟨hy, e'⟩ : y.size <= sizeLine /\ k = ((y.size : Int) != 0) := e
  subst e'
  exact W.truthy_bytes (by omega) ⟨H, I.tok _, q⟩
 | ref p =>
  cases rx
  have e' : (∃ xs, SqL X.K H p xs /\ k = !xs.isEmpty) \/ (∃ xs, SqT X.K H p xs /\ k = !xs.isEmpty) \/ ∃ kvs, H p = some (.dK kvs) /\ k = !kvs.isEmpty := e
  rcases e' with ⟨xs, hx, e'⟩ | ⟨xs, hx, e'⟩ | ⟨kvs, hx, e'⟩
  ·subst e'
   obtain ⟨its, r, pl, hz⟩ := I.list hx
   have hlen := r.length
   exact wpAny_truthy_list pl.isList (by simp only [size_toArray]; omega) ⟨H, I.tok _, by rw [isEmpty_of r]; exact q⟩
  ·subst e'
   obtain ⟨its, r, pl, hz⟩ := I.tuple hx
   have hlen := r.length
   exact truthy_tuple pl (by simp only [size_toArray]; omega) ⟨H, I.tok _, by rw [isEmpty_of r]; exact q⟩
  ·subst e'
   obtain ⟨hz, hS, vs, r, m⟩ : kvs.length <= sizeLine /\ (p == sysModules) = false /\ ∃ vs, KV kvs vs /\ s.heap.DictOf (mixKind X.prog X.w) p vs := I.hok p _ hx
   have hlen : kvs.length = vs.length := Paired.length r
   exact wpAny_truthy_dict hS m (by omega) ⟨H, I.tok _, by rw [isEmpty_kv r]; exact q⟩
 | _ => exact (show False from e).elim
theorem pt_truth (ha : PE X a ta) (he : ∀ whole, isTrue a X.env whole = (do let v ← whole; standAt a.pos; holding [v] (truthy v))) :
  PT X a (fun σ H Q => ta σ H fun x H' => ∃ k, TruV X.K x H' k /\ Q k H') := by
 intro pins s σ H Q I h
 exact isTrue_plain (thn (ha pins s σ H _ I h) fun v s1 ⟨x, H1, I1, r1, q1⟩ => tru_ok pins s1 σ H1 x v Q I1 r1 q1) (he _)
theorem vals1 {x : V} {us : List Value} (r : Vals [x] us) : ∃ u, us = [u] /\ RelV x u := by
 cases r with
 | cons r1 r2 => cases r2; exact ⟨_, rfl, r1⟩
theorem vals2 {x y : V} {us : List Value} (r : Vals [x, y] us) : ∃ u w', us = [u, w'] /\ RelV x u /\ RelV y w' := by
 cases r with
 | cons r1 r2 =>
  cases r2 with
  | cons r3 r4 => cases r4; exact ⟨_, _, rfl, r1, r3⟩
theorem call_abs : CallR X (.builtin "abs") (fun xs H Q => ∃ i, xs = [.int i] /\ Q (.int (if i < 0 then -i else i)) H) := by
 intro pins s σ H xs us Q I r h
 obtain ⟨i, rfl, q⟩ := h
 obtain ⟨u, rfl, t, rfl⟩ := vals1 r
 exact call_abs_int fun u tk => ⟨.int (if i < 0 then -i else i), H, I.tok _, ⟨_, rfl⟩, q⟩
theorem call_max2 (hc : X.calm = true) : CallR X (.builtin "max") (fun xs H Q => ∃ i j, xs = [.int i, .int j] /\ Q (.int (if j > i then j else i)) H) := by
 intro pins s σ H xs us Q I r h
 obtain ⟨i, j, rfl, q⟩ := h
 obtain ⟨u, w', rfl, ⟨t, rfl⟩, ⟨t', rfl⟩⟩ := vals2 r
 refine max_two_ints (I.ok.hd hc) fun h' tk k => ⟨_, H, I.kept k, ?_, q⟩
 by_cases hj : j > i
 ·rw [if_pos hj, if_pos hj]; exact ⟨_, rfl⟩
 ·rw [if_neg hj, if_neg hj]; exact ⟨_, rfl⟩
theorem call_min2 (hc : X.calm = true) : CallR X (.builtin "min") (fun xs H Q => ∃ i j, xs = [.int i, .int j] /\ Q (.int (if j < i then j else i)) H) := by
 intro pins s σ H xs us Q I r h
 obtain ⟨i, j, rfl, q⟩ := h
 obtain ⟨u, w', rfl, ⟨t, rfl⟩, ⟨t', rfl⟩⟩ := vals2 r
 refine min_two_ints (I.ok.hd hc) fun h' tk k => ⟨_, H, I.kept k, ?_, q⟩
 by_cases hj : j < i
 ·rw [if_pos hj, if_pos hj]; exact ⟨_, rfl⟩
 ·rw [if_neg hj, if_neg hj]; exact ⟨_, rfl⟩
theorem call_int1 : CallR X (.type "int") (fun xs H Q => (∃ i, xs = [.int i] /\ Q (.int i) H) \/ ∃ k, xs = [.bl k] /\ Q (.int (if k then 1 else 0)) H) := by
 intro pins s σ H xs us Q I r h
 rcases h with ⟨i, rfl, q⟩ | ⟨k, rfl, q⟩
 ·obtain ⟨u, rfl, t, rfl⟩ := vals1 r
  exact call_int_int ⟨.int i, H, I, ⟨_, rfl⟩, q⟩
 ·obtain ⟨u, rfl, r1⟩ := vals1 r
  cases r1
  exact call_int_bool ⟨.int (if k then 1 else 0), H, I.tok _, ⟨_, rfl⟩, q⟩
end
end
section
structure ObjM (h : Heap) (x dx C : Addr) (mA : Str -> Option Value) : Prop where
 obj : h.get? x = some (W.instObj C dx)
 ns : h.Ns1 dx mA
 ne : dx ≠ x
theorem lookIn_ns {h : Heap} {dx : Addr} {mA : Str -> Option Value} (n : h.Ns1 dx mA) : ∃ od, h.get? dx = some od /\ ∀ name, W.lookIn name od = some (mA name) := by
 obtain ⟨o, es, ep, ho, hd, hk, _, hm⟩ := n
 refine ⟨o, ho, fun name => ?_⟩
 have e := hm name
 unfold nsFind findBy at e
 rw [<- Array.find?_toList] at e
 unfold W.lookIn
 rw [hd]
 dsimp only
 split
 ·rename_i y q
  rw [q] at e
  exact congrArg some e
 ·rename_i q
  rw [q] at e
  have a : es.toList.any (·.refKey) = false := by
   rw [any_eq_false]
   intro y hy
   obtain ⟨z, t, hkey⟩ := hk y (Array.mem_toList_iff.mp hy)
   simp [DictEntry.refKey, hkey]
  have a' : ¬ es.toList.any (·.refKey) = true := by rw [a]; exact Bool.false_ne_true
  rw [if_neg a']
  exact congrArg some e
theorem ObjM.look {h : Heap} {x dx C : Addr} {mA : Str -> Option Value} (I : ObjM h x dx C mA) : ∃ od, W.InstAt h x (W.instObj C dx) C (some od) /\ ∀ name, W.lookIn name od = some (mA name) :=
 let ⟨od, ho, hl⟩ := lookIn_ns I.ns
 ⟨od, ⟨I.obj, rfl, rfl, ho⟩, hl⟩
section
variable {prog : Program} {w : World} {A : Around} {E : Value -> Shared -> Prop} {s : Shared} {K : W.Frag} {x dx C f : Addr} {mA : Str -> Option Value} {name : Str} {v : Value}
end
def putF (f : Str) (v : V) : List (Str × V) -> List (Str × V)
 | [] => [(f, v)]
 | (g, x) :: r => if g = f then (g, v) :: r else (g, x) :: putF f v r
section
variable {P : Program} {w : World} {H H' : Hp} {h h' : Heap} {a C dx : Addr} {fs fs' : List (Str × V)}
theorem ins_get (hok : HOk P w H h) (e : H a = some (.ins C dx fs)) : ∃ mA, ObjM h a dx C mA /\ (∀ f, RelO (fs.lookup f) (mA f)) /\ PySem.Within mA (fs.map (·.1)) /\ fs.length <= 1000 /\ H dx = some (.own a) := by
 obtain ⟨d, z, ne, ob, mA, n, r, q⟩ := (show ObjOk P w H h a (.ins C dx fs) from hok a _ e)
 exact ⟨mA, ⟨ob, n, ne⟩, r, q, z, d⟩
end
structure Cls (K : W.Frag) (C : Addr) : Prop where
 pg : W.plainGet K C Str.empty = true
 hd : W.hasDictIn K C = true
 po : W.plainOver K C = true
 sa : W.findIn K (.ref C) "__setattr__" = some (some (.builtin "object.__setattr__"))
theorem Cls.get {K : W.Frag} {C : Addr} (c : Cls K C) (f : Str) : W.plainGet K C f = true := c.pg
structure Con (K : W.Frag) (C : Addr) (f : Str) (v : V) (u : Value) : Prop where
 at_ : W.findIn K (.ref C) f = some (some u)
 rel : RelV v u
 get : W.specialIn K u "__get__" = some none
 cp : W.copiedNames.contains f = false
structure Meth (K : W.Frag) (C : Addr) (m : Str) (f : Addr) : Prop where
 at_ : W.findIn K (.ref C) m = some (some (.ref f))
 fn : W.isFn K (.ref f) = true
 kp : W.keepIn K (.ref f) = true
section
variable {X : Cx} {pins : List (Addr × Obj)} {σ : St} {H : Hp} {s : Shared} {a C dx : Addr} {fs : List (Str × V)} {f : Str} {v : V} {A : Around} {E : Value -> Shared -> Prop}
theorem Inv.made (I : Inv X pins σ H s) : Inv X pins σ (upd (upd H s.heap.objs.size (.own (s.heap.objs.size + 1))) (s.heap.objs.size + 1) (.ins C s.heap.objs.size []))
  { s with heap := (s.heap.push W.emptyDict).push (W.instObj C s.heap.objs.size) } := by
 have e1 : (s.heap.push W.emptyDict).get? s.heap.objs.size = some W.emptyDict := Heap.get?_push_size s.heap rfl
 have e2 : ((s.heap.push W.emptyDict).push (W.instObj C s.heap.objs.size)).get? (s.heap.objs.size + 1) = some (W.instObj C s.heap.objs.size) := by
  have := Heap.get?_push_size (s.heap.push W.emptyDict) (o := W.instObj C s.heap.objs.size) rfl
  rwa [Heap.size_push] at this
 have e3 : (s.heap.push W.emptyDict).Ns s.heap.objs.size (fun _ => none) := ⟨W.emptyDict, #[], _, e1, rfl, (fun e he => absurd he (by simp)), fun _ => rfl⟩
 have I1 := I.laid (a := s.heap.objs.size) (o := .own (s.heap.objs.size + 1)) (h' := s.heap.push W.emptyDict) (t' := s.toks) (fun b u q => Heap.get?_push_of_some _ q) (Nat.le_refl _) ⟨_, e1⟩
 refine I1.laid (a := s.heap.objs.size + 1) (o := .ins C s.heap.objs.size []) (t' := s.toks) (fun b u q => Heap.get?_push_of_some _ q) (Nat.le_of_eq (Heap.size_push _ _)) ?_
 have ne : s.heap.objs.size ≠ s.heap.objs.size + 1 := Nat.ne_of_lt (Nat.lt_succ_self _)
 refine ⟨by rw [upd_ne ne, upd_same], Nat.zero_le _, ne, e2, fun _ => none, (Heap.Ns1.of_empty e3).at fun o q => Heap.get?_push_of_some _ q, fun _ => True.intro, fun y hy => absurd rfl hy⟩
end
section
variable {X : Cx} {o e value : Expr} {f : Str} {pos pos' tpos : Pos} {ta tv : TE}
end
section
variable {X : Cx} {pins : List (Addr × Obj)} {σ : St} {H : Hp} {s : Shared} {A : Around} {E : Value -> Shared -> Prop} {Q : Value -> Shared -> Prop} {c : Value} {b : Bool}
inductive TyOf (K : W.Frag) (H : Hp) : V -> Value -> Prop where
 | non : TyOf K H .non (.type "NoneType")
 | bl (x : Bool) : TyOf K H (.bl x) (.type "bool")
 | int (i : Int) : TyOf K H (.int i) (.type "int")
 | str (x : Str) : TyOf K H (.str x) (.type "str")
 | flt (x : UInt64) : TyOf K H (.flt x) (.type "float")
 | lst {a : Addr} {xs : List V} (e : H a = some (.lst xs)) : TyOf K H (.ref a) (.type "list")
 | frz {a : Addr} {o : Obj} {xs : List V} (e : H a = some (.frz o (.lst xs))) : TyOf K H (.ref a) (.type "list")
 | tup {a : Addr} {xs : List V} (e : H a = some (.tup xs)) : TyOf K H (.ref a) (.type "tuple")
 | dK {a : Addr} {kvs : List (Key × V)} (e : H a = some (.dK kvs)) : TyOf K H (.ref a) (.type "dict")
 | dT {a : Addr} {kvs : List (List Key × V)} (e : H a = some (.dT kvs)) : TyOf K H (.ref a) (.type "dict")
 | ins {a C dx : Addr} {fs : List (Str × V)} (e : H a = some (.ins C dx fs)) (cl : Cls K C) (ha : W.findIn K (.ref C) "__class__" = some (some (.builtin "object.__class__")))
   (hn : W.specialIn K (.builtin "object.__class__") "__get__" = some (some (.builtin "getset_descriptor.__get__"))) (htk : W.takesIn K (.builtin "object.__class__") = some true)
   (hm : W.mroIn K C (.type "object") = some true) : TyOf K H (.ref a) (.ref C)
theorem isinst_ok {x : V} {u t : Value} (I : Inv X pins σ H s) (rx : RelV x u) (ty : TyOf X.K H x t) (e : W.kitOne X.K t c = some b) (h : ∀ tk, Q (.bool b) { s with toks := tk }) :
  wpAny (model X.prog X.w) A (call (.builtin "isinstance") [u, c]) Q E s := by
 cases ty with
 | non => cases (show u = Value.none from rx); exact W.kia_one W.kitx_none I.kIn True.intro e (fun z => nomatch z) h
 | bl y => cases (show u = Value.bool y from rx); exact W.kia_one W.kitx_bool I.kIn True.intro e (fun z => nomatch z) h
 | int i => obtain ⟨t, q⟩ := (show ∃ t, u = Value.int i t from rx); cases q; exact W.kia_one W.kitx_int I.kIn True.intro e (fun z => nomatch z) h
 | str y => obtain ⟨t, q⟩ := (show ∃ t, u = Value.str y t from rx); cases q; exact W.kia_one W.kitx_str I.kIn True.intro e (fun z => nomatch z) h
 | flt y => obtain ⟨t, q⟩ := (show ∃ t, u = Value.float y t from rx); cases q; exact W.kia_one W.kitx_float I.kIn True.intro e (fun z => nomatch z) h
 | @lst a xs ea =>
  cases (show u = Value.ref a from rx)
  obtain ⟨_, _, n, _, h1⟩ := (show ObjOk X.prog X.w H s.heap a (.lst xs) from I.hok a _ ea)
  exact W.kia_one W.kitx_list I.kIn ⟨_, h1, rfl⟩ e (fun z => nomatch z) h
 | @frz a ob xs ea =>
  cases (show u = Value.ref a from rx)
  obtain ⟨_, _, _, n, _, h1⟩ := (show ObjOk X.prog X.w H s.heap a (.frz ob (.lst xs)) from I.hok a _ ea)
  exact W.kia_one W.kitx_list I.kIn ⟨_, h1, rfl⟩ e (fun z => nomatch z) h
 | @tup a xs ea =>
  cases (show u = Value.ref a from rx)
  obtain ⟨_, _, _, p⟩ := (show ObjOk X.prog X.w H s.heap a (.tup xs) from I.hok a _ ea)
  obtain ⟨o, h1, h2, _⟩ := p
  exact W.kia_one W.kitx_tuple I.kIn ⟨o, h1, h2⟩ e (fun z => nomatch z) h
 | @dK a kvs ea =>
  cases (show u = Value.ref a from rx)
  obtain ⟨_, _, vs, _, p⟩ := (show ObjOk X.prog X.w H s.heap a (.dK kvs) from I.hok a _ ea)
  obtain ⟨o, es, ep, h1, h2, _⟩ := p
  exact W.kia_one W.kitx_dict I.kIn ⟨o, h1, h2.1⟩ e (fun z => nomatch z) h
 | @dT a kvs ea =>
  cases (show u = Value.ref a from rx)
  obtain ⟨_, _, xs, _, o, es, ep, h1, h2, _⟩ := (show ObjOk X.prog X.w H s.heap a (.dT kvs) from I.hok a _ ea)
  exact W.kia_one W.kitx_dict I.kIn ⟨o, h1, h2.1⟩ e (fun z => nomatch z) h
 | @ins a C dx fs ea cl ha hn htk hm =>
  cases (show u = Value.ref a from rx)
  obtain ⟨mA, O, _⟩ := ins_get I.hok ea
  obtain ⟨od, J, _⟩ := O.look
  exact W.kia_one (W.kitx_own (cl.get _) cl.hd ha hn htk hm) I.kIn J e (fun z => nomatch z) h
end
end
section
structure Room (k : Nat) (A : Around) : Prop where
 hd : A.handled = none
 dp : A.depth + 3 * k + 5 < recursionLimit
 un : A.units + 16 * k + 200 < cLine
theorem Room.mono {j k : Nat} {A : Around} (r : Room k A) (h : j <= k) : Room j A := ⟨r.hd, by have := r.dp; omega, by have := r.un; omega⟩
theorem Room.deeper {k : Nat} {A : Around} (r : Room (k + 1) A) (env : Env) : Room k (A.deeper env) :=
 ⟨r.hd, by have := r.dp; show A.depth + 1 + 3 * k + 5 < _; omega, by have := r.un; show A.units + 3 + 16 * k + 200 < _; omega⟩
theorem Room.in1 {k : Nat} {A : Around} (r : Room (k + 1) A) : Room k A.in1 :=
 ⟨r.hd, by have := r.dp; show A.depth + 3 * k + 5 < _; omega, by have := r.un; show A.units + 1 + 16 * k + 200 < _; omega⟩
theorem Room.depth {k : Nat} {A : Around} (r : Room k A) : A.depth < recursionLimit := by have := r.dp; omega
theorem Room.units {k : Nat} {A : Around} (r : Room k A) : A.units + 64 < cLine := by have := r.un; omega
def tNil : TA := fun _ H Q => Q [] H
def tCons (ta : TE) (tr : TA) : TA := fun σ H Q => ta σ H fun x H1 => tr σ H1 fun xs H2 => Q (x :: xs) H2
section
variable {X : Cx} {e : Expr} {es : List Expr} {te : TE} {t : TA} {pos : Pos}
theorem pa_nil : PA X [] tNil := fun _ _ _ _ H Q I h => Calls.spliced_nil ⟨[], H, I, .nil, h⟩
theorem pa_cons (ha : PE X e te) (hr : PA X es t) (hs : starEach (e :: es) X.env = (false, eval e X.env) :: starEach es X.env := by rfl) : PA X (e :: es) (tCons te t) := by
 intro pos pins s σ H Q I h
 rw [hs]
 show wpAny _ _ (spliced ((false, eval e X.env) :: backTo pos (starEach es X.env))) _ _ s
 refine Calls.spliced_cons (thn (ha pins s σ H _ I h) fun u s1 hpat => ?_)
 obtain ⟨x, H1, I1, r1, q1⟩ := hpat
 exact thn (hr pos pins s1 σ H1 _ I1 q1) fun us s2 ⟨xs, H2, I2, r2, q2⟩ => ⟨x :: xs, H2, I2, .cons r1 r2, q2⟩
def tTup (t : TA) : TE := fun σ H Q => t σ H fun xs H1 => xs.length <= sizeLine /\ ∀ p, H1 p = none -> Q (.ref p) (upd H1 p (.tup xs))
def tLst (t : TA) : TE := fun σ H Q => t σ H fun xs H1 => xs.length <= sizeLine /\ ∀ p, H1 p = none -> Q (.ref p) (upd H1 p (.lst xs))
theorem pe_tup {x1} (h : PA X es t) : PE X (.Tuple es x1 pos) (tTup t) := by
 intro pins s σ H Q I hq
 refine wpAny_Tuple_spliced (thn (h pos pins s σ H _ I hq) fun us s1 ⟨xs, H1, I1, r, z, q⟩ => ⟨by rw [<- r.length]; exact z, ?_⟩)
 have hf : H1 s1.heap.objs.size = none := I1.hok.fresh (Nat.le_refl _)
 refine ⟨.ref s1.heap.objs.size, upd H1 s1.heap.objs.size (.tup xs), I1.laid (t' := s1.toks) (fun b u e => Heap.get?_push_of_some _ e) (Nat.le_refl _) ?_, rfl, q _ hf⟩
 exact ⟨z, us, r, ⟨_, Heap.get?_push_size _ rfl, rfl, _, rfl⟩⟩
theorem pe_lst (h : PA X es t) : PE X (.List es pos) (tLst t) := by
 intro pins s σ H Q I hq
 refine wpAny_List_spliced (thn (h pos pins s σ H _ I hq) fun us s1 ⟨xs, H1, I1, r, z, q⟩ => ⟨by rw [<- r.length]; exact z, ?_⟩)
 have hf : H1 s1.heap.objs.size = none := I1.hok.fresh (Nat.le_refl _)
 refine ⟨.ref s1.heap.objs.size, upd H1 s1.heap.objs.size (.lst xs), I1.laid (t' := s1.toks) (fun b u e => Heap.get?_push_of_some _ e) (Nat.le_refl _) ?_, rfl, q _ hf⟩
 exact ⟨z, us, 0, r, Heap.get?_push_size _ rfl⟩
end
abbrev Sp := List V -> Hp -> VK -> XK -> Prop
abbrev CXT := List Env -> Hp -> Shared -> XK -> Value -> Shared -> Prop
structure Env0 (P : Program) (w : World) (K : W.Frag) (mg : Str -> Option Value) (base : Heap) (A : Around) (outer : List Env) (s : Shared) (H : Hp) : Prop where
 frames : A.frames = some outer
 mod : Mod K mg base
 bs : ∀ b o, base.get? b = some o -> s.heap.get? b = some o /\ H b = none
 bsz : base.objs.size <= s.heap.objs.size
 funs : s.heap.FunFrames base outer
 frf : ∀ b ∈ frs outer, H b = none
 hok : HOk P w H s.heap
 bare : AllBare s.gens
def CE (outer : List Env) (P : Program) (w : World) (H : Hp) (s : Shared) (Q : VK) (u : Value) (s' : Shared) : Prop :=
 ∃ v H', s'.os = s.os /\ AllBare s'.gens /\ Un (frs outer) [] H H' s.heap s'.heap /\ HOk P w H' s'.heap /\ RelV v u /\ Q v H'
def CR (CX : CXT) (outer : List Env) (P : Program) (w : World) (H : Hp) (s : Shared) (Q : VK) (E : XK) (r : Result) (s' : Shared) : Prop :=
 match r with
 | .ok (.ret u) => CE outer P w H s Q u s'
 | .ok _ => False
 | .error e => CX outer H s E e s'
structure FnOk (P : Program) (w : World) (K : W.Frag) (mg : Str -> Option Value) (base : Heap) (CX : CXT) (k : Nat) (f : Addr) (fd : FuncData) (ps : List Str) (sp : Sp) : Prop where
 len : ∀ vs H Q E, sp vs H Q E -> vs.length = ps.length
 run : ∀ (A : Around) (outer : List Env) (s : Shared) (H : Hp) (args : Args) (us : List Value) (vs : List V) (Q : VK) (E : XK), Room k A -> Env0 P w K mg base A outer s H -> BindsTo s fd args (ps.zip us) -> Vals vs us -> sp vs H Q E ->
  codeAny (model P w) A (.call (.ref f) args) (CR CX outer P w H s Q E) s
theorem FnOk.mono {P : Program} {w : World} {K : W.Frag} {mg : Str -> Option Value} {base : Heap} {CX : CXT} {j k : Nat} {f : Addr} {fd : FuncData} {ps : List Str} {sp : Sp} (F : FnOk P w K mg base CX j f fd ps sp) (h : j <= k) :
  FnOk P w K mg base CX k f fd ps sp := ⟨F.len, fun A outer s H args us vs Q E hr => F.run A outer s H args us vs Q E (hr.mono h)⟩
theorem FnOk.imp {P : Program} {w : World} {K : W.Frag} {mg : Str -> Option Value} {base : Heap} {CX : CXT} {k : Nat} {f : Addr} {fd : FuncData} {ps : List Str} {sp sp' : Sp} (F : FnOk P w K mg base CX k f fd ps sp)
  (h : ∀ vs H Q E, sp' vs H Q E -> sp vs H Q E) : FnOk P w K mg base CX k f fd ps sp' :=
 ⟨fun vs H Q E q => F.len vs H Q E (h _ _ _ _ q), fun A outer s H args us vs Q E hr he hb hv hs => F.run A outer s H args us vs Q E hr he hb hv (h _ _ _ _ hs)⟩
theorem Env0.in1 {P : Program} {w : World} {K : W.Frag} {mg : Str -> Option Value} {base : Heap} {A : Around} {outer : List Env} {s : Shared} {H : Hp} (e : Env0 P w K mg base A outer s H) :
  Env0 P w K mg base A.in1 outer s H := ⟨e.frames, e.mod, e.bs, e.bsz, e.funs, e.frf, e.hok, e.bare⟩
section
variable {X : Cx} {pins : List (Addr × Obj)} {σ : St} {H : Hp} {s s' : Shared}
theorem Inv.env0 (I : Inv X pins σ H s) : Env0 X.prog X.w X.K X.mg X.base X.A X.stack s H :=
 ⟨I.ok.frames, I.ok.mod, I.bs, Nat.le_trans I.ok.bsz I.sz, I.stack, I.stkFree, I.hok, I.bare⟩
theorem Inv.after {Q : VK} {u : Value} (I : Inv X pins σ H s) (h : CE X.stack X.prog X.w H s Q u s') : EP X pins σ Q u s' := by
 obtain ⟨v, H', os, bare, un, hok, r, q⟩ := h
 obtain ⟨hh, g, d, t, os'⟩ := s'
 obtain rfl : os' = s.os := os
 exact ⟨v, H', I.call (h' := hh) (g' := g) (d' := d) (t' := t) (ch := []) un hok bare (fun b z => absurd z (by simp)), r, q⟩
end
def tCall (sp : Sp) (dvs : List V) (E : XK) (t : TA) : TE := fun σ H Q => t σ H fun vs H1 => sp (vs ++ dvs) H1 Q E
def Binds (K : W.Frag) (fd : FuncData) (ps : List Str) (ds : List Value) : Prop :=
 ∀ (s : Shared) (us : List Value), K.In s.heap -> (us ++ ds).length = ps.length -> BindsTo s fd ⟨us, []⟩ (ps.zip (us ++ ds))
theorem Binds.all {K : W.Frag} {fd : FuncData} {ps : List Str} (h : ∀ us : List Value, us.length = ps.length -> bindArgs fd ⟨us, []⟩ = pure (ps.zip us)) : Binds K fd ps [] := fun s us _ hl => by
 rw [append_nil] at hl ⊢
 exact .of_eq (h us hl)
def Passes (CX : CXT) (X : Cx) (E : XK) : Prop := ∀ (pins : List (Addr × Obj)) (σ : St) (H : Hp) (s : Shared) (e : Value) (s' : Shared), Inv X pins σ H s -> CX X.stack H s E e s' -> X.xe e s'
section
variable {X : Cx} {CX : CXT} {k : Nat} {f C : Addr} {fd : FuncData} {ps : List Str} {sp : Sp} {dvs : List V} {ds : List Value} {E : XK} {x m : Str} {p pos apos : Pos} {e o : Expr} {es : List Expr} {ta : TE} {t : TA}
theorem run_fn {pins : List (Addr × Obj)} {σ : St} {H : Hp} {s : Shared} {Q : VK} {us : List Value} {vs : List V} (F : FnOk X.prog X.w X.K X.mg X.base CX k f fd ps sp) (hr : Room k X.A) (hb : Binds X.K fd ps ds) (hd : Vals dvs ds) (hx : Passes CX X E)
  (I : Inv X pins σ H s) (r : Vals vs us) (h : sp (vs ++ dvs) H Q E) : wpAny (model X.prog X.w) X.A (call (.ref f) us) (EP X pins σ Q) X.xe s := by
 have r2 : Vals (vs ++ dvs) (us ++ ds) := r.append hd
 have hl : (us ++ ds).length = ps.length := by rw [<- r2.length]; exact F.len _ _ _ _ h
 refine wpAny_call (codeAny_mono (F.run X.A X.stack s H ⟨us, []⟩ (us ++ ds) (vs ++ dvs) Q E hr I.env0 (hb s us I.kIn hl) r2 h) fun r s' hq => ?_)
 cases r with
 | error e => exact hx pins σ H s e s' I hq
 | ok fl =>
  cases fl with
  | ret u => exact I.after hq
  | next => exact False.elim hq
  | brk => exact False.elim hq
  | cont => exact False.elim hq
theorem pe_call (F : FnOk X.prog X.w X.K X.mg X.base CX k f fd ps sp) (hr : Room k X.A) (hg : Gl X x) (hm : X.mg x = some (.ref f)) (hk : W.keepIn X.K (.ref f) = true) (hb : Binds X.K fd ps ds) (hd : Vals dvs ds) (hx : Passes CX X E)
  (ha : PA X (e :: es) t) (hdb : (x == ("__debug__" : Str)) = false := by decide) (he : starEach (e :: es) X.env = (false, eval e X.env) :: starEach es X.env := by rfl) (hpl : (backTo pos (starEach es X.env)).any (·.1) = false := by rfl) :
  PE X (.Call (.Name x p) (e :: es) [] pos) (tCall sp dvs E t) := by
 intro pins s σ H Q I h
 refine wpAny_Call_Name_kw (ld_glob I hg hm ?_ hdb)
 refine W.callWith_K (h₀ := X.base) I.ok.mod.kin hk (thn (ha pos pins s σ H _ I h) fun us s1 ⟨vs, H1, I1, r, q⟩ => ⟨I1.kIn, ?_⟩) he hpl
 exact run_fn F hr hb hd hx I1 r q
structure Mk (K : W.Frag) (C f : Addr) : Prop where
 makes : W.makesIn K C = true
 init : W.findIn K (.ref C) "__init__" = some (some (.ref f))
 fn : W.isFn K (.ref f) = true
 kp : W.keepIn K (.ref C) = true
end
def PK (X : Cx) (kws : List Keyword) (t : TA) : Prop :=
 ∀ (pos : Pos) (pins : List (Addr × Obj)) (s : Shared) (σ : St) (H : Hp) (Q : List V -> Hp -> Prop), Inv X pins σ H s -> t σ H Q -> wpAny (model X.prog X.w) X.A (evalAll ((backToKw pos (keywordEach kws X.env)).map (·.2))) (AP X pins σ Q) X.xe s
section
variable {X : Cx} {CX : CXT} {k : Nat} {f C : Addr} {fd : FuncData} {ps ks : List Str} {sp : Sp} {E : XK} {x m : Str} {p pos apos kpos : Pos} {e o : Expr} {es : List Expr} {kws : List Keyword} {te ta : TE} {t tk : TA} {nm : Option Str}
theorem pk_nil : PK X [] tNil := fun _ _ _ _ H Q I h => wpAny_evalAll_nil ⟨[], H, I, .nil, h⟩
theorem pk_cons (ha : PE X e te) (hr : PK X kws t) : PK X (⟨nm, e, kpos⟩ :: kws) (tCons te t) := by
 intro pos pins s σ H Q I h
 show wpAny _ _ (evalAll ((do let v ← eval e X.env; standAt pos; pure v) :: (backToKw pos (keywordEach kws X.env)).map (·.2))) _ _ s
 refine wpAny_evalAll_cons (wpAny_bind (thn (ha pins s σ H _ I h) fun u s1 ⟨x, H1, I1, r1, q1⟩ => wpAny_bind (wpAny_standAt (wpAny_pure ?_))))
 exact thn (hr pos pins s1 σ H1 _ I1 q1) fun us s2 ⟨xs, H2, I2, r2, q2⟩ => ⟨x :: xs, H2, I2, .cons r1 r2, q2⟩
structure KBinds (K : W.Frag) (fd : FuncData) (ps ks : List Str) (g : List Value -> List Value -> List Value) (gV : List V -> List V -> List V) : Prop where
 to : ∀ (s : Shared) (us ws : List Value), K.In s.heap -> (g us ws).length = ps.length -> BindsTo s fd ⟨us, ks.zip ws⟩ (ps.zip (g us ws))
 rel : ∀ {vs : List V} {us : List Value} {zs : List V} {ws : List Value}, Vals vs us -> Vals zs ws -> Vals (gV vs zs) (g us ws)
variable {g : List Value -> List Value -> List Value} {gV : List V -> List V -> List V}
end
structure FnScope (N P : List Str) (sc : Scope) : Prop where
 kind : sc.kind = .function
 co : sc.isCoroutine = false
 gen : sc.isGenerator = false
 nd : N.Nodup
 pre : N.take P.length = P
 par : ∀ x ∈ P, sc.names.lookup x = some .local \/ sc.names.lookup x = some .cell
 nofree : ∀ y ∈ sc.names, y.2 ≠ .free
theorem bindL_out {kindOf : Str -> Option NameKind} {x : Str} : ∀ {binds : List (Str × Value)} {m : Str -> Option Value}, (∀ v, (x, v) ∉ binds) -> bindL kindOf binds m x = m x
 | [], _, _ => rfl
 | (n, v) :: r, m, h => by
  unfold bindL
  rw [bindL_out fun w hw => h w (mem_cons_of_mem _ hw)]
  split
  ·have : x ≠ n := by rintro rfl; exact h v mem_cons_self
   simp [this]
  ·rfl
theorem bindC_out {kindOf : Str -> Option NameKind} {x : Str} : ∀ {binds : List (Str × Value)} {m : Str -> Option Value}, (∀ v, (x, v) ∉ binds) -> bindC kindOf binds m x = m x
 | [], _, _ => rfl
 | (n, v) :: r, m, h => by
  unfold bindC
  rw [bindC_out fun w hw => h w (mem_cons_of_mem _ hw)]
  split
  ·rfl
  ·have : x ≠ n := by rintro rfl; exact h v mem_cons_self
   simp [this]
theorem bindL_get {kindOf : Str -> Option NameKind} {x : Str} {v : Value} : ∀ {P : List Str} {vs : List Value} {i : Nat} {m : Str -> Option Value}, P.Nodup -> P[i]? = some x -> vs[i]? = some v -> kindOf x = some .local ->
  bindL kindOf (P.zip vs) m x = some v
 | [], _, _, _, _, h, _, _ => by simp at h
 | _ :: _, [], _, _, _, _, h, _ => by simp at h
 | p :: P, w :: vs, 0, m, nd, h1, h2, hk => by
  simp at h1 h2; subst h1; subst h2
  show bindL kindOf ((p, w) :: P.zip vs) m p = _
  unfold bindL
  rw [bindL_out fun v hv => (List.nodup_cons.mp nd).1 (of_mem_zip hv).1, if_pos hk]
  simp
 | p :: P, w :: vs, i + 1, m, nd, h1, h2, hk => by
  show bindL kindOf ((p, w) :: P.zip vs) m x = _
  unfold bindL
  exact bindL_get (i := i) (List.nodup_cons.mp nd).2 (by simpa using h1) (by simpa using h2) hk
theorem bindC_get {kindOf : Str -> Option NameKind} {x : Str} {v : Value} : ∀ {P : List Str} {vs : List Value} {i : Nat} {m : Str -> Option Value}, P.Nodup -> P[i]? = some x -> vs[i]? = some v -> kindOf x ≠ some .local ->
  bindC kindOf (P.zip vs) m x = some v
 | [], _, _, _, _, h, _, _ => by simp at h
 | _ :: _, [], _, _, _, _, h, _ => by simp at h
 | p :: P, w :: vs, 0, m, nd, h1, h2, hk => by
  simp at h1 h2; subst h1; subst h2
  show bindC kindOf ((p, w) :: P.zip vs) m p = _
  unfold bindC
  rw [bindC_out fun v hv => (List.nodup_cons.mp nd).1 (of_mem_zip hv).1, if_neg hk]
  simp
 | p :: P, w :: vs, i + 1, m, nd, h1, h2, hk => by
  show bindC kindOf ((p, w) :: P.zip vs) m x = _
  unfold bindC
  exact bindC_get (i := i) (List.nodup_cons.mp nd).2 (by simpa using h1) (by simpa using h2) hk
def start (N : List Str) (vs : List V) : St := vs.map some ++ List.replicate (N.length - vs.length) none
def cxOf (CX : CXT) (P : Program) (w : World) (K : W.Frag) (mg : Str -> Option Value) (base : Heap) (N : List Str) (qual : Str) (scope : Scope) (f : Addr) (cd : Value) (A : Around) (outer : List Env) (s : Shared) (H : Hp) (E : XK) : Cx where
 prog := P
 w := w
 K := K
 mg := mg
 base := base
 A := A.deeper (envOfC qual scope s.heap.objs.size f cd)
 N := N
 s₀ := s
 H₀ := H
 env := envOfC qual scope s.heap.objs.size f cd
 outer := outer
 stack := envOfC qual scope s.heap.objs.size f cd :: outer
 ex := []
 calm := true
 fn := fun _ => true
 pn := []
 xe := fun e s' => wpAny (model P w) (A.deeper (envOfC qual scope s.heap.objs.size f cd)) (leaving (envOfC qual scope s.heap.objs.size f cd) e) (fun _ s'' => CX outer H s E e s'') (fun e' s'' => CX outer H s E e' s'') s'
theorem cell_has {sc : Scope} {n : Nat} {x : Str} (h : sc.names.lookup x = some .cell) : ∃ c, (cellsFrom n sc.names []).lookup x = some c := by
 have q := W.cellsFrom_some sc.names n [] (.inl h)
 exact Option.isSome_iff_exists.mp q
theorem inv_start {CX : CXT} {P : Program} {w : World} {K : W.Frag} {mg : Str -> Option Value} {base : Heap} {N ps : List Str} {qual : Str} {scope : Scope} {f : Addr} {cd : Value} {A : Around} {outer : List Env} {s s1 : Shared} {H : Hp} {E : XK} {us : List Value} {vs : List V}
  (S : FnScope N ps scope) (hd : A.handled = none) (e0 : Env0 P w K mg base A outer s H) (hl : vs.length = ps.length) (r : Vals vs us)
  (x : InCallC s s.heap.objs.size (bindL (envOfC qual scope s.heap.objs.size f cd).kindOf (ps.zip us) fun _ => none) (cellsFrom (s.heap.objs.size + 1) scope.names []) (bindC (envOfC qual scope s.heap.objs.size f cd).kindOf (ps.zip us) fun _ => none) s1) :
  Inv (cxOf CX P w K mg base N qual scope f cd A outer s H E) [] (start N vs) H s1 := by
 have hpl : ps.length <= N.length := by have := congrArg List.length S.pre; rw [length_take] at this; omega
 obtain ⟨h1, tk, rfl, hk⟩ := x.done
 have noA : ∀ b : Addr, b ∉ (cxOf CX P w K mg base N qual scope f cd A outer s H E).ex := fun b z => absurd (show b ∈ ([] : List Addr) from z) (by simp)
 refine ⟨⟨e0.mod, S.kind, rfl, rfl, Nat.le_refl _, fun y z c h1 h2 => ?_, fun y hy => ?_, fun y c _ h => ?_, fun _ => hd, Around.frames_deeper e0.frames, .inr ⟨rfl, rfl⟩, fun b z => absurd z (noA b), e0.bs, e0.bsz, fun b _ _ => noA b, fun b z => absurd z (noA b), e0.funs, e0.frf⟩,
  rfl, e0.bare, Un.kept hk, ⟨_, x.toInCall.ns, fun i y v h1 h2 h3 => ?_⟩, fun y c h => ⟨_, x.cell y c h⟩, e0.hok.fresh (Nat.le_refl _), fun y c h => ?_, fun p hp => absurd (show p ∈ ([] : List (Addr × Obj)) from hp) (by simp), e0.hok.kept hk, ?_⟩
 ·exact name_of_addr x.apart (PySem.mem_of_lookup h1) (PySem.mem_of_lookup h2)
 ·have hy : scope.names.lookup y = some .cell \/ scope.names.lookup y = some .free := hy
  rcases hy with hy | hy
  ·exact cell_has hy
  ·exact absurd rfl (S.nofree _ (PySem.mem_of_lookup hy))
 ·exact Nat.le_of_lt (x.above y c (PySem.mem_of_lookup h))
 ·have hi : i < vs.length := by
   unfold start at h2
   by_cases hi : i < vs.length
   ·exact hi
   ·rw [getElem?_append_right (by simpa using hi)] at h2
    rw [getElem?_replicate] at h2
    split at h2 <;> cases h2
  have ha : vs[i]? = some v := by
   unfold start at h2
   rw [getElem?_append_left (by simpa using hi), getElem?_map] at h2
   cases e : vs[i]? with
   | none => rw [e] at h2; cases h2
   | some a => rw [e] at h2; cases h2; rfl
  obtain ⟨u, hu, rv⟩ := r.get ha
  have hp : ps[i]? = some y := by
   rw [<- S.pre, getElem?_take_of_lt (by omega)]; exact h1
  have ndP : ps.Nodup := by rw [<- S.pre]; exact S.nd.sublist (take_sublist _ _)
  refine ⟨u, rv, ?_⟩
  rcases S.par y (mem_of_getElem? hp) with k | k
  ·exact .inl ⟨k, bindL_get ndP hp hu k⟩
  ·obtain ⟨c, e⟩ := cell_has (n := s.heap.objs.size + 1) k
   refine .inr ⟨.inl k, c, e, ?_⟩
   have q := x.cell y c e
   rw [bindC_get ndP hp hu (by show scope.names.lookup y ≠ _; rw [k]; decide)] at q
   exact q
 ·exact e0.hok.fresh (Nat.le_of_lt (x.above y c (PySem.mem_of_lookup h)))
 ·unfold start
  show _ = N.length
  rw [length_append, length_map, length_replicate]
  omega
theorem fn_of {CX : CXT} {P : Program} {w : World} {K : W.Frag} {mg : Str -> Option Value} {base : Heap} {k : Nat} {f : Addr} {name qual : Str} {params : Arguments} {body : List Stmt} {scope : Scope} {dV kV doc pm cdv ct oc : Value} {an od : Option Addr}
  {osl : Array (Option Value)} {N ps : List Str} {sp : Sp} (lk : K.lookup f = some ⟨oc, od, .func (W.fnOf name qual params body scope dV kV doc pm an cdv ct), osl⟩) (hcd : W.codeIn K cdv qual = true) (S : FnScope N ps scope)
  (len : ∀ vs H Q E, sp vs H Q E -> vs.length = ps.length)
  (hbody : ∀ (A : Around) (outer : List Env) (s : Shared) (H : Hp) (vs : List V) (Q : VK) (E : XK), Room k (A.deeper (envOfC qual scope s.heap.objs.size f cdv)) -> sp vs H Q E ->
   ∃ t, PSs (cxOf CX P w K mg base N qual scope f cdv A outer s H E) body t /\ t { nx := fun _ H' => Q .non H', rt := Q } (start N vs) H) :
  FnOk P w K mg base CX (k + 1) f (W.fnOf name qual params body scope dV kV doc pm an cdv ct) ps sp := by
 refine ⟨len, fun A outer s H args us vs Q E hr e0 hb r hsp => ?_⟩
 have hl := len _ _ _ _ hsp
 have KX : K.In s.heap := e0.mod.kin.keeps fun b o e => (e0.bs b o e).1
 have lim : s.heap.NoLimit := e0.mod.nolimit.keeps fun b o e => (e0.bs b o e).1
 have hkind : ∀ y ∈ ps.zip us, scope.names.lookup y.1 = some .local \/ (scope.names.lookup y.1 = some .cell /\ ((cellsFrom (s.heap.objs.size + 1) scope.names []).lookup y.1).isSome = true) := fun ⟨n, v⟩ hy => by
  rcases S.par n (of_mem_zip hy).1 with q | q
  ·exact .inl q
  ·exact .inr ⟨q, W.cellsFrom_some _ _ _ (.inl q)⟩
 refine codeAny_call_function hr.depth (KX _ _ lk) rfl S.co S.gen rfl (W.codeRec_of KX hcd) (hb _ _ _ _ ?_)
 refine wpAny_newFunctionEnv_cells S.kind hkind fun env he s1 x => ?_
 subst he
 refine ⟨lim.keeps x.toInCall.keep, codeAny_func ?_⟩
 obtain ⟨t, ht, hq⟩ := hbody A outer s H vs Q E (hr.deeper _) hsp
 have I : Inv (cxOf CX P w K mg base N qual scope f cdv A outer s H E) [] (start N vs) H s1 := inv_start S hr.hd e0 hl r x
 refine wpAny_mono (ht [] s1 (start N vs) H _ I hq) (fun fl s' hs => ?_) fun e s' hs => hs
 have fin : ∀ {σ' : St} {H' : Hp} {v : V} {u : Value}, Inv (cxOf CX P w K mg base N qual scope f cdv A outer s H E) [] σ' H' s' -> RelV v u -> Q v H' -> CE outer P w H s Q u s' :=
  fun {σ' H' v u} J rv q => ⟨v, H', J.os, J.bare, J.base, J.hok, rv, q⟩
 cases fl with
 | ret u =>
  obtain ⟨v, σ', H', J, rv, q⟩ := hs
  exact fin J rv q
 | next =>
  obtain ⟨σ', H', J, q⟩ := hs
  exact fin (v := V.non) (u := Value.none) J rfl q
 | brk =>
  obtain ⟨_, _, _, q⟩ := hs
  exact False.elim q
 | cont =>
  obtain ⟨_, _, _, q⟩ := hs
  exact False.elim q
end
section
section
variable {X : Cx} {x : Str} {p pos : Pos} {e : Expr} {es : List Expr} {t : TA} {id T : String} {r : List V -> Hp -> VK -> Prop}
def tCB (r : List V -> Hp -> VK -> Prop) (t : TA) : TE := fun σ H Q => t σ H fun vs H1 => r vs H1 Q
theorem pe_callB (hc : CallR X (.builtin id) r) (hg : Gl X x) (hm : X.mg x = none) (hv : bootBuiltins x = some (.builtin id)) (ha : PA X (e :: es) t) (hn : x ≠ "__name__" := by decide) (hdb : (x == ("__debug__" : Str)) = false := by decide)
  (he : starEach (e :: es) X.env = (false, eval e X.env) :: starEach es X.env := by rfl) (hpl : (backTo pos (starEach es X.env)).any (·.1) = false := by rfl) : PE X (.Call (.Name x p) (e :: es) [] pos) (tCB r t) := by
 intro pins s σ H Q I h
 refine wpAny_Call_Name_kw (ld_blt I hg hm hv ?_ hn hdb)
 exact PyProof.Rows.callWith_builtin1 (thn (ha pos pins s σ H _ I h) fun us s1 ⟨vs, H1, I1, r1, q1⟩ => hc pins s1 σ H1 vs us Q I1 r1 q1) he hpl
theorem pe_callTy (hc : CallR X (.type T) r) (hg : Gl X x) (hm : X.mg x = none) (hv : bootBuiltins x = some (.type T)) (ha : PA X (e :: es) t) (hn : x ≠ "__name__" := by decide) (hdb : (x == ("__debug__" : Str)) = false := by decide)
  (he : starEach (e :: es) X.env = (false, eval e X.env) :: starEach es X.env := by rfl) (hpl : (backTo pos (starEach es X.env)).any (·.1) = false := by rfl) : PE X (.Call (.Name x p) (e :: es) [] pos) (tCB r t) := by
 intro pins s σ H Q I h
 refine wpAny_Call_Name_kw (ld_blt I hg hm hv ?_ hn hdb)
 exact PyProof.Rows.callWith_type1 (thn (ha pos pins s σ H _ I h) fun us s1 ⟨vs, H1, I1, r1, q1⟩ => hc pins s1 σ H1 vs us Q I1 r1 q1) he hpl
end
end
end L2
namespace HT
open PySem PyProof.Rows
theorem rcLt_int (A : Around) (s : Shared) (a : Int) (t : Tok) (c : Int) (u : Tok) (prog : Program) (w : World) (E : Value -> Shared -> Prop) (Q : Value -> Shared -> Prop) (h : Q (.bool (decide (a < c))) s) :
  wpAny (model prog w) A (richCompare .Lt (.int a t) (.int c u)) Q E s :=
 (PyProof.Rows.lt_int h : wpAny (model prog w) A (compareOp .Lt (.int a t) (.int c u)) Q E s)
section
open PySem.SeqAt
open PySem.AutoSeq1 (wpAny_loadPart')
open PySem.MeetsSeq PySem.MeetsSeq2 PySem.MeetsSeq3
end
section
variable {prog : Program} {w : World} {A : Around} {E : Value -> Shared -> Prop} {s : Shared}
def sIx (n d : Nat) : Option Int -> Nat
 | none => d
 | some v => if v < 0 then (v + (n : Int)).toNat else min v.toNat n
theorem sIx_none (n d : Nat) : sIx n d none = d := rfl
theorem sIx_nat (n d k : Nat) : sIx n d (some (k : Int)) = min k n := by
 show (if (k : Int) < 0 then ((k : Int) + (n : Int)).toNat else min (k : Int).toNat n) = min k n
 rw [if_neg (by omega), Int.toNat_natCast]
end
end HT
namespace L2
open List
open PySem PySem.Spec PyProof.Rows
section
abbrev TO := St -> Hp -> (Option Int -> Hp -> Prop) -> Prop
def PO (X : Cx) (e : Option Expr) (t : TO) : Prop :=
 ∀ (pins : List (Addr × Obj)) (s : Shared) (σ : St) (H : Hp) (Q : Option Int -> Hp -> Prop), Inv X pins σ H s -> t σ H Q ->
  wpAny (model X.prog X.w) X.A (evalPart e X.env) (fun u s' => ∃ o H', Inv X pins σ H' s' /\ IsPart u o /\ Q o H') X.xe s
def tNoPart : TO := fun _ H Q => Q none H
def tPart (t : TE) : TO := fun σ H Q => t σ H fun x H1 => ∃ i, x = .int i /\ Q (some i) H1
section
variable {X : Cx} {e : Expr} {te : TE} {lo hi : Option Expr} {tl th : TO} {pos p2 : Pos}
theorem po_none : PO X none tNoPart := by
 intro pins s σ H Q I h
 rw [evalPart_none]
 exact wpAny_pure ⟨none, H, I, .none, h⟩
theorem po_some (h : PE X e te) : PO X (some e) (tPart te) := by
 intro pins s σ H Q I hw
 rw [evalPart_some]
 refine thn (h pins s σ H _ I hw) fun u s1 hpat => ?_
 obtain ⟨x, H1, I1, r1, q1⟩ := hpat
 obtain ⟨i, rfl, q⟩ := q1
 obtain ⟨t, rfl⟩ := r1
 exact ⟨some i, H1, I1, .int i t, q⟩
def SlR (X : Cx) (r : V -> Option Int -> Option Int -> Hp -> VK -> Prop) : Prop :=
 ∀ (pins : List (Addr × Obj)) (s : Shared) (σ : St) (H : Hp) (x : V) (v vl vu : Value) (lo hi : Option Int) (sl : Addr) (Q : VK), Inv X pins σ H s -> RelV x v -> s.heap.IsSliceOf sl vl vu .none -> IsPart vl lo -> IsPart vu hi -> r x lo hi H Q ->
  ∃ T id, typeLookup (.type T) "__getitem__" = pure (some (.builtin id)) /\ s.TypeIs v T /\ wpAny (model X.prog X.w) X.A (getItem v (.ref sl)) (EP X pins σ Q) X.xe s
theorem SlR.or {r r' : V -> Option Int -> Option Int -> Hp -> VK -> Prop} (h : SlR X r) (h' : SlR X r') : SlR X (fun x lo hi H Q => r x lo hi H Q \/ r' x lo hi H Q) := by
 intro pins s σ H x v vl vu lo hi sl Q I rx hs pl pu q
 rcases q with q | q
 ·exact h pins s σ H x v vl vu lo hi sl Q I rx hs pl pu q
 ·exact h' pins s σ H x v vl vu lo hi sl Q I rx hs pl pu q
def tSl (r : V -> Option Int -> Option Int -> Hp -> VK -> Prop) (te : TE) (tl th : TO) : TE := fun σ H Q => te σ H fun x H1 => tl σ H1 fun l H2 => th σ H2 fun u H3 => r x l u H3 Q
theorem pe_slice {r : V -> Option Int -> Option Int -> Hp -> VK -> Prop} (hr : SlR X r) (he : PE X e te) (hl : PO X lo tl) (hu : PO X hi th) : PE X (.Subscript e (.Slice lo hi none p2) pos) (tSl r te tl th) := by
 intro pins s σ H Q I h
 refine Subscript_ (thn (he pins s σ H _ I h) fun v s1 hpat => ?_)
 obtain ⟨x, H1, I1, r1, q1⟩ := hpat
 refine wpAny_Slice (thn (hl pins s1 σ H1 _ I1 q1) fun vl s2 ⟨l, H2, I2, pl, q2⟩ => thn (hu pins s2 σ H2 _ I2 q2) fun vu s3 hpat => ?_)
 obtain ⟨u, H3, I3, pu, q3⟩ := hpat
 rw [evalPart_none]
 refine wpAny_pure ?_
 have I4 : Inv X pins σ H3 { s3 with heap := s3.heap.push { cls := .type "slice", data := .fields #[vl, vu, .none] } } := I3.kept (t' := s3.toks) fun b ob q => Heap.get?_push_of_some _ q
 obtain ⟨T, id, hT, ht, hg⟩ := hr pins { s3 with heap := s3.heap.push { cls := .type "slice", data := .fields #[vl, vu, .none] } } σ H3 x v vl vu l u s3.heap.objs.size Q I4 r1 (Heap.IsSliceOf.new ..) pl pu q3
 show wpAny (model X.prog X.w) X.A (subscriptTail e (.Slice lo hi none p2) v (.ref s3.heap.objs.size)) (EP X pins σ Q) X.xe { s3 with heap := s3.heap.push { cls := .type "slice", data := .fields #[vl, vu, .none] } }
 exact tail_any (ops := [.ref s3.heap.objs.size, v]) ht hT hg (by with_unfolding_all rfl)
def cutV (xs : List V) (lo hi : Option Int) : List V := (xs.drop (HT.sIx xs.length 0 lo)).take (HT.sIx xs.length xs.length hi - HT.sIx xs.length 0 lo)
theorem cutV_length (xs : List V) (lo hi : Option Int) : (cutV xs lo hi).length <= xs.length := by
 unfold cutV
 rw [length_take, length_drop]
 omega
end
end
section
def ixN (n : Nat) (i : Int) : Option Nat := if 0 <= i then (if i < n then some i.toNat else none) else if -(n : Int) <= i then some (i + n).toNat else none
def atI {α : Type} (xs : List α) (i : Int) : Option α := (ixN xs.length i).bind fun j => xs[j]?
theorem ixN_seq {n : Nat} {i : Int} {j : Nat} (h : ixN n i = some j) : seqIndex? i n = some j /\ j < n /\ -(n : Int) <= i /\ i < n := by
 unfold ixN at h
 by_cases h0 : 0 <= i
 ·rw [if_pos h0] at h
  by_cases h1 : i < n
  ·rw [if_pos h1] at h
   have e : i.toNat = j := Option.some.inj h
   exact ⟨by rw [seqIndex_of h0 h1, e], by omega, by omega, h1⟩
  ·rw [if_neg h1] at h; cases h
 ·rw [if_neg h0] at h
  by_cases h1 : -(n : Int) <= i
  ·rw [if_pos h1] at h
   have e : (i + n).toNat = j := Option.some.inj h
   exact ⟨by rw [seqIndex_neg (by omega) h1, e], by omega, h1, by omega⟩
  ·rw [if_neg h1] at h; cases h
theorem atI_get {α : Type} {xs : List α} {i : Int} {v : α} (h : atI xs i = some v) : ∃ j, seqIndex? i xs.length = some j /\ xs[j]? = some v /\ j < xs.length /\ -(xs.length : Int) <= i /\ i < xs.length := by
 unfold atI at h
 cases e : ixN xs.length i with
 | none => rw [e] at h; cases h
 | some j =>
  rw [e] at h
  obtain ⟨h1, h2, h3, h4⟩ := ixN_seq e
  exact ⟨j, h1, h, h2, h3, h4⟩
def PlainIx (b : Expr) : Prop := ∀ o i, subscripted b false o i = operate [o, i] (getItem o i)
def IxR (X : Cx) (r : R2) : Prop :=
 ∀ (value slice : Expr) (pins : List (Addr × Obj)) (s : Shared) (σ : St) (H : Hp) (x y : V) (v u : Value) (Q : VK), Inv X pins σ H s -> RelV x v -> RelV y u -> r x y H Q ->
  subscripted slice false v u = operate [v, u] (getItem v u) -> wpAny (model X.prog X.w) X.A (subscriptTail value slice v u) (EP X pins σ Q) X.xe s
def MtR (X : Cx) (id : String) (r : V -> List V -> Hp -> VK -> Prop) : Prop :=
 ∀ (pins : List (Addr × Obj)) (s : Shared) (σ : St) (H : Hp) (x : V) (xs : List V) (v : Value) (us : List Value) (Q : VK), Inv X pins σ H s -> RelV x v -> Vals xs us -> r x xs H Q ->
  wpAny (model X.prog X.w) X.A (call (.builtin id) (v :: us)) (EP X pins σ Q) X.xe s
section
variable {X : Cx} {a b : Expr} {ta tb : TE} {pos : Pos}
theorem IxR.or {r r' : R2} (h : IxR X r) (h' : IxR X r') : IxR X (fun x y H Q => r x y H Q \/ r' x y H Q) := by
 intro value slice pins s σ H x y v u Q I rx ry q hs
 rcases q with q | q
 ·exact h value slice pins s σ H x y v u Q I rx ry q hs
 ·exact h' value slice pins s σ H x y v u Q I rx ry q hs
theorem MtR.or {id : String} {r r' : V -> List V -> Hp -> VK -> Prop} (h : MtR X id r) (h' : MtR X id r') : MtR X id (fun x xs H Q => r x xs H Q \/ r' x xs H Q) := by
 intro pins s σ H x xs v us Q I rx rs q
 rcases q with q | q
 ·exact h pins s σ H x xs v us Q I rx rs q
 ·exact h' pins s σ H x xs v us Q I rx rs q
theorem pe_ix {r : R2} (hr : IxR X r) (ha : PE X a ta) (hb : PE X b tb) (hs : PlainIx b) : PE X (.Subscript a b pos) (tOp r ta tb) := by
 intro pins s σ H Q I h
 exact Subscript_ (binT ha hb I h fun v u s2 x y H2 I2 rx ry q => hr a b pins s2 σ H2 x y v u Q I2 rx ry q (hs _ _))
def rIxL (K : W.Frag) : R2 := fun x y H Q => ∃ p xs i v, x = .ref p /\ y = .int i /\ SqL K H p xs /\ atI xs i = some v /\ Q v H
def rIxT (K : W.Frag) : R2 := fun x y H Q => ∃ p xs i v, x = .ref p /\ y = .int i /\ SqT K H p xs /\ atI xs i = some v /\ Q v H
theorem ix_list : IxR X (rIxL X.K) := by
 intro value slice pins s σ H x y v u Q I rx ry h hs
 obtain ⟨p, xs, i, z, rfl, rfl, hq, he, q⟩ := h
 cases rx
 obtain ⟨t, rfl⟩ := ry
 obtain ⟨its, r, pl, hz⟩ := I.list hq
 obtain ⟨j, h1, h2, h3, h4, h5⟩ := atI_get he
 obtain ⟨w, ew, rw'⟩ := r.get h2
 have hl := r.length
 have hn := line63
 have fin : EP X pins σ Q w s := ⟨z, H, I, rw', q⟩
 by_cases h0 : 0 <= i
 ·have hj : i.toNat = j := by
   rw [seqIndex_of h0 h5] at h1
   exact Option.some.inj h1
  exact item_listR pl.isList h0 (by omega) (by rw [hj]; simpa using ew) fin hs
 ·have hj : (i + (its.toArray.size : Int)).toNat = j := by
   rw [seqIndex_neg (by omega) h4] at h1
   rw [size_toArray, <- hl]
   exact Option.some.inj h1
  exact subscriptTail_builtinR (x := w) pl.isList.typeIs slot_list_getitem.lookup
   (wpAny_getItem_list_neg (Q := fun r s' => r = w /\ EP X pins σ Q r s') pl.isList (by omega) (by rw [size_toArray] <;> omega) (by omega) (by rw [hj]; simpa using ew) ⟨rfl, fin⟩) hs
theorem ix_tup : IxR X (rIxT X.K) := by
 intro value slice pins s σ H x y v u Q I rx ry h hs
 obtain ⟨p, xs, i, z, rfl, rfl, hq, he, q⟩ := h
 cases rx
 obtain ⟨t, rfl⟩ := ry
 obtain ⟨its, r, pl, hz⟩ := I.tuple hq
 obtain ⟨j, h1, h2, h3, h4, h5⟩ := atI_get he
 obtain ⟨w, ew, rw'⟩ := r.get h2
 have hl := r.length
 have hn := line63
 have fin : EP X pins σ Q w s := ⟨z, H, I, rw', q⟩
 exact subscriptTail_builtinR (x := w) pl.typeIs slot_tuple_getitem.lookup
  (getItem_tuple (j := j) (Q := fun r s' => r = w /\ EP X pins σ Q r s') pl (by omega) (by omega) (by rw [size_toArray, <- hl]; exact h1) (by simpa using ew) ⟨rfl, fin⟩) hs
theorem mapSeq_set (its : List Value) (n j : Nat) (u : Value) : Obj.mapSeq (·.setIfInBounds j u) { cls := .type "list", data := .seq its.toArray n } = { cls := .type "list", data := .seq (its.set j u).toArray n } := by
 simp [Obj.mapSeq]
theorem Inv.lst {pins : List (Addr × Obj)} {σ : St} {H : Hp} {s : Shared} {p : Addr} {xs : List V} (I : Inv X pins σ H s) (h : H p = some (.lst xs)) :
  ∃ (its : List Value) (n : Nat), Vals xs its /\ s.heap.get? p = some { cls := .type "list", data := .seq its.toArray n } /\ xs.length <= sizeLine := by
 obtain ⟨z, its, n, r, e⟩ := I.hok p _ h
 exact ⟨its, n, r, e, z⟩
theorem Inv.lstUpd {pins : List (Addr × Obj)} {σ : St} {H : Hp} {s : Shared} {p : Addr} {xs ys : List V} {its its' : List Value} {n n' : Nat} {f : Obj -> Obj} (I : Inv X pins σ H s) (h : H p = some (.lst xs))
  (ho : s.heap.get? p = some { cls := .type "list", data := .seq its.toArray n }) (hf : f { cls := .type "list", data := .seq its.toArray n } = { cls := .type "list", data := .seq its'.toArray n' }) (r : Vals ys its') (hz : ys.length <= sizeLine) (t : Nat) :
  Inv X pins σ (upd H p (.lst ys)) { s with heap := s.heap.update p f, toks := t } := by
 have e : (s.heap.update p f).get? p = some { cls := .type "list", data := .seq its'.toArray n' } := by
  rw [Heap.get?_update_self f ho (by rw [hf] <;> rfl), hf]
 refine I.write (x := p) (e := p) (by rw [h]; trivial) (.inl rfl) (fun b u hb q => (Heap.get?_update_other _ _ (Ne.symm hb)).trans q) ⟨_, e⟩ ?_
 exact ⟨hz, its', n', r, e⟩
def rSetL : V -> V -> V -> Hp -> (Hp -> Prop) -> Prop := fun o i v H Q => ∃ p xs k j, o = .ref p /\ i = .int k /\ H p = some (.lst xs) /\ ixN xs.length k = some j /\ Q (upd H p (.lst (xs.set j v)))
theorem set_list : PSet X rSetL := by
 intro pins s σ H o i v ov iv u Q I ro ri rv h
 obtain ⟨p, xs, k, j, rfl, rfl, hp, hj, q⟩ := h
 cases ro
 obtain ⟨t, rfl⟩ := ri
 obtain ⟨its, n, r, ho, hz⟩ := I.lst hp
 obtain ⟨h1, h2, h3, h4⟩ := ixN_seq hj
 have hl := r.length
 have hn := line63
 have I' : Inv X pins σ (upd H p (.lst (xs.set j v))) { s with heap := s.heap.update p (Obj.mapSeq (·.setIfInBounds j u)) } :=
  I.lstUpd hp ho (mapSeq_set its n j u) (r.set rv j) (by rw [length_set]; exact hz) s.toks
 by_cases h0 : 0 <= k
 ·have hk : k.toNat = j := by
   rw [seqIndex_of h0 h4] at h1
   exact Option.some.inj h1
  exact W.ki_setAt ho h0 (by omega) (by rw [size_toArray, <- hl]; exact h4) (by rw [hk]; exact ⟨_, I', q⟩)
 ·have hk : (k + (its.toArray.size : Int)).toNat = j := by
   rw [seqIndex_neg (by omega) h3] at h1
   rw [size_toArray, <- hl]
   exact Option.some.inj h1
  exact W.ki_setBack ho (by omega) (by rw [size_toArray, <- hl]; exact h3) (by omega) (by rw [hk]; exact ⟨_, I', q⟩)
theorem slice_bounds (lo hi : Option Int) (n : Nat) : (sliceBounds lo hi none n).1 = ((HT.sIx n 0 lo : Nat) : Int) /\ (sliceBounds lo hi none n).2.1 = ((HT.sIx n n hi : Nat) : Int) /\ (sliceBounds lo hi none n).2.2 = 1 := by
 refine ⟨?_, ?_, rfl⟩
 ·cases lo with
  | none => simp [sliceBounds, HT.sIx]
  | some i =>
   simp only [sliceBounds, HT.sIx, Option.getD_none, show (1 : Int) > 0 by decide, if_true]
   by_cases h : i < 0
   ·simp only [h, if_true] <;> omega
   ·simp only [h, if_false] <;> omega
 ·cases hi with
  | none => simp [sliceBounds, HT.sIx]
  | some i =>
   simp only [sliceBounds, HT.sIx, Option.getD_none, show (1 : Int) > 0 by decide, if_true]
   by_cases h : i < 0
   ·simp only [h, if_true] <;> omega
   ·simp only [h, if_false] <;> omega
theorem slicePick_cut (its : List Value) (lo hi : Option Int) : slicePick its.toArray lo hi none = ((its.drop (HT.sIx its.length 0 lo)).take (HT.sIx its.length its.length hi - HT.sIx its.length 0 lo)).toArray := by
 obtain ⟨h1, h2, h3⟩ := slice_bounds lo hi its.toArray.size
 unfold slicePick
 rw [h1, h2, h3]
 simp only [sliceRange_one, pick_run, size_toArray] <;> rfl
def rSlL (K : W.Frag) : V -> Option Int -> Option Int -> Hp -> VK -> Prop := fun x lo hi H Q => ∃ a xs, x = .ref a /\ SqL K H a xs /\ ∀ p, H p = none -> Q (.ref p) (upd H p (.lst (cutV xs lo hi)))
theorem sl_list : SlR X (rSlL X.K) := by
 intro pins s σ H x v vl vu lo hi sl Q I rx hs pl pu h
 obtain ⟨a, xs, rfl, hx, q⟩ := h
 cases rx
 obtain ⟨its, r, ht, hz⟩ := I.list hx
 have hlen := r.length
 refine ⟨"list", _, slot_list_getitem.lookup, ht.isList.typeIs, ?_⟩
 refine wpAny_getItem_list_slice ht.isList hs pl pu .none (by simp) ?_ (by rw [size_toArray] <;> omega)
 rw [slicePick_cut, <- hlen]
 refine ⟨.ref s.heap.objs.size, _, I.laid (t' := s.toks) (o := .lst (cutV xs lo hi)) (fun b ob q => Heap.get?_push_of_some _ q) (Nat.le_refl _) ?_, rfl, q _ (I.hok.fresh (Nat.le_refl _))⟩
 exact ⟨Nat.le_trans (cutV_length xs lo hi) hz, _, 0, (r.drop (HT.sIx xs.length 0 lo)).take (HT.sIx xs.length xs.length hi - HT.sIx xs.length 0 lo), Heap.get?_push_size _ rfl⟩
def flatV : V -> Bool
 | .non => true
 | .bl _ => true
 | .int _ => true
 | .str _ => true
 | _ => false
def eqV : V -> V -> Bool
 | .non, .non => true
 | .bl a, .bl b => a == b
 | .bl a, .int b => (if a then 1 else 0) == b
 | .int a, .bl b => a == (if b then 1 else 0)
 | .int a, .int b => a == b
 | .str a, .str b => a == b
 | _, _ => false
theorem eqAt_V {A : Around} {s : Shared} {y x : V} {u v : Value} (ry : RelV y u) (rx : RelV x v) (fy : flatV y = true) (fx : flatV x = true) : SeqAt.EqAt A s u v (eqV y x) := by
 cases y with
 | non =>
  cases ry
  cases x with
  | non => cases rx; exact SeqAt.EqAt.same _
  | bl b => cases rx; exact SeqAt.EqAt.none_bool b
  | int b => obtain ⟨t, rfl⟩ := rx; exact SeqAt.EqAt.none_int b t
  | str b => obtain ⟨t, rfl⟩ := rx; exact SeqAt.EqAt.none_str b t
  | _ => exact absurd (show false = true from fx) Bool.false_ne_true
 | bl a =>
  cases ry
  cases x with
  | non => cases rx; exact SeqAt.EqAt.bool_none a
  | bl b => cases rx; exact SeqAt.EqAt.bool_bool a b
  | int b => obtain ⟨t, rfl⟩ := rx; exact SeqAt.EqAt.bool_int a b t
  | str b => obtain ⟨t, rfl⟩ := rx; exact SeqAt.EqAt.bool_str a b t
  | _ => exact absurd (show false = true from fx) Bool.false_ne_true
 | int a =>
  obtain ⟨t', rfl⟩ := ry
  cases x with
  | non => cases rx; exact SeqAt.EqAt.int_none a t'
  | bl b => cases rx; exact SeqAt.EqAt.int_bool a t' b
  | int b => obtain ⟨t, rfl⟩ := rx; exact SeqAt.EqAt.int_int a t' b t
  | str b => obtain ⟨t, rfl⟩ := rx; exact SeqAt.EqAt.int_str a t' b t
  | _ => exact absurd (show false = true from fx) Bool.false_ne_true
 | str a =>
  obtain ⟨t', rfl⟩ := ry
  cases x with
  | non => cases rx; exact SeqAt.EqAt.str_none a t'
  | bl b => cases rx; exact SeqAt.EqAt.str_bool a t' b
  | int b => obtain ⟨t, rfl⟩ := rx; exact SeqAt.EqAt.str_int a t' b t
  | str b => obtain ⟨t, rfl⟩ := rx; exact SeqAt.EqAt.str_str a t' b t
  | _ => exact absurd (show false = true from fx) Bool.false_ne_true
 | _ => exact absurd (show false = true from fy) Bool.false_ne_true
def eqU (x : V) (u : Value) : Bool := match u with
 | .none => eqV .non x
 | .bool b => eqV (.bl b) x
 | .int i _ => eqV (.int i) x
 | .str z _ => eqV (.str z) x
 | _ => false
theorem eqU_of {x y : V} {u : Value} (r : RelV y u) (f : flatV y = true) : eqU x u = eqV y x := by
 cases y with
 | non => cases r; rfl
 | bl b => cases r; rfl
 | int i => obtain ⟨t, rfl⟩ := r; rfl
 | str z => obtain ⟨t, rfl⟩ := r; rfl
 | _ => exact absurd (show false = true from f) Bool.false_ne_true
theorem any_eqU {x : V} : ∀ {xs : List V} {us : List Value}, Vals xs us -> xs.all flatV = true -> us.any (eqU x) = xs.any fun y => eqV y x
 | _, _, .nil, _ => rfl
 | y :: xs, u :: us, .cons r t, f => by
  rw [all_cons, Bool.and_eq_true] at f
  rw [any_cons, any_cons, eqU_of r f.1, any_eqU t f.2]
theorem mem_eqAt {A : Around} {s : Shared} {x : V} {v : Value} (rx : RelV x v) (fx : flatV x = true) : ∀ {xs : List V} {us : List Value}, Vals xs us -> xs.all flatV = true -> ∀ u ∈ us, SeqAt.EqAt A s u v (eqU x u)
 | _, _, .nil, _ => fun u hu => by cases hu
 | y :: xs, u :: us, .cons r t, f => fun u' hu => by
  rw [all_cons, Bool.and_eq_true] at f
  rcases List.mem_cons.mp hu with rfl | hu
  ·rw [eqU_of r f.1]; exact eqAt_V r rx f.1 fx
  ·exact mem_eqAt rx fx t f.2 u' hu
def inV (x : V) (xs : List V) : Bool := xs.any fun y => eqV y x
def rIn (K : W.Frag) (neg : Bool) : R2 := fun x y H Q => ∃ p xs, y = .ref p /\ (SqL K H p xs \/ SqT K H p xs) /\ flatV x = true /\ xs.all flatV = true /\ Q (.bl (if neg then !inV x xs else inV x xs)) H
theorem op_in_seq : OpR X (compareOp .In) (rIn X.K false) := by
 intro pins s σ H x y v u Q I rx ry h
 obtain ⟨p, xs, rfl, hq, fx, fs, q⟩ := h
 cases ry
 rcases hq with hq | hq
 ·obtain ⟨its, r, pl, hz⟩ := I.list hq
  refine SeqAt.in_listAt (eqU x) pl.isList (fun w hw => mem_eqAt rx fx r fs w (by simpa using hw)) ⟨.bl _, H, I, rfl, ?_⟩
  rw [show its.toArray.any (eqU x) = its.any (eqU x) by simp, any_eqU r fs]
  exact q
 ·obtain ⟨its, r, pl, hz⟩ := I.tuple hq
  refine SeqAt.in_tupleAt (eqU x) pl (fun w hw => mem_eqAt rx fx r fs w (by simpa using hw)) ⟨.bl _, H, I, rfl, ?_⟩
  rw [show its.toArray.any (eqU x) = its.any (eqU x) by simp, any_eqU r fs]
  exact q
theorem op_notIn_seq : OpR X (compareOp .NotIn) (rIn X.K true) := by
 intro pins s σ H x y v u Q I rx ry h
 obtain ⟨p, xs, rfl, hq, fx, fs, q⟩ := h
 cases ry
 rcases hq with hq | hq
 ·obtain ⟨its, r, pl, hz⟩ := I.list hq
  refine SeqAt.notIn_listAt (eqU x) pl.isList (fun w hw => mem_eqAt rx fx r fs w (by simpa using hw)) ⟨.bl _, H, I, rfl, ?_⟩
  rw [show its.toArray.any (eqU x) = its.any (eqU x) by simp, any_eqU r fs]
  exact q
 ·obtain ⟨its, r, pl, hz⟩ := I.tuple hq
  refine SeqAt.notIn_tupleAt (eqU x) pl (fun w hw => mem_eqAt rx fx r fs w (by simpa using hw)) ⟨.bl _, H, I, rfl, ?_⟩
  rw [show its.toArray.any (eqU x) = its.any (eqU x) by simp, any_eqU r fs]
  exact q
theorem call_len_seq : CallR X (.builtin "len") (fun xs H Q => ∃ p ys, xs = [.ref p] /\ (SqL X.K H p ys \/ SqT X.K H p ys) /\ Q (.int ys.length) H) := by
 intro pins s σ H xs us Q I r h
 obtain ⟨p, ys, rfl, hq, q⟩ := h
 obtain ⟨u, rfl, rx⟩ := vals1 r
 cases rx
 have hn := line63
 rcases hq with hq | hq
 ·obtain ⟨its, r', pl, hz⟩ := I.list hq
  have hlen := r'.length
  exact Calls.call_len_list pl.isList (by simp only [size_toArray] <;> omega) ⟨.int ys.length, H, I.tok _, ⟨s.toks + 1, by rw [size_toArray, hlen]⟩, q⟩
 ·obtain ⟨its, r', pl, hz⟩ := I.tuple hq
  have hlen := r'.length
  exact len_tuple pl (by simp only [size_toArray] <;> omega) ⟨.int ys.length, H, I.tok _, ⟨s.toks + 1, by rw [size_toArray, hlen]⟩, q⟩
theorem CallR.or {f : Value} {r r' : List V -> Hp -> VK -> Prop} (h : CallR X f r) (h' : CallR X f r') : CallR X f (fun xs H Q => r xs H Q \/ r' xs H Q) := by
 intro pins s σ H xs us Q I rs q
 rcases q with q | q
 ·exact h pins s σ H xs us Q I rs q
 ·exact h' pins s σ H xs us Q I rs q
theorem call_list_of : CallR X (.type "list") (fun xs H Q => ∃ p ys, xs = [.ref p] /\ (SqL X.K H p ys \/ SqT X.K H p ys) /\ ∀ l, H l = none -> Q (.ref l) (upd H l (.lst ys))) := by
 intro pins s σ H xs us Q I r h
 obtain ⟨p, ys, rfl, hq, q⟩ := h
 obtain ⟨u, rfl, rx⟩ := vals1 r
 cases rx
 have fin : ∀ (its : List Value), Vals ys its -> ys.length <= sizeLine -> ∀ (h' : Heap) (c' : Nat), (∀ b o', s.heap.get? b = some o' -> h'.get? b = some o') ->
   h'.get? s.heap.objs.size = some { cls := .type "list", dict := none, data := .seq its.toArray c', slots := #[] } -> EP X pins σ Q (.ref s.heap.objs.size) { s with heap := h' } := fun its r' hz h' c' kp e =>
  ⟨.ref s.heap.objs.size, _, I.laid (t' := s.toks) kp (Nat.le_refl _) (show ObjOk X.prog X.w _ h' _ (.lst ys) from ⟨hz, its, c', r', e⟩), rfl, q _ (I.hok.fresh (Nat.le_refl _))⟩
 rcases hq with hq | hq
 ·obtain ⟨its, r', pl, hz⟩ := I.list hq
  have hlen := r'.length
  obtain ⟨o, ho, hc, n, hd⟩ := pl.isList
  exact call_list_seq p (.inl rfl) ho hc hd (fun h' c' kp e => fin its r' hz h' c' kp e) (by simp only [size_toArray] <;> omega)
 ·obtain ⟨its, r', pl, hz⟩ := I.tuple hq
  have hlen := r'.length
  obtain ⟨o, ho, hc, n, hd⟩ := pl
  exact call_list_seq p (.inr rfl) ho hc hd (fun h' c' kp e => fin its r' hz h' c' kp e) (by simp only [size_toArray] <;> omega)
def tyV (K : W.Frag) (T : String) (x : V) (H : Hp) : Prop := match x with
 | .str _ => T = "str"
 | .int _ => T = "int"
 | .ref p => (T = "list" /\ ∃ xs, SqL K H p xs) \/ (T = "tuple" /\ ∃ o, K.lookup p = some o /\ o.cls = .type "tuple" /\ o.dict = none) \/
   (T = "dict" /\ ((∃ kvs, H p = some (.dK kvs)) \/ ∃ kvs, H p = some (.dT kvs))) \/ (T = "set" /\ ∃ S n, H p = some (.set S n))
 | _ => False
theorem tyV_is {pins : List (Addr × Obj)} {σ : St} {H : Hp} {s : Shared} {T : String} {x : V} {v : Value} (I : Inv X pins σ H s) (r : RelV x v) (ty : tyV X.K T x H) :
  s.TypeIs v T /\ ∀ a, v = .ref a -> ∃ ob, s.heap.get? a = some ob /\ ob.dict = none := by
 cases x with
 | str z =>
  obtain ⟨t, rfl⟩ := r
  cases (show T = "str" from ty)
  exact ⟨typeIs_str s z t, fun _ e => nomatch e⟩
 | int i =>
  obtain ⟨t, rfl⟩ := r
  cases (show T = "int" from ty)
  exact ⟨typeIs_int s i t, fun _ e => nomatch e⟩
 | ref p =>
  cases r
  rcases ty with ⟨rfl, xs, hq⟩ | ⟨rfl, o, hk, hc, hd⟩ | ⟨rfl, hk⟩ | ⟨rfl, S, n, hk⟩
  ·obtain ⟨its, _, pl, _⟩ := I.list hq
   refine ⟨pl.isList.typeIs, fun a e => ?_⟩
   cases e
   obtain ⟨o, n, e, c, hd, _⟩ := pl
   exact ⟨o, e, hd⟩
  ·refine ⟨⟨o, I.kIn p o hk, hc⟩, fun a e => ?_⟩
   cases e
   exact ⟨o, I.kIn _ o hk, hd⟩
  ·have z : ∃ o, s.heap.get? p = some o /\ o.ExactDict := by
    rcases hk with ⟨kvs, hk⟩ | ⟨kvs, hk⟩
    ·obtain ⟨_, _, _, _, o, _, _, e, ex, _⟩ := I.hok p _ hk
     exact ⟨o, e, ex⟩
    ·obtain ⟨_, _, _, _, o, _, _, e, ex, _⟩ := I.hok p _ hk
     exact ⟨o, e, ex⟩
   obtain ⟨o, e, ex⟩ := z
   refine ⟨⟨o, e, ex.1⟩, fun a e2 => ?_⟩
   cases e2
   exact ⟨o, e, ex.2.1⟩
  ·obtain ⟨o, _, _, _, e, ex, _⟩ := I.hok p _ hk
   refine ⟨⟨o, e, ex.1⟩, fun a e2 => ?_⟩
   cases e2
   exact ⟨o, e, ex.2.1⟩
 | _ => exact False.elim ty
def tBM (K : W.Frag) (T : String) (r : V -> List V -> Hp -> VK -> Prop) (to : TE) (t : TA) : TE := fun σ H Q => to σ H fun x H1 => tyV K T x H1 /\ t σ H1 fun xs H2 => r x xs H2 Q
variable {o e : Expr} {es : List Expr} {to : TE} {t : TA} {name : Str} {apos cpos : Pos} {T id : String} {r : V -> List V -> Hp -> VK -> Prop}
theorem pe_bm (pa : PlainAttrs T) (slot : Slot T name id) (hty : typeOf (.builtin id) = pure (.type "method_descriptor")) (hm : MtR X id r) (ho : PE X o to) (ha : PA X (e :: es) t)
  (hbase : attributeBase o name X.env (eval o X.env) = eval o X.env := by rfl)
  (hfew : ((backTo cpos (starEach (e :: es) X.env)).all (fun x => !x.1) && (backToKw cpos (keywordEach [] X.env)).all (fun x => x.1.isSome)
   && decide ((e :: es).length + ([] : List Keyword).length + (if ([] : List Keyword).isEmpty then 0 else 1) < 30)) = true := by rfl)
  (hline : (apos.endLine == cpos.line) = true := by rfl) (hs : starEach (e :: es) X.env = (false, eval e X.env) :: starEach es X.env := by rfl) (hplain : (backTo cpos (starEach es X.env)).any (·.1) = false := by rfl) :
  PE X (.Call (.Attribute o name apos) (e :: es) [] cpos) (tBM X.K T r to t) := by
 intro pins s σ H Q I h
 refine wpAny_Call_method_late hbase hfew hline rfl (thn (ho pins s σ H _ I h) fun v s1 hpat => ?_)
 obtain ⟨x, H1, I1, r1, ty, q1⟩ := hpat
 obtain ⟨h1, h2⟩ := tyV_is I1 r1 ty
 refine ⟨T, id, pa, slot, hty, h1, h2, ?_⟩
 have hA := ha cpos pins s1 σ H1 _ I1 q1
 rw [hs] at hA ⊢
 refine Calls.callWith_builtin (by show (false || (backTo cpos (starEach es X.env)).any (·.1)) = false; rw [hplain] <;> rfl) (Calls.evalArgs_plain ?_)
 exact thn hA fun us s2 ⟨vs, H2, I2, r2, q2⟩ => hm pins s2 σ H2 x vs v us Q I2 r1 r2 q2
end
end
section
def MtM (X : Cx) (id : String) (r : V -> List V -> Hp -> VK -> Prop) : Prop :=
 ∀ (pins : List (Addr × Obj)) (s : Shared) (σ : St) (H : Hp) (x : V) (xs : List V) (v : Value) (us : List Value) (Q : VK), Inv X pins σ H s -> RelV x v -> Vals xs us -> r x xs H Q ->
  wpAny (model X.prog X.w) X.A (call (.builtin id) (v :: us)) (EP X pins σ Q) X.xe s
theorem Vals.one : ∀ {x : V} {us : List Value}, Vals [x] us -> ∃ u, us = [u] /\ RelV x u
 | _, _, .cons r .nil => ⟨_, rfl, r⟩
theorem Vals.zero : ∀ {us : List Value}, Vals [] us -> us = []
 | _, .nil => rfl
theorem Vals.rep {xs : List V} {us : List Value} (h : Vals xs us) : ∀ k : Nat, Vals (List.replicate k xs).flatten (List.replicate k us).flatten
 | 0 => .nil
 | k + 1 => by
  rw [replicate_succ, replicate_succ, flatten_cons, flatten_cons]
  exact Vals.append h (Vals.rep h k)
section
variable {X : Cx} {pins : List (Addr × Obj)} {σ : St} {H : Hp} {s : Shared} {l b : Addr} {xs ys zs : List V}
theorem Inv.lset {its its' : List Value} {n : Nat} {f : Array Value -> Array Value} {t' : Nat} (I : Inv X pins σ H s) (hH : H l = some (.lst xs))
  (e : s.heap.get? l = some { cls := .type "list", data := .seq its.toArray n }) (hf : f its.toArray = its'.toArray) (hv : Vals ys its') (hz : ys.length <= sizeLine) :
  Inv X pins σ (upd H l (.lst ys)) { s with heap := s.heap.update l (Obj.mapSeq f), toks := t' } := by
 have q := PySem.IsL.update e f
 rw [hf] at q
 refine I.write (x := l) (e := l) (by rw [hH]; exact trivial) (.inl rfl) (fun b' u hb hu => (Heap.get?_update_other s.heap (Obj.mapSeq f) (Ne.symm hb)).trans hu) ⟨_, q⟩ ?_
 exact ⟨hz, its', _, hv, q⟩
theorem Inv.lnew {its : List Value} {t' : Nat} (I : Inv X pins σ H s) (hv : Vals ys its) (hz : ys.length <= sizeLine) :
  Inv X pins σ (upd H s.heap.objs.size (.lst ys)) { s with heap := s.heap.push { cls := .type "list", data := .seq its.toArray }, toks := t' } :=
 I.laid (fun _ _ q => Heap.get?_push_of_some _ q) (Nat.le_refl _) ⟨hz, its, 0, hv, Heap.get?_push_size _ rfl⟩
theorem Inv.fresh (I : Inv X pins σ H s) : H s.heap.objs.size = none := I.hok.fresh (Nat.le_refl _)
theorem Inv.lstM (I : Inv X pins σ H s) (hH : H l = some (.lst xs)) : xs.length <= sizeLine /\ ∃ (its : List Value) (n : Nat), Vals xs its /\ xs.length = its.length /\ s.heap.get? l = some { cls := .type "list", data := .seq its.toArray n } := by
 obtain ⟨z, its, n, r, e⟩ := I.hok l _ hH
 exact ⟨z, its, n, r, r.length, e⟩
end
section
variable {X : Cx}
def rAppend : V -> List V -> Hp -> VK -> Prop := fun x vs H Q => ∃ l xs y, x = .ref l /\ vs = [y] /\ H l = some (.lst xs) /\ xs.length < sizeLine /\ Q .non (upd H l (.lst (xs ++ [y])))
theorem mt_append : MtM X "list.append" rAppend := by
 intro pins s σ H x vs v us Q I rx rv h
 obtain ⟨l, xs, y, rfl, rfl, hH, hz, q⟩ := h
 cases rx
 obtain ⟨u, rfl, ru⟩ := rv.one
 obtain ⟨z, its, n, r, hl, e⟩ := I.lstM hH
 refine call_meets F.slot_list_append ⟨_, e, rfl⟩ F.entry_list_append (F.args_list_append_2 _ _) (PySem.list_append l its.toArray n u (by rw [size_toArray]; omega)) ⟨e, ?_⟩
 refine ⟨.non, _, I.lset (its' := its ++ [u]) hH e (by simp) (r.append (.cons ru .nil)) ?_, rfl, q⟩
 rw [length_append, length_singleton]
 omega
end
section
variable {prog : Program} {w : World} {A : Around} {E : Value -> Shared -> Prop} {s : Shared}
end
section
variable {X : Cx}
end
end
end L2
namespace Att
open PySem PySem.W PySem.Calls PyProof.Rows
theorem ints_of_wellAll {P : Params} {h : Heap} : ∀ (ns : List Int) (vs : List Value), WellAll P h vs (ns.map WData.int) -> IntsAre vs ns := by
 intro ns
 induction ns with
 | nil =>
  intro vs w
  rw [List.map_nil] at w
  cases w
  exact .nil
 | cons n ns ih =>
  intro vs w
  rw [List.map_cons] at w
  cases w with
  | cons a b =>
   cases a
   exact .cons _ _ (ih _ b)
theorem script_of {l : OpenLaw} {n : Nat} (hn : l.most = some n) {P : Params} {h : Heap} {args : List WData} {vals : List Value}
  (hpre : l.row.toRowW.claim.pre args = true) (hwl : WellAll P h vals args) :
  ∃ a vs ns, vals = [Value.ref a] /\ args = [WData.list (ns.map WData.int)] /\ h.get? a = some { cls := .type "list", data := .seq vs.toArray } /\ IntsAre vs ns /\ ns.length <= n := by
 have hsh : WShape.hasAll [] args [.list .int] = true := (pre_splitW hpre).1
 have hc : l.pre.holds [] { args := args } = true := (pre_splitW hpre).2
 obtain ⟨d, r, rfl, h1, h2⟩ := hasAllW_cons hsh
 obtain rfl := hasAllW_nil h2
 obtain ⟨xs, rfl, h3⟩ := hasW_list h1
 obtain ⟨ns, rfl⟩ := items_int h3
 have hlen : ns.length <= n := by
  unfold OpenLaw.pre at hc
  have h4 : (WTm.not (.lt (.lit (.int (n : Int))) (.len (.arg 0)))).holds [] { args := [.list (ns.map .int)] } = true := by
   have h4 := (holds_andW hc).1
   rw [hn] at h4
   exact h4
  have h5 := condW_of h4 (w_not (w_lt w_lit (w_len_list (w_arg rfl))))
  rw [List.length_map] at h5
  refine Nat.le_of_not_lt fun q => ?_
  have q' : (n : Int) < ((ns.length : Nat) : Int) := by omega
  first
   | (rw [decide_eq_true q'] at h5; exact absurd h5 (by decide))
   | (simp at h5; omega)
 cases hwl with
 | cons w1 w2 =>
  cases w2
  cases w1 with
  | list ho hall => exact ⟨_, _, ns, rfl, rfl, ho, ints_of_wellAll ns _ hall, hlen⟩
theorem post_true (l : OpenLaw) (args : List WData) : l.row.toRowW.claim.post args (.bool true) args = true :=
 postW_of (r := l.row.toRowW) (X := (true == true))
  (show WShape.has [] (.bool true) .bool = true by first | rfl | decide | simp [WShape.has, WShape.arms, WShape.armsAll])
  (show (WTm.eq .res (.lit (.bool true))).value [] { args := args, res := some (.bool true), after := args } = some (.bool (true == true)) from w_eq_bool (w_res rfl) w_lit) rfl
theorem attach_call {l : OpenLaw} {n : Nat} {q : Program} {loose : List Str} {XP : (Str -> Option Value) -> Heap -> Prop} {YP : World -> Heap -> Prop} {d : DefRec}
  (hn : l.most = some n) (hdf : d.params.defaults = [])
  (call : ∀ (w : World) (s₀ s₁ : Shared) (mg mb : Str -> Option Value) (fa : Addr) (o : Obj) (pm cd doc : Value) (a : Addr) (vs : List Value) (ns : List Int),
   Ground q loose [] XP w s₀ mg mb s₁.heap -> YP w s₁.heap ->
   s₁.heap.get? fa = some o -> o.data = .func (docDef d.name d.params d.body d.scope pm cd doc) -> s₁.heap.CodeRec cd d.name -> mg d.name = some (.ref fa) ->
   s₁.heap.get? a = some { cls := .type "list", data := .seq vs.toArray } -> IntsAre vs ns -> ns.length <= n -> s₁.gens = #[] ->
   codeAny (model l.prog w) callerA (.call (.ref fa) ⟨[.ref a], []⟩) (fun r s' => r = .ok (.ret (.bool true)) /\ OldK s₁.heap s'.heap /\ s'.os = s₁.os /\ AllBare s'.gens) s₁) :
  WalkO q loose XP YP l.row.toRowW d [] (fun f vs => PySem.call f vs) := by
 intro w s₀ s₁ mg mb G Y fa o pm cd doc dV kV ho hd hcd hD hmg hg args vals as hpre hlay hrd hwl hlo
 obtain rfl : dV = .none := Dflts.none hD hdf
 obtain rfl : kV = .none := Dflts.noKw hD
 obtain ⟨a, vs, ns, rfl, rfl, hobj, hints, hlen⟩ := script_of hn hpre hwl
 refine enter_call (codeAny_mono (call w s₀ s₁ mg mb fa o pm cd doc a vs ns G Y ho (fd_plain hd) hcd hmg hobj hints hlen hg) fun r s' hq => ?_)
 obtain ⟨rfl, h2, h3, h4⟩ := hq
 exact ⟨.inl ⟨.bool true, .bool true, [], rfl, fun _ => rfl, .bool true, post_true l _, fun _ => ⟨List.Pairwise.nil, fun _ hm => (nomatch hm)⟩⟩, h2, h3, h4⟩
section
variable {prog : Program} {w : World} {A : Around} {E : Value -> Shared -> Prop} {s : Shared} {K : Frag}
end
end Att
namespace L2
open List
open PySem PySem.Spec PyProof.Rows
section
theorem vals_ints : ∀ {vs : List Value} {ns : List Int}, IntsAre vs ns -> Vals (ns.map V.int) vs
 | _, _, .nil => .nil
 | _, _, .cons n t h => .cons ⟨t, rfl⟩ (vals_ints h)
def Only (H : Hp) : Prop := ∀ b, H b = none \/ ∃ o xs, H b = some (.frz o (.lst xs))
theorem law_call {P : Program} {w : World} {K : W.Frag} {mg mb : Str -> Option Value} {CX : CXT} {k : Nat} {fa a : Addr} {fd : FuncData} {x : Str} {sp : Sp} {s₁ : Shared} {vs : List Value} {ns : List Int}
  (KX : K.In s₁.heap) (hns : s₁.heap.Ns mainGlobals mg) (hb : s₁.heap.Ns builtinsNs mb) (hbb : ∀ x : Str, x ≠ "__name__" -> mb x = bootBuiltins x) (hlim : s₁.heap.NoLimit) (hg : s₁.gens = #[])
  (ha : s₁.heap.get? a = some { cls := .type "list", data := .seq vs.toArray }) (hi : IntsAre vs ns) (hl : ns.length <= sizeLine) (hr : Room k callerA)
  (F : ∀ base : Heap, K.In base -> base.Ns mainGlobals mg -> FnOk P w K mg base CX k fa fd [x] sp) (hbind : ∀ (s : Shared) (u : Value), BindsTo s fd ⟨[u], []⟩ [(x, u)])
  (hsp : ∀ H : Hp, Only H -> SqL K H a (ns.map V.int) -> sp [.ref a] H (fun v _ => v = .bl true) fun _ _ _ => False)
  (hCX : ∀ H e s', CX [] H s₁ (fun _ _ _ => False) e s' -> False) :
  codeAny (model P w) callerA (.call (.ref fa) ⟨[.ref a], []⟩) (fun r s' => r = .ok (.ret (.bool true)) /\ OldK s₁.heap s'.heap /\ s'.os = s₁.os /\ AllBare s'.gens) s₁ := by
 have rv := vals_ints hi
 have lenV := hi.length
 have core : ∀ H : Hp, Only H -> SqL K H a (ns.map V.int) -> HOk P w H s₁.heap -> (∀ b, H b ≠ none -> b = a) -> (H a ≠ none -> K.lookup a = none) ->
   codeAny (model P w) callerA (.call (.ref fa) ⟨[.ref a], []⟩) (fun r s' => r = .ok (.ret (.bool true)) /\ OldK s₁.heap s'.heap /\ s'.os = s₁.os /\ AllBare s'.gens) s₁ := by
  intro H hO hS hok hA hK
  have base_of : ∀ {b : Addr} {o : Obj}, s₁.heap.get? b = some o -> H b = none -> (hidT s₁.heap H).get? b = some o := fun e n => hidT_get e n
  have noA : ∀ {b : Addr} {o : Obj} {es : Array DictEntry} {ep : Nat}, s₁.heap.get? b = some o -> o.data = .dict es ep -> H b = none := fun {b o es ep} e d => by
   cases q : H b with
   | none => rfl
   | some u =>
    have e' : b = a := hA b (by rw [q]; simp)
    subst e'
    rw [ha] at e; cases e
    have d' : Data.seq vs.toArray _ = Data.dict es ep := d
    cases d'
  have nsK : ∀ {b : Addr} {m : Str -> Option Value}, s₁.heap.Ns b m -> (hidT s₁.heap H).Ns b m := fun {b m} ⟨o, es, ep, e, d, r⟩ => ⟨o, es, ep, base_of e (noA e d), d, r⟩
  have hKb : K.In (hidT s₁.heap H) := fun b o e => base_of (KX b o e) (by
   cases q : H b with
   | none => rfl
   | some u =>
    have e' : b = a := hA b (by rw [q]; simp)
    subst e'
    rw [hK (by rw [q]; simp)] at e; cases e)
  have hM : Mod K mg (hidT s₁.heap H) := ⟨hKb, nsK hns, ⟨mb, nsK hb, hbb⟩, let ⟨mc, h1, h2⟩ := hlim; ⟨mc, nsK h1, h2⟩⟩
  have e0 : Env0 P w K mg (hidT s₁.heap H) callerA [] s₁ H := ⟨rfl, hM, fun b o e => of_hidT e, Nat.le_of_eq (hidT_size _ _), trivial, fun b hb => absurd (show b ∈ ([] : List Addr) from hb) (by simp), hok, .of_eq hg⟩
  refine codeAny_mono ((F _ hKb (nsK hns)).run callerA [] s₁ H ⟨[.ref a], []⟩ [.ref a] [.ref a] _ _ hr e0 (hbind s₁ (.ref a)) (.cons rfl .nil) (hsp H hO hS)) fun r s' h => ?_
  cases r with
  | error e => exact (hCX H e s' h).elim
  | ok fl =>
   cases fl with
   | next => exact False.elim h
   | brk => exact False.elim h
   | cont => exact False.elim h
   | ret u =>
    obtain ⟨v, H', os, bare, un, hok', r', q⟩ := h
    have q' : v = .bl true := q
    subst q'
    obtain rfl : u = Value.bool true := r'
    refine ⟨rfl, OldK.of_keep fun b o e => ?_, os, bare⟩
    cases q : H b with
    | none => exact un.keep b o e q (by intro z; exact absurd (show b ∈ ([] : List Addr) from z) (by simp)) (by simp)
    | some u =>
     rcases hO b with z | ⟨ob, xs, z⟩
     ·rw [q] at z; cases z
     ·have z2 := un.frzs b ob _ z
      obtain ⟨e1, _⟩ := hok b _ z
      obtain ⟨e2, _⟩ := hok' b _ z2
      rw [e] at e1; cases e1
      exact e2
 cases hk : K.lookup a with
 | some o =>
  have e := KX a o hk
  rw [ha] at e
  cases e
  refine core (fun _ => none) (fun _ => .inl rfl) (.inr ⟨_, vs.toArray, _, hk, rfl, rfl, rfl, by rw [size_toArray, lenV]; exact hl, by simpa using rv⟩) (fun b u z => by have z' : (none : Option HO) = some u := z; cases z') (fun b z => absurd rfl z) fun z => absurd rfl z
 | none =>
  refine core (fun b => if b = a then some (.frz { cls := .type "list", data := .seq vs.toArray } (.lst (ns.map V.int))) else none) (fun b => ?_) (.inl (.inr ⟨{ cls := .type "list", data := .seq vs.toArray }, if_pos rfl⟩)) (fun b u z => ?_) (fun b z => ?_) fun _ => hk
  ·by_cases hb : b = a
   ·exact .inr ⟨_, _, if_pos hb⟩
   ·exact .inl (if_neg hb)
  ·by_cases hb : b = a
   ·have z' := (if_pos hb).symm.trans z
    cases z'
    subst hb
    exact ⟨ha, by rw [length_map]; exact hl, vs, _, rv, ha⟩
   ·have z' := (if_neg hb).symm.trans z
    cases z'
  ·by_cases hb : b = a
   ·exact hb
   ·exact absurd (if_neg hb) z
end
section
abbrev KOf {K : W.Frag} {h : Heap} (_ : K.In h) : W.Frag := K
theorem walk_of {l : W.OpenLaw} {n k : Nat} {q : Program} {loose : List Str} {XP : (Str -> Option Value) -> Heap -> Prop} {YP : World -> Heap -> Prop} {d : DefRec} {K : Params -> W.Frag} {CX : World -> CXT} {sp : World -> Sp} {x : Str}
  (hn : l.most = some n) (hn2 : n <= sizeLine) (hdf : d.params.defaults = []) (hr : Room k callerA)
  (hY : ∀ (w : World) (h : Heap), YP w h -> (K w.params).In h)
  (F : ∀ (w : World) (mg : Str -> Option Value) (fa : Addr) (h : Heap), (K w.params).In h -> h.Ns mainGlobals mg -> mg d.name = some (.ref fa) ->
   ∃ fd : FuncData, (∀ (s : Shared) (u : Value), BindsTo s fd ⟨[u], []⟩ [(x, u)]) /\
    ∀ base : Heap, (K w.params).In base -> base.Ns mainGlobals mg -> FnOk l.prog w (K w.params) mg base (CX w) k fa fd [x] (sp w))
  (hsp : ∀ (w : World) (H : Hp) (a : Addr) (ns : List Int), ns.length <= n -> Only H -> SqL (K w.params) H a (ns.map V.int) -> sp w [.ref a] H (fun v _ => v = .bl true) fun _ _ _ => False)
  (hCX : ∀ (w : World) (H : Hp) (s : Shared) (e : Value) (s' : Shared), CX w [] H s (fun _ _ _ => False) e s' -> False) :
  W.WalkO q loose XP YP l.row.toRowW d [] (fun f vs => PySem.call f vs) := by
 refine Att.attach_call hn hdf fun w s₀ s₁ mg mb fa o pm cd doc a vs ns G Y ho hd hcd hmg hobj hints hlen hg => ?_
 have KX := hY w _ Y
 obtain ⟨fd, hb, hF⟩ := F w mg fa _ KX G.T.g hmg
 exact law_call KX G.T.g G.T.b G.T.builtins G.T.nolimit hg hobj hints (Nat.le_trans hlen hn2) hr hF hb (fun H hO hS => hsp w H a ns hlen hO hS) fun H e s' => hCX w H s₁ e s'
end
section
def defArgs (s : Stmt) : Arguments := match s with
 | .FunctionDef _ a _ _ _ _ _ _ _ _ => a
 | _ => { posonlyargs := [], args := [], vararg := none, kwonlyargs := [], kw_defaults := [], kwarg := none, defaults := [] }
def defBody (s : Stmt) : List Stmt := match s with
 | .FunctionDef _ _ b _ _ _ _ _ _ _ => b
 | _ => []
def defScope (s : Stmt) : Scope := match s with
 | .FunctionDef _ _ _ _ _ _ sc _ _ _ => sc
 | _ => { kind := .function, names := [], isGenerator := false, isCoroutine := false }
abbrev CX0 : CXT := fun _ _ _ _ _ _ => False
abbrev E0 : XK := fun _ _ _ => False
theorem pass0 {X : Cx} : Passes CX0 X E0 := fun _ _ _ _ _ _ _ h => h.elim
structure Fun (K : W.Frag) (x qual : Str) (st : Stmt) (f : Addr) (fd : FuncData) : Prop where
 ex : ∃ (oc : Value) (od : Option Addr) (kV doc pm : Value) (an : Option Addr) (cdv ct : Value) (osl : Array (Option Value)),
  fd = W.fnOf x qual (defArgs st) (defBody st) (defScope st) .none kV doc pm an cdv ct /\ K.lookup f = some ⟨oc, od, .func fd, osl⟩ /\ W.codeIn K cdv qual = true
 kp : W.keepIn K (.ref f) = true
section
variable {P : Program} {w : World} {K : W.Frag} {mg : Str -> Option Value} {base : Heap}
theorem Fun.ok {x qual : Str} {st : Stmt} {f : Addr} {fd : FuncData} {N ps : List Str} {k : Nat} {sp : Sp} (F : Fun K x qual st f fd) (S : FnScope N ps (defScope st)) (len : ∀ vs H Q E, sp vs H Q E -> vs.length = ps.length)
  (hbody : ∀ (cdv : Value) (A : Around) (outer : List Env) (s : Shared) (H : Hp) (vs : List V) (Q : VK) (E : XK), Room k (A.deeper (envOfC qual (defScope st) s.heap.objs.size f cdv)) -> sp vs H Q E ->
   ∃ t, PSs (cxOf CX0 P w K mg base N qual (defScope st) f cdv A outer s H E).nox (defBody st) t /\ t { nx := fun _ H' => Q .non H', rt := Q } (start N vs) H) : FnOk P w K mg base CX0 (k + 1) f fd ps sp := by
 obtain ⟨oc, od, kV, doc, pm, an, cdv, ct, osl, rfl, lk, hcd⟩ := F.ex
 refine fn_of lk hcd S len fun A outer s H vs Q E hr hsp => ?_
 obtain ⟨t, h, q⟩ := hbody cdv A outer s H vs Q E hr hsp
 exact ⟨t, h.nox, q⟩
theorem Fun.binds {x qual : Str} {st : Stmt} {f : Addr} {fd : FuncData} {ps : List Str} (F : Fun K x qual st f fd)
  (h : ∀ (kV doc pm : Value) (an : Option Addr) (cdv ct : Value) (us : List Value), us.length = ps.length -> bindArgs (W.fnOf x qual (defArgs st) (defBody st) (defScope st) .none kV doc pm an cdv ct) ⟨us, []⟩ = pure (ps.zip us)) : Binds K fd ps [] := by
 obtain ⟨oc, od, kV, doc, pm, an, cdv, ct, osl, rfl, lk, hcd⟩ := F.ex
 exact .all (h kV doc pm an cdv ct)
theorem fun_mk {x qual : Str} {st : Stmt} {f : Addr} {oc : Value} {od an : Option Addr} {osl : Array (Option Value)} {kV doc pm cdv ct : Value} (l : K.lookup f = some ⟨oc, od, .func (W.fnOf x qual (defArgs st) (defBody st) (defScope st) .none kV doc pm an cdv ct), osl⟩)
  (c : W.codeIn K cdv qual = true) (k : W.keepIn K (.ref f) = true) : Fun K x qual st f (W.fnOf x qual (defArgs st) (defBody st) (defScope st) .none kV doc pm an cdv ct) := ⟨⟨oc, od, kV, doc, pm, an, cdv, ct, osl, rfl, l, c⟩, k⟩
end
section
variable {X : Cx}
theorem pv (i : Nat) {x : Str} {pos : Pos} (hN : X.N[i]? = some x := by rfl) (hv : Vis X.env.scope x := by first | exact Or.inl rfl | exact Or.inr (Or.inl rfl) | exact Or.inr (Or.inr rfl)) (hd : (x == ("__debug__" : Str)) = false := by decide)
  (hcd : (x == ("__classdict__" : Str)) = false := by decide) : PE X (.Name x pos) (tVar i) := pe_var hN hv hd hcd
end
theorem iteF {A B : Prop} (h : B) : if false = true then A else B := by
 rw [if_neg Bool.false_ne_true]
 exact h
theorem iteT {A B : Prop} (h : A) : if true = true then A else B := by
 rw [if_pos rfl]
 exact h
def Same (H H' : Hp) : Prop := ∀ b o, H b = some o -> H' b = some o
theorem Same.refl (H : Hp) : Same H H := fun _ _ h => h
theorem Same.trans {H H1 H2 : Hp} (a : Same H H1) (b : Same H1 H2) : Same H H2 := fun c o h => b c o (a c o h)
theorem Same.free {H H' : Hp} (e : Same H H') {l : Addr} (h : H' l = Option.none) : H l = Option.none := by
 cases q : H l with
 | none => rfl
 | some o =>
  rw [e l o q] at h
  cases h
theorem Same.seq {K : W.Frag} {H H' : Hp} {a : Addr} {xs : List V} (e : Same H H') (h : SqL K H a xs) : SqL K H' a xs := by
 rcases h with (h | ⟨o, h⟩) | h
 ·exact .inl (.inl (e _ _ h))
 ·exact .inl (.inr ⟨o, e _ _ h⟩)
 ·exact .inr h
end
section
def clOf (cells : List (Str × Addr)) : List (Str × NameKind) -> List (Str × Addr) -> List (Str × Addr)
 | [], cs => cs
 | (n, k) :: r, cs => if k = .free then (match cells.lookup n with | some c => clOf cells r ((n, c) :: cs) | none => clOf cells r cs) else clOf cells r cs
theorem closure_run {env : Env} : ∀ (names : List (Str × NameKind)) (cs : List (Str × Addr)), (∀ x ∈ names, x.2 = .free -> ∃ c, env.cells.lookup x.1 = some c) ->
  (forIn names cs fun x r => if (x.2 == NameKind.free) = true then do let c ← cellOf env x.1; pure (ForInStep.yield ((x.1, c) :: r)) else pure (ForInStep.yield r) : Sem (List (Str × Addr))) = pure (clOf env.cells names cs)
 | [], cs, _ => rfl
 | (n, k) :: r, cs, h => by
  have hr : ∀ x ∈ r, x.2 = .free -> ∃ c, env.cells.lookup x.1 = some c := fun x hx => h x (mem_cons_of_mem _ hx)
  rw [forIn_cons]
  by_cases hk : k = .free
  ·subst hk
   obtain ⟨c, hc⟩ := h (n, .free) mem_cons_self rfl
   have hc' : env.cells.lookup n = some c := hc
   have e : cellOf env n = pure c := by unfold cellOf; rw [hc']
   simp only [beq_self_eq_true, if_true, e, pure_bind]
   rw [closure_run r _ hr]
   simp only [clOf, if_true, hc']
  ·have hb : (k == NameKind.free) = false := by simpa using hk
   simp only [hb, Bool.false_eq_true, if_false, pure_bind]
   rw [closure_run r cs hr]
   simp only [clOf, hk, if_false]
theorem closureFor_clOf {env : Env} {scope : Scope} (h : ∀ x ∈ scope.names, x.2 = .free -> ∃ c, env.cells.lookup x.1 = some c) : closureFor scope env = pure (clOf env.cells scope.names []) := by
 have q := closure_run (env := env) scope.names [] h
 simp only [closureFor]
 refine Eq.trans ?_ q
 have e : ∀ (m : Sem (List (Str × Addr))), (m >>= fun cs => pure cs) = m := fun m => by simp
 first | (rw [e]; rfl) | rfl | simp
theorem clOf_sub {cells : List (Str × Addr)} {x : Str} {c : Addr} : ∀ (names : List (Str × NameKind)) (cs : List (Str × Addr)), (∀ y d, cs.lookup y = some d -> cells.lookup y = some d) -> (clOf cells names cs).lookup x = some c -> cells.lookup x = some c
 | [], cs, h, e => h x c e
 | (n, k) :: r, cs, h, e => by
  unfold clOf at e
  split at e
  ·split at e
   ·rename_i d hd
    refine clOf_sub r _ (fun y d' q => ?_) e
    rw [lookup_cons] at q
    split at q
    ·rename_i hy
     have : y = n := by simpa using hy
     subst this
     cases q; exact hd
    ·exact h y d' q
   ·exact clOf_sub r cs h e
  ·exact clOf_sub r cs h e
theorem clOf_mono {cells : List (Str × Addr)} {x : Str} : ∀ (names : List (Str × NameKind)) (cs : List (Str × Addr)), (cs.lookup x).isSome = true -> ((clOf cells names cs).lookup x).isSome = true
 | [], cs, h => h
 | (n, k) :: r, cs, h => by
  unfold clOf
  split
  ·split
   ·refine clOf_mono r _ ?_
    rw [lookup_cons]; split
    ·rfl
    ·exact h
   ·exact clOf_mono r cs h
  ·exact clOf_mono r cs h
theorem clOf_has {cells : List (Str × Addr)} {x : Str} {c : Addr} (hc : cells.lookup x = some c) : ∀ (names : List (Str × NameKind)) (cs : List (Str × Addr)), (x, NameKind.free) ∈ names -> ((clOf cells names cs).lookup x).isSome = true
 | [], cs, h => absurd h (by simp)
 | (n, k) :: r, cs, h => by
  unfold clOf
  rcases List.mem_cons.mp h with e | h
  ·cases e
   rw [if_pos rfl, hc]
   refine clOf_mono r _ ?_
   simp [lookup_cons]
  ·split
   ·split
    ·exact clOf_has hc r _ h
    ·exact clOf_has hc r cs h
   ·exact clOf_has hc r cs h
theorem lookup_relabel_free {env : Env} : ∀ {names : List (Str × NameKind)} {x : Str}, names.lookup x = some .free ->
  (names.map fun (n, k) => if (k == NameKind.free && env.scope.kind == .function && env.kindOf n == some .cell) then (n, NameKind.cell) else (n, k)).lookup x = some .cell \/
  (names.map fun (n, k) => if (k == NameKind.free && env.scope.kind == .function && env.kindOf n == some .cell) then (n, NameKind.cell) else (n, k)).lookup x = some .free
 | [], _, h => by simp at h
 | (n, k) :: r, x, h => by
  have ih := @lookup_relabel_free env r x
  show List.lookup x ((if (k == NameKind.free && env.scope.kind == .function && env.kindOf n == some .cell) = true then (n, NameKind.cell) else (n, k)) :: _) = _ \/ List.lookup x ((if (k == NameKind.free && env.scope.kind == .function && env.kindOf n == some .cell) = true then (n, NameKind.cell) else (n, k)) :: _) = _
  by_cases hc : (k == NameKind.free && env.scope.kind == .function && env.kindOf n == some .cell) = true
  ·rw [if_pos hc]
   cases hx : x == n with
   | true => left; simp only [lookup_cons, hx]
   | false => simp only [lookup_cons, hx] at h ⊢; exact ih h
  ·rw [if_neg hc]
   cases hx : x == n with
   | true => right; simp only [lookup_cons, hx] at h ⊢; exact h
   | false => simp only [lookup_cons, hx] at h ⊢; exact ih h
theorem relabel_free_mem {env : Env} : ∀ {names : List (Str × NameKind)} {x : Str} {k : NameKind}, (∀ y ∈ names, y.2 ≠ .cell) ->
  (names.map fun (n, k) => if (k == NameKind.free && env.scope.kind == .function && env.kindOf n == some .cell) then (n, NameKind.cell) else (n, k)).lookup x = some k -> (k = .cell \/ k = .free) -> (x, NameKind.free) ∈ names
 | [], _, _, _, h, _ => by simp at h
 | (n, k') :: r, x, k, hc0, h, hk => by
  have ih := @relabel_free_mem env r x k (fun y hy => hc0 y (mem_cons_of_mem _ hy))
  have h : List.lookup x ((if (k' == NameKind.free && env.scope.kind == .function && env.kindOf n == some .cell) = true then (n, NameKind.cell) else (n, k')) :: _) = _ := h
  by_cases hc : (k' == NameKind.free && env.scope.kind == .function && env.kindOf n == some .cell) = true
  ·rw [if_pos hc] at h
   have hf : k' = .free := by
    have := hc; simp only [Bool.and_eq_true] at this; simpa using this.1.1
   cases hx : x == n with
   | true =>
    have hxn : x = n := by simpa using hx
    subst hxn; subst hf; exact mem_cons_self
   | false => simp only [lookup_cons, hx] at h; exact mem_cons_of_mem _ (ih h hk)
  ·rw [if_neg hc] at h
   cases hx : x == n with
   | true =>
    have hxn : x = n := by simpa using hx
    subst hxn
    simp only [lookup_cons, hx] at h
    have e : k' = k := Option.some.inj h
    subst e
    rcases hk with hk | hk
    ·exact absurd hk (hc0 _ mem_cons_self)
    ·subst hk; exact mem_cons_self
   | false => simp only [lookup_cons, hx] at h; exact mem_cons_of_mem _ (ih h hk)
end
section
structure Blk (X : Cx) (sc : Scope) (N : List Str) (src : List (Option Nat)) : Prop where
 kind : sc.kind = .function
 nocell : ∀ y ∈ sc.names, y.2 ≠ .cell
 names : ∀ y ∈ sc.names, y.2 = .local -> sc.names.lookup y.1 = some .local
 free : ∀ y ∈ sc.names, y.2 = .free -> X.env.kindOf y.1 = some .cell \/ X.env.kindOf y.1 = some .free
 fv : ∀ (j i : Nat), src[j]? = some (some i) -> ∃ x, N[j]? = some x /\ X.N[i]? = some x /\ sc.names.lookup x = some .free
 len : src.length = N.length
def blk0 (src : List (Option Nat)) (σ : St) : St := src.map fun o => o.bind fun i => (σ[i]?).join
def blkCx (X : Cx) (sc : Scope) (C : Addr) (N : List Str) (fp : List Addr) (s : Shared) (H : Hp) : Cx where
 prog := X.prog
 w := X.w
 K := X.K
 mg := X.mg
 base := X.base
 A := X.A
 N := N
 s₀ := s
 H₀ := H
 env := compEnvC sc (clOf X.env.cells sc.names []) C X.env
 outer := X.stack
 stack := X.stack
 ex := fp
 fn := fun _ => false
 calm := true
 pn := []
 xe := fun _ _ => False
section
variable {X : Cx} {pins : List (Addr × Obj)} {σ : St} {H : Hp} {s : Shared}
theorem Blk.cl {sc : Scope} {N : List Str} {src : List (Option Nat)} (B : Blk X sc N src) (ok : X.Ok) : closureFor sc X.env = pure (clOf X.env.cells sc.names []) :=
 closureFor_clOf fun x hx hk => ok.has x.1 (B.free x hx hk)
theorem cl_sub {sc : Scope} {x : Str} {c : Addr} (h : (clOf X.env.cells sc.names []).lookup x = some c) : X.env.cells.lookup x = some c :=
 clOf_sub sc.names [] (fun y d e => by simp at e) h
theorem blk_start {sc : Scope} {N : List Str} {src : List (Option Nat)} {fp : List Addr} {D C : Addr} {h4 : Heap} {t : Nat} {m : Str -> Option Value}
  (B : Blk X sc N src) (I : Inv X pins σ H s) (hc : X.calm = true) (hf : ∀ b ∈ fp, FpOk X pins H b) (hfo : ∀ b ∈ fp, ∃ o, s.heap.get? b = some o)
  (hk : ∀ b o, s.heap.get? b = some o -> h4.get? b = some o) (hD : s.heap.objs.size <= D) (hDl : h4.get? D = some { cls := .type "list", data := .seq #[] 0 })
  (hn : h4.Ns C m) (hC : s.heap.objs.size <= C) (hDC : D ≠ C) :
  Inv (blkCx X sc C N fp s H) [] (blk0 src σ) (upd H D (.lst [])) { s with heap := h4, toks := t } := by
 have hHD : H D = none := I.hok.fresh hD
 have hHC : H C = none := I.hok.fresh hC
 have new : ObjOk X.prog X.w (upd H D (.lst [])) h4 D (.lst []) := ⟨Nat.zero_le _, [], 0, .nil, hDl⟩
 have cC : ∀ x c, X.env.cells.lookup x = some c -> c ≠ C := fun x c e z => by
  obtain ⟨v, q⟩ := I.cell x c e
  exact absurd (Nat.lt_of_lt_of_le q.lt (by rw [z]; exact hC)) (Nat.lt_irrefl _)
 have cD : ∀ x c, X.env.cells.lookup x = some c -> c ≠ D := fun x c e z => by
  obtain ⟨v, q⟩ := I.cell x c e
  exact absurd (Nat.lt_of_lt_of_le q.lt (by rw [z]; exact hD)) (Nat.lt_irrefl _)
 refine ⟨⟨I.ok.mod, ?_, I.ok.glob, I.ok.blt, hC, fun x y c h1 h2 => ?_, fun x hx => ?_, fun x c h _ => (by cases h), fun _ => I.ok.hd hc, I.ok.frames, .inl rfl, fun b hb => ⟨?_, fun x c e => ?_⟩, I.bs, Nat.le_trans I.ok.bsz I.sz, fun b o e hb => ?_, fun b hb z => ?_, I.stack, I.stkFree⟩,
  rfl, I.bare, Un.laid hk hD hHD, ⟨m, hn, fun i x v e1 e2 e3 => ?_⟩, fun x c e => ?_, ?_, fun x c e => ?_, fun p hp => ?_, I.hok.laid hk hD new, ?_⟩
 ·show (relabel sc X.env).kind = _
  exact B.kind
 ·exact I.ok.inj x y c (cl_sub h1) (cl_sub h2)
 ·have hx' : (∃ k, (relabel sc X.env).names.lookup x = some k /\ (k = .cell \/ k = .free)) := by
   rcases hx with hx | hx
   ·exact ⟨_, hx, .inl rfl⟩
   ·exact ⟨_, hx, .inr rfl⟩
  obtain ⟨k, e, hk'⟩ := hx'
  have hm := relabel_free_mem B.nocell e hk'
  obtain ⟨c, hc'⟩ := I.ok.has x (B.free _ hm rfl)
  exact Option.isSome_iff_exists.mp (clOf_has hc' sc.names [] hm)
 ·obtain ⟨o, e⟩ := hfo b hb
  exact Nat.ne_of_lt (Nat.lt_of_lt_of_le (Heap.lt_size e) hC)
 ·exact (hf b hb).2.2.2.2.1 x c (cl_sub e)
 ·rcases (hf b hb).2.2.2.1 with z | z
  ·exact I.ok.noex b o e z
  ·exact absurd (Nat.lt_of_lt_of_le (Heap.lt_size e) (Nat.le_trans I.ok.bsz z)) (Nat.lt_irrefl _)
 ·rcases List.mem_cons.mp (I.stkSub b z) with z | z
  ·exact (hf b hb).2.1 z
  ·exact (hf b hb).2.2.1 z
 ·have e2' : ∃ k, src[i]? = some (some k) /\ σ[k]? = some (some v) := by
   unfold blk0 at e2
   rw [getElem?_map] at e2
   cases q : src[i]? with
   | none => rw [q] at e2; cases e2
   | some o =>
    rw [q] at e2
    cases o with
    | none => cases e2
    | some k =>
     refine ⟨k, rfl, ?_⟩
     have e2 : (σ[k]?).join = some v := Option.some.inj e2
     cases qq : σ[k]? with
     | none => rw [qq] at e2; cases e2
     | some z => rw [qq] at e2; exact congrArg some e2
  obtain ⟨k, ek, ev⟩ := e2'
  obtain ⟨x', n1, n2, n3⟩ := B.fv i k ek
  have : x' = x := by
   have e1 : N[i]? = some x := e1
   rw [n1] at e1; exact Option.some.inj e1
  subst this
  obtain ⟨m0, hn0, hl0⟩ := I.loc
  have hfk := B.free (x', .free) (PySem.mem_of_lookup n3) rfl
  obtain ⟨u, r, l⟩ := hl0 k x' v n2 ev (by rcases hfk with z | z; exact .inr (.inl z); exact .inr (.inr z))
  refine ⟨u, r, .inr ⟨?_, ?_⟩⟩
  ·exact lookup_relabel_free n3
  ·rcases l with ⟨l, _⟩ | ⟨_, c, ec, z⟩
   ·rcases hfk with q | q <;> (rw [q] at l; cases l)
   ·obtain ⟨c', ec'⟩ := Option.isSome_iff_exists.mp (clOf_has ec sc.names [] (PySem.mem_of_lookup n3))
    have := cl_sub ec'
    rw [ec] at this; cases this
    obtain ⟨o, ho, hd⟩ := z
    exact ⟨c, ec', o, hk c o ho, hd⟩
 ·obtain ⟨v, o, ho, hd⟩ := I.cell x c (cl_sub e)
  exact ⟨v, o, hk c o ho, hd⟩
 ·show upd H D _ C = none
  rw [upd_ne (Ne.symm hDC)]; exact hHC
 ·rw [upd_ne (cD x c (cl_sub e))]; exact I.freeC x c (cl_sub e)
 ·exact absurd (show p ∈ ([] : List (Addr × Obj)) ++ [] from hp) (by simp)
 ·show (blk0 src σ).length = N.length
  unfold blk0; rw [length_map]; exact B.len
end
end
section
abbrev noE : Value -> Shared -> Prop := fun _ _ => False
theorem toE {α : Type} {t : Sem α} {Q Q' : α -> Shared -> Prop} {M : Model} {A : Around} {E : Value -> Shared -> Prop} {s : Shared} (h : wpAny M A t Q noE s) (hQ : ∀ a s, Q a s -> Q' a s) : wpAny M A t Q' E s :=
 wpAny_mono h hQ fun _ _ x => x.elim
abbrev compTests (ifs : List Expr) (env : Env) : Sem Bool := forIn ifs true fun c r => if r = true then do let ok ← isTrue c env (eval c env); pure (ForInStep.yield ok) else pure (ForInStep.yield r)
theorem compLoop_any {prog : Program} {w : World} {A : Around} {R : Result -> Shared -> Prop} {s : Shared} {elt target iter : Expr} {ifs : List Expr} {scope : Scope} {pos : Pos} {it acc : Value} {env : Env} (I : Nat -> Shared -> Prop)
  (turn : ∀ n s, I n s -> wpAny (model prog w) A (pyNext it) (fun r s₁ => match r with
   | none => R (.ok .next) s₁
   | some v => wpAny (model prog w) A (letOwnedTupleGo target it v) (fun _ s₁' => wpAny (model prog w) A (assign target env v) (fun _ s₂ =>
     wpAny (model prog w) A (compTests ifs env) (fun ok s₃ =>
      if ok = true then wpAny (model prog w) A (eval elt env) (fun x s₄ =>
       wpAny (model prog w) A (call (.builtin "list.append") [acc, x]) (fun _ s₅ => ∃ m, m < n /\ I m s₅) noE s₄) noE s₃
      else ∃ m, m < n /\ I m s₃) noE s₂) noE s₁') noE s₁) noE s)
  (n : Nat) (h : I n s) :
  codeAny (model prog w) A (.compLoop (.ListComp elt [⟨target, iter, ifs, 0⟩] scope pos) 0 it acc env) R s := by
 refine codeAny_loop rfl I (fun n s hI => ?_) n h
 show wpAny _ A ((compTurn (.ListComp elt [⟨target, iter, ifs, 0⟩] scope pos) 0 it acc env).onRaise (fun x => do noteFrame x env; theTreesLotGoes x)) _ _ s
 refine wpAny_noted ?_
 rw [compTurn_list]
 refine wpAny_bind (wpAny_standAt (wpAny_bind (toE (turn n s hI) (fun r s₁ h₁ => ?_))))
 cases r with
 | none => exact wpAny_pure h₁
 | some v =>
  refine wpAny_bind (toE h₁ fun _ s₁' h₁' => ?_)
  refine wpAny_bind (toE h₁' (fun _ s₂ h₂ => wpAny_bind (toE h₂ (fun ok s₃ h₃ => ?_))))
  cases ok with
  | false => exact wpAny_pure ⟨rfl, h₃⟩
  | true =>
   exact wpAny_bind (wpAny_bind (toE h₃ (fun x s₄ h₄ => wpAny_bind (toE h₄ (fun _ s₅ h₅ => wpAny_pure (wpAny_pure ⟨rfl, h₅⟩))))))
def PTs (X : Cx) (ifs : List Expr) (t : TT) : Prop :=
 ∀ (pins : List (Addr × Obj)) (s : Shared) (σ : St) (H : Hp) (Q : Bool -> Hp -> Prop), Inv X pins σ H s -> t σ H Q -> wpAny (model X.prog X.w) X.A (compTests ifs X.env) (TP X pins σ Q) X.xe s
def tYes : TT := fun _ H Q => Q true H
theorem pts_nil {X : Cx} : PTs X [] tYes := fun pins s σ H Q I h => wpAny_pure ⟨H, I, h⟩
theorem pts_one {X : Cx} {c : Expr} {t : TT} (h : PT X c t) : PTs X [c] t := fun pins s σ H Q I q => wpAny_tests_one (h pins s σ H Q I q)
def tComp (src : List (Option Nat)) (wi : TI) (g : TG) (tc : TT) (te : TE) : TE := fun σ H Q => wi σ H fun J H1 => ∀ D, H1 D = none -> ∃ W : Nat -> Nat -> St -> Hp -> Prop, (∃ m, W 0 m (blk0 src σ) (upd H1 D (.lst []))) /\ ∀ i m σ' H', W i m σ' H' ->
 (J.stop i H' /\ Q (.ref D) H') \/ (J.go i H' /\ ∃ N : St -> Hp -> Prop, (∀ σ2 H2, N σ2 H2 -> ∃ m', m' < m /\ W (i + 1) m' σ2 H2) /\ ∀ x H2, J.yld i H' x H2 -> g x σ' H2 fun σ3 H3 => tc σ3 H3 fun b H4 =>
  if b = true then te σ3 H4 fun y H5 => ∃ xs, H5 D = some (.lst xs) /\ xs.length < sizeLine /\ N σ3 (upd H5 D (.lst (xs ++ [y]))) else N σ3 H4)
section
variable {X : Cx}
theorem comp_block {sc : Scope} {N : List Str} {src : List (Option Nat)} {tg elt iter : Expr} {ifs : List Expr} {pos : Pos} {g : TG} {tc : TT} {te : TE} (B : Blk X sc N src) (hc : X.calm = true)
  (hg : ∀ C fp s H, PG (blkCx X sc C N fp s H) tg g) (ht : ∀ C fp s H, PTs (blkCx X sc C N fp s H) ifs tc) (he : ∀ C fp s H, PE (blkCx X sc C N fp s H) elt te)
  {pins : List (Addr × Obj)} {σ : St} {H : Hp} {s : Shared} {it : Addr} {fp : List Addr} {tn : Nat -> Heap -> Prop} {J : It} {Q : VK} {E : Value -> Shared -> Prop}
  (I : Inv X pins σ H s) (T : Turn X.prog X.w X.K tg J fp it tn) (st : tn 0 s.heap) (hf : ∀ b ∈ fp, FpOk X pins H b)
  (hW : ∀ D, H D = none -> ∃ W : Nat -> Nat -> St -> Hp -> Prop, (∃ m, W 0 m (blk0 src σ) (upd H D (.lst []))) /\ ∀ i m σ' H', W i m σ' H' ->
   (J.stop i H' /\ Q (.ref D) H') \/ (J.go i H' /\ ∃ N : St -> Hp -> Prop, (∀ σ2 H2, N σ2 H2 -> ∃ m', m' < m /\ W (i + 1) m' σ2 H2) /\ ∀ x H2, J.yld i H' x H2 -> g x σ' H2 fun σ3 H3 => tc σ3 H3 fun b H4 =>
    if b = true then te σ3 H4 fun y H5 => ∃ xs, H5 D = some (.lst xs) /\ xs.length < sizeLine /\ N σ3 (upd H5 D (.lst (xs ++ [y]))) else N σ3 H4))
  {RR : Value -> Addr -> Result -> Shared -> Prop}
  (hRR : ∀ D C H' s' m', Inv X pins σ H' s' -> s'.heap.Ns C m' -> H' C = none -> s.heap.objs.size <= C -> Q (.ref D) H' -> RR (.ref D) C (.ok .next) s') :
  wpAny (model X.prog X.w) X.A (newList []) (fun acc s₃ => wpAny (model X.prog X.w) X.A (newFunctionEnv sc X.env.globals (clOf X.env.cells sc.names []) [] X.env.qual none .none (some X.env)) (fun cenv s₄ =>
   codeAny (model X.prog X.w) X.A (.compStart (.ListComp elt [⟨tg, iter, ifs, 0⟩] sc pos) 0 (.ref it) acc { cenv with scope := relabel sc X.env }) (RR acc cenv.locals) s₄) E s₃) E s := by
 refine wpAny_newObj_type (wpAny_newFunctionEnv B.nocell (by intro y hy; simp at hy) (fun h₁ hns₁ hsb₁ => ?_) B.kind)
 dsimp only at hns₁ hsb₁ ⊢
 generalize hH2 : s.heap.push { cls := .type "list", dict := none, data := .seq ([] : List Value).toArray } = H2 at hns₁ hsb₁ ⊢
 have hC : H2.objs.size = s.heap.objs.size + 1 := by rw [<- hH2, Heap.size_push]
 have hDC : s.heap.objs.size ≠ H2.objs.size := by rw [hC]; exact Nat.ne_of_lt (Nat.lt_succ_self _)
 have hCle : s.heap.objs.size <= H2.objs.size := by rw [hC]; exact Nat.le_succ _
 have below : ∀ b, b < s.heap.objs.size -> b ≠ H2.objs.size := fun b hb => by rw [hC]; exact Nat.ne_of_lt (Nat.lt_succ_of_lt hb)
 have old : ∀ b o, s.heap.get? b = some o -> h₁.get? b = some o := fun b o e => hsb₁.extBut b o (below b (Heap.lt_size e)) (Heap.get?_push_of_some _ (hH2 ▸ Heap.get?_push_of_some _ e))
 have hacc : h₁.get? s.heap.objs.size = some { cls := .type "list", data := .seq #[] 0 } := hsb₁.extBut _ _ hDC (Heap.get?_push_of_some _ (hH2 ▸ Heap.get?_push_size _ rfl))
 have hfo : ∀ b ∈ fp, ∃ o, s.heap.get? b = some o := fun b hb => by obtain ⟨o, e, _⟩ := T.obj _ _ st b hb; exact ⟨o, e⟩
 have st1 : tn 0 h₁ := T.keep _ _ _ st fun b _ o e => old b o e
 obtain ⟨W, ⟨m0, w0⟩, turn⟩ := hW s.heap.objs.size I.fresh
 have I1 := blk_start (t := s.toks + ([] : List (Str × Value)).length) B I hc hf hfo old (Nat.le_refl _) hacc hns₁ hCle hDC
 have stat : ∀ {H' : Hp}, (∀ b ∈ fp, H' b = none) -> ∀ b ∈ fp, FpOk (blkCx X sc H2.objs.size N fp s H) [] H' b := fun {H'} hn b hb => by
  obtain ⟨f0, f1, f2, f3, f4, f5⟩ := hf b hb
  refine ⟨hn b hb, I1.ok.exf b hb |>.1, I1.ok.exfs b hb, .inl hb, fun x c e => f4 x c (cl_sub e), fun p hp => absurd (show p ∈ ([] : List (Addr × Obj)) ++ [] from hp) (by simp)⟩
 have hfD : ∀ b ∈ fp, b ≠ s.heap.objs.size := fun b hb z => by
  obtain ⟨o, e⟩ := hfo b hb
  exact absurd (Heap.lt_size e) (by rw [z]; exact Nat.lt_irrefl _)
 have loop : ∀ s₃ : Shared, s₃ = { s with heap := h₁, toks := s.toks + ([] : List (Str × Value)).length } ->
   codeAny (model X.prog X.w) X.A (.compLoop (.ListComp elt [⟨tg, iter, ifs, 0⟩] sc pos) 0 (.ref it) (.ref s.heap.objs.size) (compEnvC sc (clOf X.env.cells sc.names []) H2.objs.size X.env))
    (RR (.ref s.heap.objs.size) H2.objs.size) s₃ := by
  rintro s₃ rfl
  refine compLoop_any (fun n s' => ∃ i σ' H', Inv (blkCx X sc H2.objs.size N fp s H) [] σ' H' s' /\ tn i s'.heap /\ (∀ b ∈ fp, H' b = none) /\ W i n σ' H') ?_ m0
   ⟨0, _, _, I1, st1, fun b hb => by rw [upd_ne (hfD b hb)]; exact (hf b hb).1, w0⟩
  rintro n s3 ⟨i, σ3, H3, I3, st3, fr3, w3⟩
  rcases turn i n σ3 H3 w3 with ⟨stop, qn⟩ | ⟨go, N', hN', step⟩
  ·refine thn (T.done (blkCx X sc H2.objs.size N fp s H) rfl rfl rfl rfl i [] s3 σ3 H3 noE I3 (stat fr3) st3 stop) fun r s4 ⟨hr, I4⟩ => ?_
   subst hr
   obtain ⟨m4, hn4, _⟩ := id I4.loc
   refine hRR _ _ H3 s4 m4 ?_ hn4 I4.free hCle qn
   exact I.call' (ch := fp) I4.os I4.base I4.hok I4.bare fun b hb => ⟨(hf b hb).2.2.2.1, (hf b hb).2.1, (hf b hb).2.2.2.2.1, (hf b hb).2.2.2.2.2⟩
  ·refine thn (T.item (blkCx X sc H2.objs.size N fp s H) rfl rfl rfl rfl i [] s3 σ3 H3 noE I3 (stat fr3) st3 go) fun r s4 ⟨u, hr, h4⟩ => ?_
   subst hr
   refine thn h4 fun _ s5 hpat => ?_
   obtain ⟨x, H5, I5, r5, y5, st5, fr5⟩ := hpat
   have I5' := I5.pinned (stat fr5) (T.obj _ _ st5)
   have again : ∀ {s7 : Shared} {σ7 : St} {H7 : Hp}, Inv (blkCx X sc H2.objs.size N fp s H) ([] ++ pinsAt fp s5.heap) σ7 H7 s7 -> N' σ7 H7 -> ∃ m, m < n /\ ∃ i σ' H', Inv (blkCx X sc H2.objs.size N fp s H) [] σ' H' s7 /\ tn i s7.heap /\ (∀ b ∈ fp, H' b = none) /\ W i m σ' H' := fun {s7 σ7 H7} I7 n7 => by
    obtain ⟨m', hm, w7⟩ := hN' σ7 H7 n7
    refine ⟨m', hm, i + 1, σ7, H7, I7.unpinned, T.keep _ _ _ st5 fun b hb o e => (I7.pin (b, o) (mem_append_right _ (mem_append_right _ (mem_pinsAt hb e)))).1, fun b hb => ?_, w7⟩
    obtain ⟨o, e, d⟩ := T.obj _ _ st5 b hb
    exact (I7.pin (b, o) (mem_append_right _ (mem_append_right _ (mem_pinsAt hb e)))).2.1
   refine thn (hg _ _ _ _ _ s5 σ3 H5 x u _ I5' r5 (step x H5 y5)) fun _ s6 hpat => ?_
   obtain ⟨σ6, H6, I6, q6⟩ := hpat
   refine thn (ht _ _ _ _ _ s6 σ6 H6 _ I6 q6) fun ok s7 hpat => ?_
   obtain ⟨H7, I7, q7⟩ := hpat
   cases ok with
   | false =>
    rw [if_neg Bool.false_ne_true] at q7 ⊢
    exact again I7 q7
   | true =>
    rw [if_pos rfl] at q7 ⊢
    refine thn (he _ _ _ _ _ s7 σ6 H7 _ I7 q7) fun y s8 hpat => ?_
    obtain ⟨v8, H8, I8, r8, q8⟩ := hpat
    obtain ⟨xs, hD8, hz8, n8⟩ := q8
    refine thn (mt_append _ s8 σ6 H8 (.ref s.heap.objs.size) [v8] (.ref s.heap.objs.size) [y] (fun _ H9 => H9 = upd H8 s.heap.objs.size (.lst (xs ++ [v8]))) I8 rfl (.cons r8 .nil) ⟨_, xs, v8, rfl, rfl, hD8, hz8, rfl⟩) fun _ s9 hpat => ?_
    obtain ⟨v9, H9, I9, r9, q9⟩ := hpat
    subst q9
    exact again I9 n8
 refine codeAny_compStart_list (loop _ rfl) (toE (T.self X.A 0 { s with heap := h₁, toks := s.toks + ([] : List (Str × Value)).length } (fun v s' => v = .ref it /\ s' = { s with heap := h₁, toks := s.toks + ([] : List (Str × Value)).length }) noE st1 ⟨rfl, rfl⟩) fun v s' hpat => ?_)
 obtain ⟨e1, e2⟩ := hpat
 subst e1; subst e2
 exact loop _ rfl
theorem Inv.letGo {pins : List (Addr × Obj)} {σ : St} {H : Hp} {s s0 : Shared} {C : Addr} {h' : Heap} (I : Inv X pins σ H s) (I0 : ∃ σ0 H0, Inv X pins σ0 H0 s0) (hC : s0.heap.objs.size <= C) (hn : H C = none) (hs : Heap.SameBut C s.heap h') : Inv X pins σ H { s with heap := h' } := by
 obtain ⟨σ0, H0, I0⟩ := I0
 refine I.turned (t' := s.toks) (it := C) (fun b o hb e => (hs.2 b hb).trans e) hn (Nat.ne_of_gt (Nat.lt_of_lt_of_le I0.lt hC)) (.inr (Nat.le_trans I0.sz hC)) (fun x c e z => ?_) fun p hp z => ?_
 ·obtain ⟨v, q⟩ := I0.cell x c e
  exact absurd (Nat.lt_of_lt_of_le q.lt (by rw [z]; exact hC)) (Nat.lt_irrefl _)
 ·exact absurd (Nat.lt_of_lt_of_le (Heap.lt_size (I0.pin p hp).1) (by rw [z]; exact hC)) (Nat.lt_irrefl _)
theorem pe_comp {sc : Scope} {N : List Str} {src : List (Option Nat)} {tg elt iter : Expr} {ifs : List Expr} {pos : Pos} {wi : TI} {g : TG} {tc : TT} {te : TE} (B : Blk X sc N src) (hc : X.calm = true)
  (hi : PI X tg iter wi) (hg : ∀ C fp s H, PG (blkCx X sc C N fp s H) tg g) (ht : ∀ C fp s H, PTs (blkCx X sc C N fp s H) ifs tc) (he : ∀ C fp s H, PE (blkCx X sc C N fp s H) elt te)
  (hs : ∀ x, foldedSetIterable iter X.env x = pure x := by intro _; rfl) :
  PE X (.ListComp elt [⟨tg, iter, ifs, 0⟩] sc pos) (tComp src wi g tc te) := by
 intro pins s σ H Q I h
 rw [eval_ListComp]
 refine wpAny_comprehension_free (use := none) rfl hs (B.cl I.ok) B.kind B.names (wpAny_mono (hi pins s σ H _ I h) (fun xv s₁ h₁ => wpAny_mono h₁ (fun itv s₂ h₂ => ?_) fun _ _ e => e) fun _ _ e => e)
 obtain ⟨it, fp, tn, J, H2, rfl, I2, T, st2, f2, hW⟩ := h₂
 refine comp_block (RR := fun acc C => compPost (model X.prog X.w) X.A X.xe none (EP X pins σ Q) acc C) (Q := Q) B hc hg ht he I2 T st2 f2 hW ?_
 intro D C H' s' m' I' hn hC hCs q
 exact ⟨m', hn, fun h'' hs'' => ⟨.ref D, H', I'.letGo ⟨_, _, I2⟩ hCs hC hs'', rfl, q⟩⟩
theorem ps_setC {i : Nat} {y : Str} {py : Pos} {sc : Scope} {N : List Str} {src : List (Option Nat)} {tg elt iter : Expr} {ifs : List Expr} {pos spos : Pos} {wi : TI} {g : TG} {tc : TT} {te : TE} (hN : X.N.Nodup) (hi' : X.N[i]? = some y) (hx : Loc X.env.scope y)
  (B : Blk X sc N src) (hc : X.calm = true)
  (hi : PI X tg iter wi) (hg : ∀ C fp s H, PG (blkCx X sc C N fp s H) tg g) (ht : ∀ C fp s H, PTs (blkCx X sc C N fp s H) ifs tc) (he : ∀ C fp s H, PE (blkCx X sc C N fp s H) elt te)
  (hsw : swapsWith (.ListComp elt [⟨tg, iter, ifs, 0⟩] sc pos) (some (.Name y py)) spos.line X.env = pure true := by rfl)
  (hs : ∀ x, foldedSetIterable iter X.env x = pure x := by intro _; rfl) (hf : X.fn y = true \/ X.env.scope.names.lookup y = some .local := by first | exact .inl rfl | exact .inr rfl | assumption) :
  PS X (.Assign [.Name y py] (.ListComp elt [⟨tg, iter, ifs, 0⟩] sc pos) spos) (tAsg (tComp src wi g tc te) (gName i)) := by
 intro pins s σ H Dn I h
 rw [exec_Assign_Name_used _ _ _ _ hsw]
 refine wpAny_bind (wpAny_standAt (wpAny_bind ?_))
 show wpAny _ _ (do let _ ← comprehension (.ListComp elt [⟨tg, iter, ifs, 0⟩] sc pos) sc X.env _ (newList []) false (eval iter X.env) (some (assign (.Name y py) X.env))) _ _ s
 refine wpAny_bind (wpAny_mono (wpAny_comprehension_free (use := some (assign (.Name y py) X.env)) (Q := fun _ s' => SP X pins Dn .next s') rfl hs (B.cl I.ok) B.kind B.names
  (wpAny_mono (hi pins s σ H _ I h) (fun xv s₁ h₁ => wpAny_mono h₁ (fun itv s₂ h₂ => ?_) fun _ _ e => e) fun _ _ e => e)) (fun _ s' hq => wpAny_pure (wpAny_pure hq)) fun _ _ e => e)
 obtain ⟨it, fp, tn, J, H2, rfl, I2, T, st2, f2, hW⟩ := h₂
 refine comp_block (RR := fun acc C => compPost (model X.prog X.w) X.A X.xe (some (assign (.Name y py) X.env)) (fun _ s' => SP X pins Dn .next s') acc C) (Q := fun x H1 => gName i x σ H1 Dn.nx) B hc hg ht he I2 T st2 f2 hW ?_
 intro D C H' s' m' I' hn hC hCs q
 show wpAny _ _ (assign (.Name y py) X.env (.ref D)) _ _ _
 refine wpAny_assign_Name (store_ok2 I' hN hi' hx (v := .ref D) rfl (fun s'' I'' hpat => ?_) hf)
 obtain ⟨a, hsb, ha⟩ := hpat
 have hCa : C ≠ a := fun z => by
  rcases ha with ha | ha
  ·have := I2.lt; rw [<- ha, <- z] at this
   exact absurd (Nat.lt_of_lt_of_le this hCs) (Nat.lt_irrefl _)
  ·obtain ⟨v, qv⟩ := I2.cell y a ha
   exact absurd (Nat.lt_of_lt_of_le qv.lt (by rw [<- z]; exact hCs)) (Nat.lt_irrefl _)
 exact ⟨m', hn.sameBut hsb hCa, fun h'' hs'' => ⟨_, H', I''.letGo ⟨_, _, I2⟩ hCs hC hs'', q⟩⟩
end
end
section
section
variable {X : Cx} {pins : List (Addr × Obj)} {σ : St} {H : Hp} {s : Shared} {h' : Heap}
theorem Inv.turnedL {t' : Nat} {fp : List Addr} (I : Inv X pins σ H s) (k : ∀ b o, b ∉ fp -> s.heap.get? b = some o -> h'.get? b = some o) (hf : ∀ b ∈ fp, FpOk X pins H b) : Inv X pins σ H { s with heap := h', toks := t' } := by
 have nit : ∀ b u, H b = some u -> b ∉ fp := fun b u e z => by rw [(hf b z).1] at e; cases e
 refine I.step (g' := s.gens) (d' := s.drawn) (ch := fp) (fun b hb => ⟨(hf b hb).2.2.2.1, (hf b hb).2.1, (hf b hb).2.2.2.2.1, (hf b hb).2.2.2.2.2⟩) (fun b o _ _ hc e _ => k b o hc e) (fun b o _ _ hc e _ => ⟨o.slots, k b o hc e⟩) (fun _ _ _ _ n => n)
  (fun b o hc e => ⟨o, k b o hc e⟩) (fun _ _ e => e) (fun _ _ _ e => e) (fun b ps e => ⟨#[], by rw [e]; simp⟩) (fun m hm => ?_) (fun b u e => ?_) I.bare
 ·obtain ⟨o, es, ep, ho, r⟩ := hm
  exact ⟨o, es, ep, k _ o (fun z => (hf _ z).2.1 rfl) ho, r⟩
 ·refine (I.hok b u e).stay (fun c v hc q => k c v ?_ q) (fun _ q => q) fun _ _ q => q
  rcases hc with z | z
  ·rw [z]; exact nit b u e
  ·exact nit c _ z
theorem Inv.turnedN {t' : Nat} {fp : List Addr} {T : Addr} {o : HO} (I : Inv X pins σ H s) (k : ∀ b o, b ∉ fp -> s.heap.get? b = some o -> h'.get? b = some o) (hf : ∀ b ∈ fp, FpOk X pins H b) (hT : s.heap.objs.size <= T)
  (new : ObjOk X.prog X.w (upd H T o) h' T o) : Inv X pins σ (upd H T o) { s with heap := h', toks := t' } := by
 have hn : H T = none := I.hok.fresh hT
 have ne : ∀ b u, s.heap.get? b = some u -> b ≠ T := fun b u e z => absurd (Nat.lt_of_lt_of_le (Heap.lt_size e) (by rw [z]; exact hT)) (Nat.lt_irrefl _)
 have nit : ∀ b u, H b = some u -> b ∉ fp := fun b u e z => by rw [(hf b z).1] at e; cases e
 refine I.step (g' := s.gens) (d' := s.drawn) (ch := fp) (fun b hb => ⟨(hf b hb).2.2.2.1, (hf b hb).2.1, (hf b hb).2.2.2.2.1, (hf b hb).2.2.2.2.2⟩) (fun b o _ _ hc e _ => k b o hc e) (fun b o _ _ hc e _ => ⟨o.slots, k b o hc e⟩) (fun b o _ e n => by rw [upd_ne (ne b o e)]; exact n)
  (fun b o hc e => ⟨o, k b o hc e⟩) (fun b xs e => by rw [upd_ne (ne_of_none e hn)]; exact e) (fun b _ _ e => by rw [upd_ne (ne_of_none e hn)]; exact e) (fun b ps e => ⟨#[], by rw [upd_ne (ne_of_none e hn), e]; simp⟩) (fun m hm => ?_) (fun b u e => ?_) I.bare
 ·obtain ⟨o, es, ep, ho, r⟩ := hm
  exact ⟨o, es, ep, k _ o (fun z => (hf _ z).2.1 rfl) ho, r⟩
 ·by_cases hb : b = T
  ·subst hb; rw [upd_same] at e; cases e; exact new
  ·rw [upd_ne hb] at e
   refine (I.hok b u e).stay (fun c v hc q => k c v ?_ q) (fun c q => by rw [upd_ne (ne_of_none q hn)]; exact q) fun c xs q => by rw [upd_ne (ne_of_none q hn)]; exact q
   rcases hc with z | z
   ·rw [z]; exact nit b u e
   ·exact nit c _ z
end
structure Zip2 (z TI TO i1 i2 : Addr) : Prop where
 TIz : TI ≠ z
 TOz : TO ≠ z
 i1z : i1 ≠ z
 i2z : i2 ≠ z
 TITO : TI ≠ TO
 TIi1 : TI ≠ i1
 TIi2 : TI ≠ i2
 TOi1 : TO ≠ i1
 TOi2 : TO ≠ i2
 i12 : i1 ≠ i2
section
variable {X : Cx}
end
end
section
structure Zip3 (z TI TO i1 i2 i3 : Addr) : Prop where
 TIz : TI ≠ z
 TOz : TO ≠ z
 i1z : i1 ≠ z
 i2z : i2 ≠ z
 i3z : i3 ≠ z
 TITO : TI ≠ TO
 TIi1 : TI ≠ i1
 TIi2 : TI ≠ i2
 TIi3 : TI ≠ i3
 TOi1 : TO ≠ i1
 TOi2 : TO ≠ i2
 TOi3 : TO ≠ i3
 i12 : i1 ≠ i2
 i13 : i1 ≠ i3
 i23 : i2 ≠ i3
structure Apart3 (z TO i1 i2 i3 l : Addr) : Prop where
 lz : l ≠ z
 lTO : l ≠ TO
 l1 : l ≠ i1
 l2 : l ≠ i2
 l3 : l ≠ i3
section
variable {prog : Program} {w : World} {A : Around} {E : Value -> Shared -> Prop} {s : Shared}
end
section
variable {X : Cx}
end
def Ite (K : W.Frag) (l : Addr) : It :=
 ⟨fun i H => ∃ xs x, SqL K H l xs /\ xs[i]? = some x,
  fun i H v H' => ∃ t x, v = .ref t /\ H t = none /\ H' = upd H t (.tup [.int i, x]) /\ (∀ xs, SqL K H l xs -> xs[i]? = some x),
  fun i H => ∃ xs, SqL K H l xs /\ xs.length <= i⟩
theorem turn_enum {P : Program} {w : World} {K : W.Frag} {es : List Expr} {tk : Nat} {tp : Pos} (e it l : Addr) (hne : e ≠ it) :
  Turn P w K (.Tuple es tk tp) (Ite K l) [e, it] e (fun i h => (∃ old, IsEnum h e it (i : Nat) old) /\ h.IsListIter it l i) where
 mem := by simp
 obj := fun i h st b hb => by
  obtain ⟨⟨old, he⟩, ⟨o1, e1, _, d1⟩⟩ := st
  simp only [mem_cons, not_mem_nil, or_false] at hb
  rcases hb with rfl | rfl
  ·exact ⟨_, he, fun v q => by cases q⟩
  ·exact ⟨_, e1, fun v q => by rw [d1] at q; cases q⟩
 keep := fun i h h' st k => by
  obtain ⟨⟨old, he⟩, h1⟩ := st
  exact ⟨⟨old, k e (by simp) _ he⟩, h1.at fun o q => k it (by simp) o q⟩
 item := by
  intro X hP hw hK hc i pins s σ H E I hf st hg
  subst hP hw hK
  obtain ⟨xs, x, hq1, hx⟩ := hg
  obtain ⟨its1, rv1, p1, _⟩ := I.list hq1
  obtain ⟨u1, hu1, ru1⟩ := rv1.get hx
  obtain ⟨⟨old, he⟩, h1⟩ := st
  refine wpAny_pyNext_enum_item he h1 p1.isList (x := u1) (by simpa using hu1) hne fun h' a1 a2 a3 a4 hk => ?_
  refine ⟨_, rfl, ?_⟩
  refine wpAny_letOwnedTupleGo_enum a1 fun h'' he'' hs'' => ?_
  have hzs : e < s.heap.objs.size := Heap.lt_size he
  have kk : ∀ c o, c ∉ [e, it] -> s.heap.get? c = some o -> h''.get? c = some o := fun c o hc q => by
   simp only [mem_cons, not_mem_nil, or_false, not_or] at hc
   exact hs''.extBut _ _ hc.1 (hk c o hc.1 hc.2 q)
  have hT : h''.get? s.heap.objs.size = some { cls := .type "tuple", data := .seq #[.int i s.toks, u1] } := hs''.extBut _ _ (Nat.ne_of_gt hzs) a3
  have I2 : Inv X pins σ (upd H s.heap.objs.size (.tup [.int i, x])) { s with heap := h'', toks := s.toks + 1 } :=
   I.turnedN (T := s.heap.objs.size) (o := .tup [.int i, x]) kk hf (Nat.le_refl _) ⟨by show 2 <= sizeLine; decide, [.int i s.toks, u1], .cons ⟨_, rfl⟩ (.cons ru1 .nil), ⟨_, hT, rfl, _, rfl⟩⟩
  refine ⟨.ref s.heap.objs.size, _, I2, rfl, ⟨_, x, rfl, I.fresh, rfl, fun zs hzs' => by rw [I.list_inj hzs' hq1]; exact hx⟩,
   ⟨⟨_, he''⟩, a2.extBut hs''.extBut hne.symm⟩, fun c hc' => ?_⟩
  have hlt : c < s.heap.objs.size := by
   obtain ⟨o1, e1, _⟩ := h1
   simp only [mem_cons, not_mem_nil, or_false] at hc'
   rcases hc' with rfl | rfl
   ·exact hzs
   ·exact Heap.lt_size e1
  rw [upd_ne (Nat.ne_of_lt hlt)]
  exact (hf c hc').1
 done := by
  intro X hP hw hK hc i pins s σ H E I hf st hg
  subst hP hw hK
  obtain ⟨xs, hq1, hl⟩ := hg
  obtain ⟨its1, rv1, p1, _⟩ := I.list hq1
  obtain ⟨⟨old, he⟩, h1⟩ := st
  have l1' := rv1.length
  refine wpAny_pyNext_enum_end (I.ok.hd hc) he h1 p1.isList (by simp; omega) fun h' hk => ⟨rfl, ?_⟩
  exact I.turnedL (t' := s.toks) (fun c o hc q => by
   simp only [mem_cons, not_mem_nil, or_false, not_or] at hc
   exact hk c o hc.2 q) hf
 self := fun A i s Q E st h => by
  obtain ⟨⟨old, he⟩, h1⟩ := st
  have hT : s.TypeIs (.ref e) "enumerate" := ⟨_, he, rfl⟩
  refine wpAny_pyIter_slot hT F.slot_enumerate_iter (wpAny_call_entry F.slot_enumerate_iter hT F.entry_enumerate_iter ?_ (F.args_enumerate_iter_1 _))
  show wpAny _ _ (ret (.ref e)) _ _ s
  exact wpAny_pure ⟨_, rfl, "enumerate", _, hT, F.slot_enumerate_next.lookup, h⟩
section
variable {X : Cx}
def iEnum (K : W.Frag) (ta : TA) : TI := fun σ H R => ta σ H fun vs H1 => ∃ a xs, vs = [.ref a] /\ SqL K H1 a xs /\ R (Ite K a) H1
theorem pi_enum {a : Expr} {ta : TA} {p pos : Pos} {es : List Expr} {tk : Nat} {tp : Pos} (hg : Gl X "enumerate") (hm : X.mg "enumerate" = none) (ha : PA X [a] ta) (hs : starEach [a] X.env = [(false, eval a X.env)] := by rfl) :
  PI X (.Tuple es tk tp) (.Call (.Name "enumerate" p) [a] [] pos) (iEnum X.K ta) := by
 intro pins s σ H R I h
 refine Call_ (ld_blt I hg hm boot_enumerate (PyProof.Rows.callWith_type1 (thn (ha pos pins s σ H _ I h) fun us s1 hpat => ?_) hs rfl))
 obtain ⟨vs, H1, I1, r1, q1⟩ := hpat
 obtain ⟨l, xs, e, q1, q⟩ := q1
 subst e
 cases r1 with
 | cons r rr =>
  cases rr
  cases r
  obtain ⟨its1, rv1, p1, _⟩ := I1.list q1
  refine call_enumerate_list p1.isList fun h' he hit hsz hk => ?_
  have I2 : Inv X pins σ H1 { s1 with heap := h', toks := s1.toks } := I1.kept hk
  have hT : ({ s1 with heap := h' } : Shared).TypeIs (.ref (s1.heap.objs.size + 1)) "enumerate" := ⟨_, he, rfl⟩
  refine (turn_enum (P := X.prog) (w := X.w) (K := X.K) (es := es) (tk := tk) (tp := tp) (s1.heap.objs.size + 1) s1.heap.objs.size l (Nat.ne_of_gt (Nat.lt_succ_self _))).self X.A 0 { s1 with heap := h' } _ _ ⟨⟨_, he⟩, hit⟩ ?_
  refine ⟨_, [s1.heap.objs.size + 1, s1.heap.objs.size], _, _, H1, rfl, I2, turn_enum _ _ l (Nat.ne_of_gt (Nat.lt_succ_self _)), ⟨⟨_, he⟩, hit⟩, fun b hb => ?_, q⟩
  have hb' : s1.heap.objs.size <= b := by
   simp only [mem_cons, not_mem_nil, or_false] at hb
   rcases hb with rfl | rfl
   ·exact Nat.le_succ _
   ·exact Nat.le_refl _
  exact I1.fpOk hb' (I1.hok.fresh hb')
end
end
section
def XAt (a C : Addr) (h : Heap) : Prop := ∃ o vs, h.get? a = some o /\ o.cls = .ref C /\ o.data = .fields vs
def xName (K : W.Frag) (C : Addr) : Option Str := match K.lookup C with
 | some ⟨_, _, .cls cd, _⟩ => some cd.name
 | _ => none
inductive D where
 | non | bl (b : Bool) | int (i : Int) | str (x : Str) | lst (ds : List D) | tup (ds : List D) | exc (c : Str)
 | ptr (a : Addr) | obj (c : Str) (ns : List Str) (ds : List D)
mutual
inductive Rep (K : W.Frag) (F : Hp) : V -> D -> Prop
 | non : Rep K F .non .non
 | bl (b : Bool) : Rep K F (.bl b) (.bl b)
 | int (i : Int) : Rep K F (.int i) (.int i)
 | str (x : Str) : Rep K F (.str x) (.str x)
 | lst {a : Addr} {xs : List V} {ds : List D} : SqL K F a xs -> Reps K F xs ds -> Rep K F (.ref a) (.lst ds)
 | tup {a : Addr} {xs : List V} {ds : List D} : SqT K F a xs -> Reps K F xs ds -> Rep K F (.ref a) (.tup ds)
 | exc {a C : Addr} {c : Str} : (W.nsIn K mainGlobals c = some (some (.ref C)) /\ xName K C = some c) -> F a = some (.ext (XAt a C)) -> Rep K F (.ref a) (.exc c)
 | ptr (a : Addr) : Rep K F (.ref a) (.ptr a)
 | obj {a dx C : Addr} {c : Str} {ns : List Str} {xs : List V} {ds : List D} : W.nsIn K mainGlobals c = some (some (.ref C)) -> ns.length = xs.length -> F a = some (.ins C dx (ns.zip xs)) -> F dx = some (.own a) -> Reps K F xs ds -> Rep K F (.ref a) (.obj c ns ds)
inductive Reps (K : W.Frag) (F : Hp) : List V -> List D -> Prop
 | nil : Reps K F [] []
 | cons {v : V} {d : D} {vs : List V} {ds : List D} : Rep K F v d -> Reps K F vs ds -> Reps K F (v :: vs) (d :: ds)
end
theorem Same.seqT {K : W.Frag} {H H' : Hp} {a : Addr} {xs : List V} (e : Same H H') (h : SqT K H a xs) : SqT K H' a xs := by
 rcases h with (h | ⟨o, h⟩) | h
 ·exact .inl (.inl (e _ _ h))
 ·exact .inl (.inr ⟨o, e _ _ h⟩)
 ·exact .inr h
section
variable {K : W.Frag} {F F' : Hp}
mutual
theorem Rep.mono (e : Same F F') : ∀ {v : V} {d : D}, Rep K F v d -> Rep K F' v d
 | _, _, .non => .non
 | _, _, .bl b => .bl b
 | _, _, .int i => .int i
 | _, _, .str x => .str x
 | _, _, .lst h r => .lst (e.seq h) (Reps.mono e r)
 | _, _, .tup h r => .tup (e.seqT h) (Reps.mono e r)
 | _, _, .exc h r => .exc h (e _ _ r)
 | _, _, .ptr a => .ptr a
 | _, _, .obj c l h h2 r => .obj c l (e _ _ h) (e _ _ h2) (Reps.mono e r)
theorem Reps.mono (e : Same F F') : ∀ {vs : List V} {ds : List D}, Reps K F vs ds -> Reps K F' vs ds
 | _, _, .nil => .nil
 | _, _, .cons h r => .cons (Rep.mono e h) (Reps.mono e r)
end
theorem Reps.length : ∀ {vs : List V} {ds : List D}, Reps K F vs ds -> vs.length = ds.length
 | _, _, .nil => rfl
 | _, _, .cons _ r => congrArg (· + 1) (Reps.length r)
theorem Reps.get : ∀ {vs : List V} {ds : List D} {i : Nat} {d : D}, Reps K F vs ds -> ds[i]? = some d -> ∃ v, vs[i]? = some v /\ Rep K F v d
 | _, _, _, _, .nil, e => by simp at e
 | _, _, 0, _, .cons h _, e => by simp at e; subst e; exact ⟨_, rfl, h⟩
 | _, _, i + 1, d, .cons _ r, e => by
  obtain ⟨v, h1, h2⟩ := Reps.get (i := i) (d := d) r (by simpa using e)
  exact ⟨v, by simpa using h1, h2⟩
theorem Reps.get' : ∀ {vs : List V} {ds : List D} {i : Nat} {v : V}, Reps K F vs ds -> vs[i]? = some v -> ∃ d, ds[i]? = some d /\ Rep K F v d
 | _, _, _, _, .nil, e => by simp at e
 | _, _, 0, _, .cons h _, e => by simp at e; subst e; exact ⟨_, rfl, h⟩
 | _, _, i + 1, d, .cons _ r, e => by
  obtain ⟨v, h1, h2⟩ := Reps.get' (i := i) (v := d) r (by simpa using e)
  exact ⟨v, by simpa using h1, h2⟩
theorem Reps.append : ∀ {vs ws : List V} {ds es : List D}, Reps K F vs ds -> Reps K F ws es -> Reps K F (vs ++ ws) (ds ++ es)
 | _, _, _, _, .nil, s => s
 | _, _, _, _, .cons h r, s => .cons h (Reps.append r s)
theorem Reps.take : ∀ {vs : List V} {ds : List D} (n : Nat), Reps K F vs ds -> Reps K F (vs.take n) (ds.take n)
 | _, _, 0, _ => .nil
 | _, _, _ + 1, .nil => .nil
 | _, _, n + 1, .cons h r => .cons h (Reps.take n r)
theorem Reps.drop : ∀ {vs : List V} {ds : List D} (n : Nat), Reps K F vs ds -> Reps K F (vs.drop n) (ds.drop n)
 | _, _, 0, r => r
 | _, _, _ + 1, .nil => .nil
 | _, _, n + 1, .cons _ r => Reps.drop n r
theorem Reps.set {v : V} {d : D} (h : Rep K F v d) : ∀ {vs : List V} {ds : List D} (i : Nat), Reps K F vs ds -> Reps K F (vs.set i v) (ds.set i d)
 | _, _, _, .nil => .nil
 | _, _, 0, .cons _ r => .cons h r
 | _, _, i + 1, .cons q r => .cons q (Reps.set h i r)
end
structure Ext (F H F' H' : Hp) : Prop where
 ff : Same F F'
 hh : Same H H'
 fh : Same F' H'
 new : ∀ b, F b = none -> F' b ≠ none -> H b = none
 nf : ∀ b o u, F' b = some (.frz o u) -> F b = some (.frz o u)
theorem Ext.refl {F H : Hp} (h : Same F H) : Ext F H F H := ⟨Same.refl _, Same.refl _, h, fun b e n => absurd e n, fun _ _ _ z => z⟩
theorem Ext.trans {F H F1 H1 F2 H2 : Hp} (a : Ext F H F1 H1) (b : Ext F1 H1 F2 H2) : Ext F H F2 H2 :=
 ⟨a.ff.trans b.ff, a.hh.trans b.hh, b.fh, fun c e n => by
  by_cases h : F1 c = none
  ·exact a.hh.free (b.new c h n)
  ·exact a.new c e h, fun c o u z => a.nf c o u (b.nf c o u z)⟩
theorem Same.put {F H : Hp} {p : Addr} {o : HO} (h : Same F H) (hp : F p = none) : Same F (upd H p o) := fun b u e => by
 rw [upd_ne (ne_of_none e hp)]; exact h b u e
theorem Same.put2 {F H : Hp} {p : Addr} {o : HO} (h : Same F H) : Same (upd F p o) (upd H p o) := fun b u e => by
 by_cases hb : b = p
 ·subst hb; rw [upd_same] at e ⊢; exact e
 ·rw [upd_ne hb] at e ⊢; exact h b u e
theorem Ext.laid {F H : Hp} {p : Addr} {o : HO} (h : Same F H) (hp : H p = none) (hz : ∀ a u, o ≠ .frz a u := by intro _ _ z; cases z) : Ext F H (upd F p o) (upd H p o) :=
 ⟨(Same.refl F).put (h.free hp), (Same.refl H).put hp, h.put2, fun b e n => by
  by_cases hb : b = p
  ·subst hb; exact hp
  ·rw [upd_ne hb] at n; exact absurd e n, fun b a u z => by
  by_cases hb : b = p
  ·subst hb; rw [upd_same] at z; exact absurd (Option.some.inj z) (hz a u)
  ·rw [upd_ne hb] at z; exact z⟩
theorem Ext.own {F H : Hp} {p : Addr} {o : HO} (h : Same F H) (hp : H p = none) : Ext F H F (upd H p o) :=
 ⟨Same.refl F, (Same.refl H).put hp, h.put (h.free hp), fun b e n => absurd e n, fun _ _ _ z => z⟩
theorem Ext.freeze {F H F' H' : Hp} {p : Addr} {o : HO} (a : Ext F H F' H') (hp' : F' p = none) (hp : H p = none) (ho : H' p = some o) (hz : ∀ a u, o ≠ .frz a u := by intro _ _ z; cases z) : Ext F H (upd F' p o) H' :=
 ⟨a.ff.put (a.ff.free hp'), a.hh, fun b u e => by
   by_cases hb : b = p
   ·subst hb; rw [upd_same] at e; cases e; exact ho
   ·rw [upd_ne hb] at e; exact a.fh b u e, fun b e n => by
   by_cases hb : b = p
   ·subst hb; exact hp
   ·rw [upd_ne hb] at n; exact a.new b e n, fun b c u z => by
   by_cases hb : b = p
   ·subst hb; rw [upd_same] at z; exact absurd (Option.some.inj z) (hz c u)
   ·rw [upd_ne hb] at z; exact a.nf b c u z⟩
inductive S where
 | sh (d : D) | own (ds : List D) | ob (p : Addr) (ds : List D)
abbrev Ro := List (Option S)
structure Rl (K : W.Frag) (F0 H0 F H : Hp) (σ : St) (ρ : Ro) : Prop where
 ext : Ext F0 H0 F H
 len : σ.length = ρ.length
 sh : ∀ (i : Nat) d, ρ[i]? = some (some (.sh d)) -> ∃ v, σ[i]? = some (some v) /\ Rep K F v d
 own : ∀ (i : Nat) ds, ρ[i]? = some (some (.own ds)) -> ∃ p xs, σ[i]? = some (some (.ref p)) /\ F p = none /\ H p = some (.lst xs) /\ Reps K F xs ds /\ H0 p = none
 inj : ∀ (i j : Nat) p ds es, i ≠ j -> ρ[i]? = some (some (.own ds)) -> ρ[j]? = some (some (.own es)) -> σ[i]? = some (some (.ref p)) -> σ[j]? = some (some (.ref p)) -> False
 ob : ∀ (i : Nat) p ds, ρ[i]? = some (some (.ob p ds)) -> σ[i]? = some (some (.ref p)) /\ F p = none /\ H0 p = none /\ ∃ xs, H p = some (.lst xs) /\ Reps K F xs ds
 obn : ∀ (i j : Nat) p ds es, ρ[i]? = some (some (.ob p ds)) -> ρ[j]? = some (some (.own es)) -> σ[j]? = some (some (.ref p)) -> False
 ob1 : ∀ (i j : Nat) p q ds es, ρ[i]? = some (some (.ob p ds)) -> ρ[j]? = some (some (.ob q es)) -> i = j
def nob : Option S -> Prop
 | some (.ob _ _) => False
 | _ => True
theorem set_ob {ρ : Ro} {i j : Nat} {x : Option S} {p : Addr} {ds : List D} (e : (ρ.set i x)[j]? = some (some (.ob p ds))) (hx : nob x := by exact True.intro) : i ≠ j /\ ρ[j]? = some (some (.ob p ds)) := by
 by_cases hj : i = j
 ·subst hj
  rcases Nat.lt_or_ge i ρ.length with z | z
  ·rw [getElem?_set_self z] at e; cases e; exact hx.elim
  ·rw [getElem?_eq_none (by simpa using z)] at e; cases e
 ·rw [getElem?_set_ne hj] at e; exact ⟨hj, e⟩
section
variable {K : W.Frag} {F0 H0 F H F' H' : Hp} {σ : St} {ρ : Ro}
theorem Rl.fh (r : Rl K F0 H0 F H σ ρ) : Same F H := r.ext.fh
theorem Rl.go (r : Rl K F0 H0 F H σ ρ) (e : Ext F H F' H') : Rl K F0 H0 F' H' σ ρ where
 ext := r.ext.trans e
 len := r.len
 sh := fun i d h => let ⟨v, a, b⟩ := r.sh i d h; ⟨v, a, b.mono e.ff⟩
 own := fun i ds h => by
  obtain ⟨p, xs, a, b, c, d, z⟩ := r.own i ds h
  refine ⟨p, xs, a, ?_, e.hh _ _ c, d.mono e.ff, z⟩
  cases q : F' p with
  | none => rfl
  | some o => have := e.new p b (by rw [q]; simp); rw [this] at c; cases c
 inj := r.inj
 ob := fun i p ds h => by
  obtain ⟨a, b, c, xs, d, z⟩ := r.ob i p ds h
  refine ⟨a, ?_, c, xs, e.hh _ _ d, z.mono e.ff⟩
  cases q : F' p with
  | none => rfl
  | some o => have := e.new p b (by rw [q]; simp); rw [this] at d; cases d
 obn := r.obn
 ob1 := r.ob1
theorem Rl.set (r : Rl K F0 H0 F H σ ρ) {i : Nat} {v : V} {d : D} (h : Rep K F v d) : Rl K F0 H0 F H (σ.set i (some v)) (ρ.set i (some (.sh d))) where
 ext := r.ext
 len := by simp [r.len]
 sh := fun j d' e => by
  by_cases hj : i = j
  ·subst hj
   have hl : i < ρ.length := by
    rcases Nat.lt_or_ge i ρ.length with z | z
    ·exact z
    ·rw [getElem?_eq_none (by simpa using z)] at e; cases e
   rw [getElem?_set_self hl] at e
   cases e
   exact ⟨v, by rw [getElem?_set_self (by rw [r.len]; exact hl)], h⟩
  ·rw [getElem?_set_ne hj] at e ⊢
   exact r.sh j d' e
 own := fun j ds e => by
  by_cases hj : i = j
  ·subst hj
   have hl : i < ρ.length := by
    rcases Nat.lt_or_ge i ρ.length with z | z
    ·exact z
    ·rw [getElem?_eq_none (by simpa using z)] at e; cases e
   rw [getElem?_set_self hl] at e
   cases e
  ·rw [getElem?_set_ne hj] at e ⊢
   exact r.own j ds e
 inj := fun j k p ds es hjk e1 e2 e3 e4 => by
  have n1 : i ≠ j := fun z => by
   subst z
   have hl : i < ρ.length := by
    rcases Nat.lt_or_ge i ρ.length with z | z
    ·exact z
    ·rw [getElem?_eq_none (by simpa using z)] at e1; cases e1
   rw [getElem?_set_self hl] at e1; cases e1
  have n2 : i ≠ k := fun z => by
   subst z
   have hl : i < ρ.length := by
    rcases Nat.lt_or_ge i ρ.length with z | z
    ·exact z
    ·rw [getElem?_eq_none (by simpa using z)] at e2; cases e2
   rw [getElem?_set_self hl] at e2; cases e2
  rw [getElem?_set_ne n1] at e1 e3
  rw [getElem?_set_ne n2] at e2 e4
  exact r.inj j k p ds es hjk e1 e2 e3 e4
 ob := fun j p ds e => by
  obtain ⟨n, e⟩ := set_ob e
  rw [getElem?_set_ne n]; exact r.ob j p ds e
 obn := fun j k p ds es e1 e2 e3 => by
  obtain ⟨n, e1⟩ := set_ob e1
  have n2 : i ≠ k := fun z => by
   subst z
   have hl : i < ρ.length := by
    rcases Nat.lt_or_ge i ρ.length with z | z
    ·exact z
    ·rw [getElem?_eq_none (by simpa using z)] at e2; cases e2
   rw [getElem?_set_self hl] at e2; cases e2
  rw [getElem?_set_ne n2] at e2 e3
  exact r.obn j k p ds es e1 e2 e3
 ob1 := fun j k p q ds es e1 e2 => r.ob1 j k p q ds es (set_ob e1).2 (set_ob e2).2
theorem Rl.setOwn (r : Rl K F0 H0 F H σ ρ) {i : Nat} {p : Addr} {xs : List V} {ds : List D} (hF : F p = none) (hH : H p = some (.lst xs)) (h : Reps K F xs ds) (h0 : H0 p = none)
  (fr : ∀ (j : Nat) es, i ≠ j -> ρ[j]? = some (some (.own es)) -> σ[j]? = some (some (.ref p)) -> False) (fo : ∀ (j : Nat) q es, ρ[j]? = some (some (.ob q es)) -> q ≠ p) : Rl K F0 H0 F H (σ.set i (some (.ref p))) (ρ.set i (some (.own ds))) where
 ext := r.ext
 len := by simp [r.len]
 sh := fun j d' e => by
  by_cases hj : i = j
  ·subst hj
   have hl : i < ρ.length := by
    rcases Nat.lt_or_ge i ρ.length with z | z
    ·exact z
    ·rw [getElem?_eq_none (by simpa using z)] at e; cases e
   rw [getElem?_set_self hl] at e
   cases e
  ·rw [getElem?_set_ne hj] at e ⊢
   exact r.sh j d' e
 own := fun j es e => by
  by_cases hj : i = j
  ·subst hj
   have hl : i < ρ.length := by
    rcases Nat.lt_or_ge i ρ.length with z | z
    ·exact z
    ·rw [getElem?_eq_none (by simpa using z)] at e; cases e
   rw [getElem?_set_self hl] at e
   cases e
   exact ⟨p, xs, by rw [getElem?_set_self (by rw [r.len]; exact hl)], hF, hH, h, h0⟩
  ·rw [getElem?_set_ne hj] at e ⊢
   exact r.own j es e
 inj := fun j k q es es' hjk e1 e2 e3 e4 => by
  by_cases n1 : i = j
  ·subst n1
   rw [getElem?_set_ne hjk] at e2 e4
   have hl : i < σ.length := by
    rcases Nat.lt_or_ge i σ.length with z | z
    ·exact z
    ·rw [getElem?_eq_none (by simpa using z)] at e3; cases e3
   rw [getElem?_set_self hl] at e3
   cases e3
   exact fr k es' hjk e2 e4
  ·rw [getElem?_set_ne n1] at e1 e3
   by_cases n2 : i = k
   ·subst n2
    have hl : i < σ.length := by
     rcases Nat.lt_or_ge i σ.length with z | z
     ·exact z
     ·rw [getElem?_eq_none (by simpa using z)] at e4; cases e4
    rw [getElem?_set_self hl] at e4
    cases e4
    exact fr j es n1 e1 e3
   ·rw [getElem?_set_ne n2] at e2 e4
    exact r.inj j k q es es' hjk e1 e2 e3 e4
 ob := fun j q es e => by
  obtain ⟨n, e⟩ := set_ob e
  rw [getElem?_set_ne n]; exact r.ob j q es e
 obn := fun j k q es es' e1 e2 e3 => by
  obtain ⟨n, e1⟩ := set_ob e1
  by_cases n2 : i = k
  ·subst n2
   have hl : i < σ.length := by
    rcases Nat.lt_or_ge i σ.length with z | z
    ·exact z
    ·rw [getElem?_eq_none (by simpa using z)] at e3; cases e3
   rw [getElem?_set_self hl] at e3
   cases e3
   exact fo j p es e1 rfl
  ·rw [getElem?_set_ne n2] at e2 e3
   exact r.obn j k q es es' e1 e2 e3
 ob1 := fun j k p q ds es e1 e2 => r.ob1 j k p q ds es (set_ob e1).2 (set_ob e2).2
theorem Rl.freeze (r : Rl K F0 H0 F H σ ρ) {i : Nat} {ds : List D} (h : ρ[i]? = some (some (.own ds))) : ∃ F', Rl K F0 H0 F' H σ (ρ.set i (some (.sh (.lst ds)))) /\ Same F F' := by
 obtain ⟨p, xs, a, b, c, d, z⟩ := r.own i ds h
 have hl : i < ρ.length := (List.getElem?_eq_some_iff.mp h).1
 have e : Ext F0 H0 (upd F p (.lst xs)) H := r.ext.freeze b z c
 have ff : Same F (upd F p (.lst xs)) := (Same.refl F).put b
 refine ⟨upd F p (.lst xs), ⟨e, by simp [r.len], fun j d' q => ?_, fun j es q => ?_, fun j k q es es' hjk e1 e2 e3 e4 => ?_, fun j q es e1 => ?_, fun j k q es es' e1 e2 e3 => ?_, fun j k q q' es es' e1 e2 => r.ob1 j k q q' es es' (set_ob e1).2 (set_ob e2).2⟩, ff⟩
 ·by_cases hj : i = j
  ·subst hj
   rw [getElem?_set_self hl] at q
   cases q
   exact ⟨_, a, .lst (SqL.of upd_same) (d.mono ff)⟩
  ·rw [getElem?_set_ne hj] at q
   obtain ⟨v, v1, v2⟩ := r.sh j d' q
   exact ⟨v, v1, v2.mono ff⟩
 ·by_cases hj : i = j
  ·subst hj
   rw [getElem?_set_self hl] at q
   cases q
  ·rw [getElem?_set_ne hj] at q
   obtain ⟨p', xs', a', b', c', d', z'⟩ := r.own j es q
   have hp : p' ≠ p := fun w => r.inj i j p ds es hj h q a (by rw [<- w]; exact a')
   exact ⟨p', xs', a', by rw [upd_ne hp]; exact b', c', d'.mono ff, z'⟩
 ·have n1 : i ≠ j := fun w => by subst w; rw [getElem?_set_self hl] at e1; cases e1
  have n2 : i ≠ k := fun w => by subst w; rw [getElem?_set_self hl] at e2; cases e2
  rw [getElem?_set_ne n1] at e1
  rw [getElem?_set_ne n2] at e2
  exact r.inj j k q es es' hjk e1 e2 e3 e4
 ·obtain ⟨n, e1⟩ := set_ob e1
  obtain ⟨o1, o2, o3, zs, o4, o5⟩ := r.ob j q es e1
  have hp : q ≠ p := fun w => r.obn j i q es ds e1 h (by rw [w]; exact a)
  exact ⟨o1, by rw [upd_ne hp]; exact o2, o3, zs, o4, o5.mono ff⟩
 ·obtain ⟨n, e1⟩ := set_ob e1
  have n2 : i ≠ k := fun w => by subst w; rw [getElem?_set_self hl] at e2; cases e2
  rw [getElem?_set_ne n2] at e2
  exact r.obn j k q es es' e1 e2 e3
theorem Rl.write (r : Rl K F0 H0 F H σ ρ) {i : Nat} {p : Addr} {ys : List V} {ds es : List D} (h : ρ[i]? = some (some (.own ds))) (hp : σ[i]? = some (some (.ref p))) (hy : Reps K F ys es) :
  Rl K F0 H0 F (upd H p (.lst ys)) σ (ρ.set i (some (.own es))) := by
 obtain ⟨p', xs', a, b, c, d, z⟩ := r.own i ds h
 rw [hp] at a; cases a
 have hl : i < ρ.length := (List.getElem?_eq_some_iff.mp h).1
 refine ⟨⟨r.ext.ff, r.ext.hh.put z, r.ext.fh.put b, r.ext.new, r.ext.nf⟩, by simp [r.len], fun j d' q => ?_, fun j fs q => ?_, fun j k q fs fs' hjk e1 e2 e3 e4 => ?_, fun j q fs e1 => ?_, fun j k q fs fs' e1 e2 e3 => ?_, fun j k q q' es es' e1 e2 => r.ob1 j k q q' es es' (set_ob e1).2 (set_ob e2).2⟩
 ·by_cases hj : i = j
  ·subst hj
   rw [getElem?_set_self hl] at q
   cases q
  ·rw [getElem?_set_ne hj] at q
   exact r.sh j d' q
 ·by_cases hj : i = j
  ·subst hj
   rw [getElem?_set_self hl] at q
   cases q
   exact ⟨p, ys, hp, b, upd_same, hy, z⟩
  ·rw [getElem?_set_ne hj] at q
   obtain ⟨p2, xs2, a2, b2, c2, d2, z2⟩ := r.own j fs q
   have hpp : p2 ≠ p := fun w => r.inj i j p ds fs hj h q hp (by rw [<- w]; exact a2)
   exact ⟨p2, xs2, a2, b2, by rw [upd_ne hpp]; exact c2, d2, z2⟩
 ·have back : ∀ (m : Nat) gs, (ρ.set i (some (S.own es)))[m]? = some (some (.own gs)) -> ∃ gs', ρ[m]? = some (some (.own gs')) := fun m gs e => by
   by_cases hm : i = m
   ·subst hm; exact ⟨ds, h⟩
   ·rw [getElem?_set_ne hm] at e; exact ⟨gs, e⟩
  obtain ⟨g1, e1⟩ := back j fs e1
  obtain ⟨g2, e2⟩ := back k fs' e2
  exact r.inj j k q g1 g2 hjk e1 e2 e3 e4
 ·obtain ⟨n, e1⟩ := set_ob e1
  obtain ⟨o1, o2, o3, zs, o4, o5⟩ := r.ob j q fs e1
  have hpp : q ≠ p := fun w => r.obn j i q fs ds e1 h (by rw [w]; exact hp)
  exact ⟨o1, o2, o3, zs, by rw [upd_ne hpp]; exact o4, o5⟩
 ·obtain ⟨n, e1⟩ := set_ob e1
  by_cases n2 : i = k
  ·subst n2; exact r.obn j i q fs ds e1 h e3
  ·rw [getElem?_set_ne n2] at e2
   exact r.obn j k q fs fs' e1 e2 e3
theorem Rl.writeB (r : Rl K F0 H0 F H σ ρ) {i : Nat} {p : Addr} {ys : List V} {ds es : List D} (h : ρ[i]? = some (some (.ob p ds))) (hy : Reps K F ys es) :
  Rl K F0 H0 F (upd H p (.lst ys)) σ (ρ.set i (some (.ob p es))) := by
 obtain ⟨a, b, z, xs', c, d⟩ := r.ob i p ds h
 have hl : i < ρ.length := (List.getElem?_eq_some_iff.mp h).1
 have back : ∀ (j : Nat) q fs, (ρ.set i (some (S.ob p es)))[j]? = some (some (.ob q fs)) -> j = i /\ q = p /\ fs = es := fun j q fs e => by
  by_cases hj : i = j
  ·subst hj; rw [getElem?_set_self hl] at e; cases e; exact ⟨rfl, rfl, rfl⟩
  ·rw [getElem?_set_ne hj] at e; exact absurd (r.ob1 i j p q ds fs h e) hj
 have other : ∀ (j : Nat) fs, (ρ.set i (some (S.ob p es)))[j]? = some (some (.own fs)) -> i ≠ j /\ ρ[j]? = some (some (.own fs)) := fun j fs e => by
  by_cases hj : i = j
  ·subst hj; rw [getElem?_set_self hl] at e; cases e
  ·rw [getElem?_set_ne hj] at e; exact ⟨hj, e⟩
 refine ⟨⟨r.ext.ff, r.ext.hh.put z, r.ext.fh.put b, r.ext.new, r.ext.nf⟩, by simp [r.len], fun j d' q => ?_, fun j fs q => ?_, fun j k q fs fs' hjk e1 e2 e3 e4 => r.inj j k q fs fs' hjk (other j fs e1).2 (other k fs' e2).2 e3 e4, fun j q fs e1 => ?_, fun j k q fs fs' e1 e2 e3 => ?_, fun j k q q' fs fs' e1 e2 => ?_⟩
 ·by_cases hj : i = j
  ·subst hj; rw [getElem?_set_self hl] at q; cases q
  ·rw [getElem?_set_ne hj] at q; exact r.sh j d' q
 ·obtain ⟨n, e⟩ := other j fs q
  obtain ⟨p2, xs2, a2, b2, c2, d2, z2⟩ := r.own j fs e
  have hpp : p2 ≠ p := fun w => r.obn i j p ds fs h e (by rw [<- w]; exact a2)
  exact ⟨p2, xs2, a2, b2, by rw [upd_ne hpp]; exact c2, d2, z2⟩
 ·obtain ⟨e2, e3, e4⟩ := back j q fs e1
  subst e2 e3 e4
  exact ⟨a, b, z, ys, upd_same, hy⟩
 ·obtain ⟨e4, e5, _⟩ := back j q fs e1
  subst e4 e5
  exact r.obn j k q ds fs' h (other k fs' e2).2 e3
 ·rw [(back j q fs e1).1, (back k q' fs' e2).1]
end
theorem Rep.n' {K : W.Frag} {F : Hp} {x : V} (r : Rep K F x .non) : x = .non := by cases r; rfl
theorem Rep.b' {K : W.Frag} {F : Hp} {x : V} {i : Bool} (r : Rep K F x (.bl i)) : x = .bl i := by cases r; rfl
theorem Rep.i' {K : W.Frag} {F : Hp} {x : V} {i : Int} (r : Rep K F x (.int i)) : x = .int i := by cases r; rfl
theorem Rep.s' {K : W.Frag} {F : Hp} {x : V} {i : Str} (r : Rep K F x (.str i)) : x = .str i := by cases r; rfl
theorem Rep.l' {K : W.Frag} {F : Hp} {x : V} {ds : List D} (r : Rep K F x (.lst ds)) : ∃ a xs, x = .ref a /\ SqL K F a xs /\ Reps K F xs ds := by cases r with | lst s r => exact ⟨_, _, rfl, s, r⟩
theorem Rep.t' {K : W.Frag} {F : Hp} {x : V} {ds : List D} (r : Rep K F x (.tup ds)) : ∃ a xs, x = .ref a /\ SqT K F a xs /\ Reps K F xs ds := by cases r with | tup s r => exact ⟨_, _, rfl, s, r⟩
end
section
abbrev ME := Ro -> Option D
abbrev ML := Ro -> Option (List D)
abbrev MB := Ro -> Option Bool
def TD (K : W.Frag) (m : ME) : TE := fun σ H Q => ∃ F0 H0 F ρ d, Rl K F0 H0 F H σ ρ /\ m ρ = some d /\ ∀ v F' H', Ext F H F' H' -> Rep K F' v d -> Q v H'
def TF (K : W.Frag) (m : ML) : TE := fun σ H Q => ∃ F0 H0 F ρ ds, Rl K F0 H0 F H σ ρ /\ m ρ = some ds /\ ∀ p xs F' H', Ext F H F' H' -> H p = none -> F' p = none -> H' p = some (.lst xs) -> Reps K F' xs ds -> Q (.ref p) H'
def TB (K : W.Frag) (m : ML) : TE := fun σ H Q => ∃ F0 H0 F ρ ds, Rl K F0 H0 F H σ ρ /\ m ρ = some ds /\ ∀ p xs F' H', Ext F H F' H' -> SqL K H' p xs -> Reps K F' xs ds -> Q (.ref p) H'
def TC (K : W.Frag) (c : MB) : TT := fun σ H Q => ∃ F0 H0 F ρ b, Rl K F0 H0 F H σ ρ /\ c ρ = some b /\ ∀ F' H', Ext F H F' H' -> Q b H'
def TAs (K : W.Frag) (m : ML) : TA := fun σ H Q => ∃ F0 H0 F ρ ds, Rl K F0 H0 F H σ ρ /\ m ρ = some ds /\ ∀ vs F' H', Ext F H F' H' -> Reps K F' vs ds -> Q vs H'
def PD (X : Cx) (e : Expr) (m : ME) : Prop := PE X e (TD X.K m)
def PF (X : Cx) (e : Expr) (m : ML) : Prop := PE X e (TF X.K m)
def PB (X : Cx) (e : Expr) (m : ML) : Prop := PE X e (TB X.K m)
def PC' (X : Cx) (e : Expr) (c : MB) : Prop := PT X e (TC X.K c)
def PCw (X : Cx) (e : Expr) (c : MB) : Prop := PW X e (TC X.K c)
def PAs (X : Cx) (es : List Expr) (m : ML) : Prop := PA X es (TAs X.K m)
section
variable {X : Cx} {a b c e : Expr} {ma mb : ME} {pos : Pos}
theorem PE.imp {t t' : TE} (h : PE X e t) (i : ∀ σ H Q, t' σ H Q -> t σ H Q) : PE X e t' := fun pins s σ H Q I q => h pins s σ H Q I (i σ H Q q)
theorem PT.imp {t t' : TT} (h : PT X e t) (i : ∀ σ H Q, t' σ H Q -> t σ H Q) : PT X e t' := fun pins s σ H Q I q => h pins s σ H Q I (i σ H Q q)
theorem PW.imp {t t' : TT} (h : PW X e t) (i : ∀ σ H Q, t' σ H Q -> t σ H Q) : PW X e t' := fun w pins s σ H Q I q => h w pins s σ H Q I (i σ H Q q)
theorem PA.imp {es : List Expr} {t t' : TA} (h : PA X es t) (i : ∀ σ H Q, t' σ H Q -> t σ H Q) : PA X es t' := fun pos pins s σ H Q I q => h pos pins s σ H Q I (i σ H Q q)
def mvar (i : Nat) : ME := fun ρ => match ρ[i]? with | some (some (.sh d)) => some d | _ => none
def bvar (i : Nat) : ML := fun ρ => match ρ[i]? with | some (some (.sh (.lst ds))) => some ds | some (some (.own ds)) => some ds | some (some (.ob _ ds)) => some ds | _ => none
def mc (d : D) : ME := fun _ => some d
theorem pd_var (i : Nat) {x : Str} {pos : Pos} (h : PE X (.Name x pos) (tVar i)) : PD X (.Name x pos) (mvar i) := h.imp fun σ H Q hpat => by
 obtain ⟨F0, H0, F, ρ, d, r, e, q⟩ := hpat
 unfold mvar at e
 split at e
 ·rename_i h'
  cases e
  obtain ⟨v, e1, e2⟩ := r.sh i _ h'
  exact ⟨v, e1, q v F H (.refl r.fh) e2⟩
 ·cases e
theorem pb_var (i : Nat) {x : Str} {pos : Pos} (h : PE X (.Name x pos) (tVar i)) : PB X (.Name x pos) (bvar i) := h.imp fun σ H Q hpat => by
 obtain ⟨F0, H0, F, ρ, d, r, e, q⟩ := hpat
 unfold bvar at e
 split at e
 ·rename_i ds h'
  cases e
  obtain ⟨v, e1, e2⟩ := r.sh i _ h'
  cases e2 with
  | lst s rs => exact ⟨_, e1, q _ _ F H (.refl r.fh) (r.fh.seq s) rs⟩
 ·rename_i ds h'
  cases e
  obtain ⟨p, xs, e1, e2, e3, e4, _⟩ := r.own i _ h'
  exact ⟨_, e1, q _ _ F H (.refl r.fh) (SqL.of e3) e4⟩
 ·rename_i p ds h'
  cases e
  obtain ⟨e1, e2, _, xs, e3, e4⟩ := r.ob i p _ h'
  exact ⟨_, e1, q _ _ F H (.refl r.fh) (SqL.of e3) e4⟩
 ·cases e
theorem pd_int {i : Int} {j pos} : PD X (.Constant (.int i) j pos) (mc (.int i)) := pe_int.imp fun σ H Q hpat => by
 obtain ⟨F0, H0, F, ρ, d, r, e, q⟩ := hpat
 cases e; exact q _ F H (.refl r.fh) (.int i)
theorem pd_bl {b : Bool} {j pos} : PD X (.Constant (.bool b) j pos) (mc (.bl b)) := pe_bl.imp fun σ H Q hpat => by
 obtain ⟨F0, H0, F, ρ, d, r, e, q⟩ := hpat
 cases e; exact q _ F H (.refl r.fh) (.bl b)
def mlst (m : ML) : ME := fun ρ => (m ρ).map .lst
def aslst (m : ME) : ML := fun ρ => match m ρ with | some (.lst ds) => some ds | _ => none
theorem pf_pd {m : ML} (h : PF X e m) : PD X e (mlst m) := h.imp fun σ H Q hpat => by
 obtain ⟨F0, H0, F, ρ, d, r, e, q⟩ := hpat
 unfold mlst at e
 cases hm : m ρ with
 | none => rw [hm] at e; cases e
 | some ds =>
  rw [hm] at e; cases e
  refine ⟨F0, H0, F, ρ, ds, r, hm, fun p xs F' H' x hp hF hH rs => ?_⟩
  exact q _ (upd F' p (.lst xs)) H' (x.freeze hF hp hH) (.lst (SqL.of upd_same) (rs.mono ((Same.refl F').put hF)))
theorem pd_pb (h : PD X e ma) : PB X e (aslst ma) := h.imp fun σ H Q hpat => by
 obtain ⟨F0, H0, F, ρ, d, r, e, q⟩ := hpat
 unfold aslst at e
 split at e
 ·rename_i ds hm
  cases e
  refine ⟨F0, H0, F, ρ, _, r, hm, fun v F' H' x rv => ?_⟩
  cases rv with
  | lst s rs => exact q _ _ F' H' x (x.fh.seq s) rs
 ·cases e
theorem pf_pb {m : ML} (h : PF X e m) : PB X e m := h.imp fun σ H Q ⟨F0, H0, F, ρ, d, r, e, q⟩ =>
 ⟨F0, H0, F, ρ, d, r, e, fun p xs F' H' x hp hF hH rs => q p xs F' H' x (SqL.of hH) rs⟩
@[irreducible] def m2 (f : D -> D -> Option D) (x y : ME) : ME := fun ρ => (x ρ).bind fun d => (y ρ).bind fun e => f d e
def OpD (K : W.Frag) (r : R2) (f : D -> D -> Option D) : Prop := ∀ (F H : Hp) (x y : V) (d e g : D) (Q : VK), Same F H -> Rep K F x d -> Rep K F y e -> f d e = some g -> (∀ v F' H', Ext F H F' H' -> Rep K F' v g -> Q v H') -> r x y H Q
theorem m2_some {f : D -> D -> Option D} {ρ : Ro} {g : D} (h : m2 f ma mb ρ = some g) : ∃ d e, ma ρ = some d /\ mb ρ = some e /\ f d e = some g := by
 unfold m2 at h
 cases h1 : ma ρ with
 | none => rw [h1] at h; cases h
 | some d =>
  cases h2 : mb ρ with
  | none => rw [h1, h2] at h; cases h
  | some e => rw [h1, h2] at h; exact ⟨d, e, rfl, rfl, h⟩
theorem op_d {r : R2} {f : D -> D -> Option D} (hf : OpD X.K r f) {σ : St} {H : Hp} {Q : VK} (h : TD X.K (m2 f ma mb) σ H Q) : tOp r (TD X.K ma) (TD X.K mb) σ H Q := by
 obtain ⟨F0, H0, F, ρ, g, rl, e, q⟩ := h
 obtain ⟨d, e', h1, h2, h3⟩ := m2_some e
 refine ⟨F0, H0, F, ρ, d, rl, h1, fun x F1 H1 x1 r1 => ⟨F0, H0, F1, ρ, e', rl.go x1, h2, fun y F2 H2 x2 r2 => ?_⟩⟩
 exact hf F2 H2 x y d e' g Q x2.fh (r1.mono x2.ff) r2 h3 fun v F' H' x3 => q v F' H' ((x1.trans x2).trans x3)
theorem pd_op {op : Operator} {r : R2} {f : D -> D -> Option D} (ho : OpR X (binaryOp op) r) (hf : OpD X.K r f) (ha : PD X a ma) (hb : PD X b mb) : PD X (.BinOp a op b pos) (m2 f ma mb) := (pe_op ho ha hb).imp fun _ _ _ h => op_d hf h
theorem pd_cmp {op : CmpOp} {r : R2} {f : D -> D -> Option D} (ho : OpR X (compareOp op) r) (hf : OpD X.K r f) (ha : PD X a ma) (hb : PD X b mb) (hm : behindInMarks op b = false) : PD X (.Compare a [op] [b] pos) (m2 f ma mb) := (pe_cmpR ho ha hb hm).imp fun _ _ _ h => op_d hf h
def mtest (m : ME) : MB := fun ρ => match m ρ with | some (.bl b) => some b | _ => none
theorem pc_cmp {op : CmpOp} {r : R2} {f : D -> D -> Option D} (ho : OpR X (compareOp op) r) (hf : OpD X.K r f) (ha : PD X a ma) (hb : PD X b mb) (hm : behindInMarks op b = false) : PC' X (.Compare a [op] [b] pos) (mtest (m2 f ma mb)) := (pt_cmpR ho ha hb hm).imp fun σ H Q hpat => by
 obtain ⟨F0, H0, F, ρ, g, rl, e, q⟩ := hpat
 unfold mtest at e
 split at e
 ·rename_i k hk
  cases e
  refine op_d hf ⟨F0, H0, F, ρ, .bl g, rl, hk, fun v F' H' x r => ?_⟩
  cases r
  exact ⟨_, rfl, q F' H' x⟩
 ·cases e
def int2 (g : Int -> Int -> Option D) : D -> D -> Option D
 | .int i, .int j => g i j
 | _, _ => none
theorem int2_inv {g : Int -> Int -> Option D} {d e w : D} (h : int2 g d e = some w) : ∃ i j, d = .int i /\ e = .int j /\ g i j = some w := by
 cases d with
 | int i =>
  cases e with
  | int j => exact ⟨i, j, rfl, rfl, h⟩
  | _ => cases h
 | _ => cases h
theorem opd_rI0 {K : W.Frag} {g : Int -> Int -> V} {g' : Int -> Int -> D} (hg : ∀ F i j, Rep K F (g i j) (g' i j)) : OpD K (rI0 g) (int2 fun i j => some (g' i j)) := by
 intro F H x y d e w Q s r1 r2 h q
 obtain ⟨i, j, rfl, rfl, h'⟩ := int2_inv h
 clear h
 cases h'
 exact ⟨i, j, r1.i', r2.i', q _ F H (.refl s) (hg F i j)⟩
theorem opd_rI {K : W.Frag} {C : Int -> Int -> Prop} {ok : Int -> Int -> Bool} {g : Int -> Int -> V} {g' : Int -> Int -> D} (hC : ∀ i j, ok i j = true -> C i j) (hg : ∀ F i j, Rep K F (g i j) (g' i j)) :
  OpD K (rI C g) (int2 fun i j => if ok i j = true then some (g' i j) else none) := by
 intro F H x y d e w Q s r1 r2 h q
 obtain ⟨i, j, rfl, rfl, h'⟩ := int2_inv h
 clear h
 by_cases hk : ok i j = true
 ·rw [if_pos hk] at h'
  cases h'
  exact ⟨i, j, r1.i', r2.i', hC i j hk, q _ F H (.refl s) (hg F i j)⟩
 ·rw [if_neg hk] at h'
  cases h'
def subD : D -> D -> Option D := int2 fun i j => some (.int (i - j))
def mulOk (i j : Int) : Bool := (decide (-(2 ^ 64) < i) && decide (i < 2 ^ 64)) || (decide (-(2 ^ 64) < j) && decide (j < 2 ^ 64))
def mulD : D -> D -> Option D := int2 fun i j => if mulOk i j = true then some (.int (i * j)) else none
def fdivOk (_ j : Int) : Bool := decide (0 < j) && decide (j < 1073741824)
def fdivD : D -> D -> Option D := int2 fun i j => if fdivOk i j = true then some (.int (i / j)) else none
def modOk (_ j : Int) : Bool := decide (0 < j)
def modD : D -> D -> Option D := int2 fun i j => if modOk i j = true then some (.int (i % j)) else none
def powOk (i j : Int) : Bool := decide (0 <= j) && decide (j <= 1000000) && decide (i.natAbs < 2 ^ 64)
def powD : D -> D -> Option D := int2 fun i j => if powOk i j = true then some (.int (i ^ j.toNat)) else none
def ltD : D -> D -> Option D := int2 fun i j => some (.bl (decide (i < j)))
def leD : D -> D -> Option D := int2 fun i j => some (.bl (decide (i <= j)))
def gtD : D -> D -> Option D := int2 fun i j => some (.bl (decide (j < i)))
def geD : D -> D -> Option D := int2 fun i j => some (.bl (decide (j <= i)))
theorem opd_sub {K : W.Frag} : OpD K (rI0 fun i j => .int (i - j)) subD := opd_rI0 fun F i j => .int _
theorem opd_mul {K : W.Frag} : OpD K (rI CMul fun i j => .int (i * j)) mulD := opd_rI (fun i j h => by
 unfold mulOk at h
 simp only [Bool.or_eq_true, Bool.and_eq_true, decide_eq_true_eq] at h
 exact h) fun F i j => .int _
theorem opd_fdiv {K : W.Frag} : OpD K (rI CDiv fun i j => .int (i / j)) fdivD := opd_rI (fun i j h => by
 unfold fdivOk at h
 simp only [Bool.and_eq_true, decide_eq_true_eq] at h
 exact h) fun F i j => .int _
theorem opd_mod {K : W.Frag} : OpD K (rI (fun _ j => 0 < j) fun i j => .int (i % j)) modD := opd_rI (fun i j h => of_decide_eq_true h) fun F i j => .int _
theorem opd_pow {K : W.Frag} : OpD K (rI CPow fun i j => .int (i ^ j.toNat)) powD := opd_rI (fun i j h => by
 unfold powOk at h
 simp only [Bool.and_eq_true, decide_eq_true_eq] at h
 exact ⟨h.1.1, h.1.2, h.2⟩) fun F i j => .int _
theorem opd_lt {K : W.Frag} : OpD K (rI0 fun i j => .bl (decide (i < j))) ltD := opd_rI0 fun F i j => .bl _
theorem opd_gt {K : W.Frag} : OpD K (rI0 fun i j => .bl (decide (j < i))) gtD := opd_rI0 fun F i j => .bl _
theorem opd_ge {K : W.Frag} : OpD K (rI0 fun i j => .bl (decide (j <= i))) geD := opd_rI0 fun F i j => .bl _
def eqS : D -> D -> Option Bool
 | .non, .non => some true | .non, .int _ => some false | .int _, .non => some false | .non, .bl _ => some false | .bl _, .non => some false | .non, .str _ => some false | .str _, .non => some false
 | .int i, .int j => some (i == j) | .bl i, .bl j => some (i == j) | .str i, .str j => some (i == j)
 | .int _, .str _ => some false | .str _, .int _ => some false | .bl _, .str _ => some false | .str _, .bl _ => some false
 | _, _ => none
def eqSD (d e : D) : Option D := (eqS d e).map .bl
def neSD (d e : D) : Option D := (eqS d e).map fun b => .bl (!b)
def scV : D -> V
 | .bl b => .bl b | .int i => .int i | .str x => .str x | _ => .non
theorem eqS_inv {d e : D} {k : Bool} (h : eqS d e = some k) : scal (scV d) (scV e) = true /\ decide (scV d = scV e) = k := by
 cases d with
 | non => cases e <;> cases h <;> exact ⟨rfl, rfl⟩
 | bl i =>
  cases e <;> cases h
  ·exact ⟨rfl, rfl⟩
  ·exact ⟨rfl, dec_bl⟩
  ·exact ⟨rfl, rfl⟩
 | int i =>
  cases e <;> cases h
  ·exact ⟨rfl, rfl⟩
  ·exact ⟨rfl, dec_int⟩
  ·exact ⟨rfl, rfl⟩
 | str i =>
  cases e <;> cases h
  ·exact ⟨rfl, rfl⟩
  ·exact ⟨rfl, rfl⟩
  ·exact ⟨rfl, rfl⟩
  ·exact ⟨rfl, dec_str⟩
 | _ => cases h
theorem eqS_l {d e : D} {k : Bool} (h : eqS d e = some k) {K : W.Frag} {F : Hp} {x : V} (r : Rep K F x d) : x = scV d := by
 cases d with
 | non => exact r.n'
 | bl i => exact r.b'
 | int i => exact r.i'
 | str i => exact r.s'
 | _ => cases h
theorem eqS_sym (d e : D) (k : Bool) (h : eqS d e = some k) : ∃ k', eqS e d = some k' := by
 cases d with
 | non => cases e <;> cases h <;> exact ⟨_, rfl⟩
 | bl i => cases e <;> cases h <;> exact ⟨_, rfl⟩
 | int i => cases e <;> cases h <;> exact ⟨_, rfl⟩
 | str i => cases e <;> cases h <;> exact ⟨_, rfl⟩
 | _ => cases h
theorem opd_eqS {K : W.Frag} : OpD K rEq eqSD := by
 intro F H x y d e w Q s r1 r2 h q
 unfold eqSD at h
 cases hk : eqS d e with
 | none => rw [hk] at h; cases h
 | some k =>
  rw [hk] at h
  cases h
  obtain ⟨k', hk'⟩ := eqS_sym d e k hk
  obtain ⟨h1, h2⟩ := eqS_inv hk
  rw [eqS_l hk r1, eqS_l hk' r2]
  refine ⟨h1, ?_⟩
  rw [h2]
  exact q _ F H (.refl s) (.bl _)
theorem opd_neS {K : W.Frag} : OpD K rNe neSD := by
 intro F H x y d e w Q s r1 r2 h q
 unfold neSD at h
 cases hk : eqS d e with
 | none => rw [hk] at h; cases h
 | some k =>
  rw [hk] at h
  cases h
  obtain ⟨k', hk'⟩ := eqS_sym d e k hk
  obtain ⟨h1, h2⟩ := eqS_inv hk
  rw [eqS_l hk r1, eqS_l hk' r2]
  refine ⟨h1, ?_⟩
  rw [h2]
  exact q _ F H (.refl s) (.bl _)
def m1 (f : D -> Option D) (x : ME) : ME := fun ρ => (x ρ).bind f
def negD : D -> Option D
 | .int i => some (.int (-i))
 | _ => none
theorem m1_some {f : D -> Option D} {ρ : Ro} {g : D} (h : m1 f ma ρ = some g) : ∃ d, ma ρ = some d /\ f d = some g := by
 unfold m1 at h
 cases h1 : ma ρ with
 | none => rw [h1] at h; cases h
 | some d => rw [h1] at h; exact ⟨d, rfl, h⟩
theorem pd_neg (ha : PD X a ma) : PD X (.UnaryOp .USub a pos) (m1 negD ma) := (pe_un un_neg ha).imp fun σ H Q hpat => by
 obtain ⟨F0, H0, F, ρ, g, rl, e, q⟩ := hpat
 obtain ⟨d, h1, h2⟩ := m1_some e
 refine ⟨F0, H0, F, ρ, d, rl, h1, fun x F1 H1 x1 r1 => ?_⟩
 cases r1 <;> first | (cases h2; done) | skip
 cases h2
 exact ⟨_, rfl, q _ F1 H1 x1 (.int _)⟩
def mor (x y : ME) : ME := fun ρ => match x ρ with | some (.bl true) => some (.bl true) | some (.bl false) => y ρ | _ => none
theorem pd_one {op} (h : PD X a ma) : PD X (.BoolOp op [a] pos) ma := pe_one h
theorem pd_or {rest : List Expr} (ha : PD X a ma) (hb : PD X (.BoolOp .Or (b :: rest) pos) mb) : PD X (.BoolOp .Or (a :: b :: rest) pos) (mor ma mb) := (pe_or ha hb).imp fun σ H Q hpat => by
 obtain ⟨F0, H0, F, ρ, g, rl, e, q⟩ := hpat
 unfold mor at e
 split at e
 ·rename_i h1
  cases e
  refine ⟨F0, H0, F, ρ, _, rl, h1, fun x F1 H1 x1 r1 => ?_⟩
  cases r1
  refine ⟨true, rfl, ?_⟩
  refine iteT ?_
  exact q _ F1 H1 x1 (.bl _)
 ·rename_i h1
  refine ⟨F0, H0, F, ρ, _, rl, h1, fun x F1 H1 x1 r1 => ?_⟩
  cases r1
  refine ⟨false, rfl, ?_⟩
  refine iteF ?_
  exact ⟨F0, H0, F1, ρ, g, rl.go x1, e, fun y F2 H2 x2 r2 => q y F2 H2 (x1.trans x2) r2⟩
 ·cases e
def truD : D -> Option Bool
 | .non => some false
 | .bl b => some b
 | .int i => some (i != 0)
 | .str y => if y.length <= sizeLine then some ((y.length : Int) != 0) else none
 | .lst ds => some (!ds.isEmpty)
 | .tup ds => some (!ds.isEmpty)
 | .exc _ => none
 | .ptr _ => none
 | .obj _ _ _ => none
def mtru (m : ME) : MB := fun ρ => (m ρ).bind truD
theorem isEmpty_reps {K : W.Frag} {F : Hp} {vs : List V} {ds : List D} (h : Reps K F vs ds) : (!ds.isEmpty) = !vs.isEmpty := by cases h <;> rfl
theorem pc_tru (ha : PD X a ma) (he : ∀ whole, isTrue a X.env whole = (do let v ← whole; standAt a.pos; holding [v] (truthy v)) := by intro _; rfl) : PC' X a (mtru ma) := (pt_truth ha he).imp fun σ H Q hpat => by
 obtain ⟨F0, H0, F, ρ, b, rl, e, q⟩ := hpat
 unfold mtru at e
 cases h1 : ma ρ with
 | none => rw [h1] at e; cases e
 | some d =>
  rw [h1] at e
  refine ⟨F0, H0, F, ρ, d, rl, h1, fun x F1 H1 x1 r1 => ⟨b, ?_, q F1 H1 x1⟩⟩
  cases r1 with
  | non => cases e; rfl
  | bl => cases e; rfl
  | int => cases e; rfl
  | str x =>
   have e : (if x.length <= sizeLine then some ((x.length : Int) != 0) else none) = some b := e
   split at e
   ·rename_i hz
    cases e
    exact ⟨hz, rfl⟩
   ·cases e
  | lst s rs => cases e; exact .inl ⟨_, x1.fh.seq s, isEmpty_reps rs⟩
  | tup s rs => cases e; exact .inr (.inl ⟨_, x1.fh.seqT s, isEmpty_reps rs⟩)
  | exc => cases e
  | ptr => cases e
  | obj => cases e
variable {ca cb : MB}
def cand (x y : MB) : MB := fun ρ => match x ρ with | some true => y ρ | some false => some false | none => none
def cor (x y : MB) : MB := fun ρ => match x ρ with | some true => some true | some false => y ρ | none => none
def cnot (x : MB) : MB := fun ρ => (x ρ).map (!·)
theorem pc_w (h : PCw X a ca) : PC' X a ca := h.pt
theorem pw1_and (h : PC' X a ca) : PCw X (.BoolOp .And [a] pos) ca := pw_and1 h
theorem pw1_or (h : PC' X a ca) : PCw X (.BoolOp .Or [a] pos) ca := pw_or1 h
theorem pcw_and {rest : List Expr} (ha : PC' X a ca) (hb : PCw X (.BoolOp .And (b :: rest) pos) cb) : PCw X (.BoolOp .And (a :: b :: rest) pos) (cand ca cb) := (pw_and ha hb).imp fun σ H Q hpat => by
 obtain ⟨F0, H0, F, ρ, g, rl, e, q⟩ := hpat
 unfold cand at e
 split at e
 ·rename_i h1
  refine ⟨F0, H0, F, ρ, _, rl, h1, fun F1 H1 x1 => ?_⟩
  refine iteT ?_
  exact ⟨F0, H0, F1, ρ, g, rl.go x1, e, fun F2 H2 x2 => q F2 H2 (x1.trans x2)⟩
 ·rename_i h1
  cases e
  refine ⟨F0, H0, F, ρ, _, rl, h1, fun F1 H1 x1 => ?_⟩
  refine iteF ?_
  exact q F1 H1 x1
 ·cases e
theorem pcw_or {rest : List Expr} (ha : PC' X a ca) (hb : PCw X (.BoolOp .Or (b :: rest) pos) cb) : PCw X (.BoolOp .Or (a :: b :: rest) pos) (cor ca cb) := (pw_or ha hb).imp fun σ H Q hpat => by
 obtain ⟨F0, H0, F, ρ, g, rl, e, q⟩ := hpat
 unfold cor at e
 split at e
 ·rename_i h1
  cases e
  refine ⟨F0, H0, F, ρ, _, rl, h1, fun F1 H1 x1 => ?_⟩
  refine iteT ?_
  exact q F1 H1 x1
 ·rename_i h1
  refine ⟨F0, H0, F, ρ, _, rl, h1, fun F1 H1 x1 => ?_⟩
  refine iteF ?_
  exact ⟨F0, H0, F1, ρ, g, rl.go x1, e, fun F2 H2 x2 => q F2 H2 (x1.trans x2)⟩
 ·cases e
theorem pc_not (ha : PC' X a ca) : PC' X (.UnaryOp .Not a pos) (cnot ca) := (pt_not ha).imp fun σ H Q hpat => by
 obtain ⟨F0, H0, F, ρ, g, rl, e, q⟩ := hpat
 unfold cnot at e
 cases h1 : ca ρ with
 | none => rw [h1] at e; cases e
 | some k =>
  rw [h1] at e; cases e
  exact ⟨F0, H0, F, ρ, k, rl, h1, fun F1 H1 x1 => q F1 H1 x1⟩
def mite (c : MB) (x y : ME) : ME := fun ρ => match c ρ with | some true => x ρ | some false => y ρ | none => none
theorem pd_ite (hc : PC' X c ca) (ha : PD X a ma) (hb : PD X b mb) : PD X (.IfExp c a b pos) (mite ca ma mb) := (pe_ifExp hc ha hb).imp fun σ H Q hpat => by
 obtain ⟨F0, H0, F, ρ, g, rl, e, q⟩ := hpat
 unfold mite at e
 split at e
 ·rename_i h1
  refine ⟨F0, H0, F, ρ, _, rl, h1, fun F1 H1 x1 => ?_⟩
  refine iteT ?_
  exact ⟨F0, H0, F1, ρ, g, rl.go x1, e, fun v F2 H2 x2 => q v F2 H2 (x1.trans x2)⟩
 ·rename_i h1
  refine ⟨F0, H0, F, ρ, _, rl, h1, fun F1 H1 x1 => ?_⟩
  refine iteF ?_
  exact ⟨F0, H0, F1, ρ, g, rl.go x1, e, fun v F2 H2 x2 => q v F2 H2 (x1.trans x2)⟩
 ·cases e
def anil : ML := fun _ => some []
@[irreducible] def acons (x : ME) (r : ML) : ML := fun ρ => (x ρ).bind fun d => (r ρ).bind fun ds => some (d :: ds)
theorem acons_some {r : ML} {ρ : Ro} {gs : List D} (h : acons ma r ρ = some gs) : ∃ d ds, ma ρ = some d /\ r ρ = some ds /\ gs = d :: ds := by
 unfold acons at h
 cases h1 : ma ρ with
 | none => rw [h1] at h; cases h
 | some d =>
  cases h2 : r ρ with
  | none => rw [h1, h2] at h; cases h
  | some ds => rw [h1, h2] at h; cases h; exact ⟨d, ds, rfl, rfl, rfl⟩
theorem pas_nil : PAs X [] anil := pa_nil.imp fun σ H Q hpat => by
 obtain ⟨F0, H0, F, ρ, g, rl, e, q⟩ := hpat
 cases e; exact q [] F H (.refl rl.fh) .nil
theorem pas_cons {es : List Expr} {m : ML} (ha : PD X a ma) (hr : PAs X es m) (hs : starEach (a :: es) X.env = (false, eval a X.env) :: starEach es X.env := by rfl) : PAs X (a :: es) (acons ma m) := (pa_cons ha hr hs).imp fun σ H Q hpat => by
 obtain ⟨F0, H0, F, ρ, g, rl, e, q⟩ := hpat
 obtain ⟨d, ds, h1, h2, rfl⟩ := acons_some e
 refine ⟨F0, H0, F, ρ, d, rl, h1, fun x F1 H1 x1 r1 => ⟨F0, H0, F1, ρ, ds, rl.go x1, h2, fun xs F2 H2 x2 r2 => ?_⟩⟩
 exact q _ F2 H2 (x1.trans x2) (.cons (r1.mono x2.ff) r2)
@[irreducible] def sized (m : ML) : ML := fun ρ => match m ρ with | some ds => if ds.length <= sizeLine then some ds else none | none => none
theorem sized_some {m : ML} {ρ : Ro} {gs : List D} (h : sized m ρ = some gs) : m ρ = some gs /\ gs.length <= sizeLine := by
 unfold sized at h
 cases h1 : m ρ with
 | none => rw [h1] at h; cases h
 | some ds =>
  rw [h1] at h
  have h : (if ds.length <= sizeLine then some ds else none) = some gs := h
  split at h
  ·rename_i hz; cases h; exact ⟨rfl, hz⟩
  ·cases h
theorem pf_lst {es : List Expr} {m : ML} (h : PAs X es m) : PF X (.List es pos) (sized m) := (pe_lst h).imp fun σ H Q hpat => by
 obtain ⟨F0, H0, F, ρ, g, rl, e, q⟩ := hpat
 obtain ⟨h1, h2⟩ := sized_some e
 refine ⟨F0, H0, F, ρ, g, rl, h1, fun vs F1 H1 x1 r1 => ⟨by rw [r1.length]; exact h2, fun p hp => ?_⟩⟩
 exact q p vs F1 _ (x1.trans (Ext.own x1.fh hp)) (x1.hh.free hp) (x1.fh.free hp) upd_same r1
def mtup (m : ML) : ME := fun ρ => (sized m ρ).map .tup
theorem pd_tup {es : List Expr} {m : ML} {k : Nat} (h : PAs X es m) : PD X (.Tuple es k pos) (mtup m) := (pe_tup h).imp fun σ H Q hpat => by
 obtain ⟨F0, H0, F, ρ, g, rl, e, q⟩ := hpat
 unfold mtup at e
 cases h1 : sized m ρ with
 | none => rw [h1] at e; cases e
 | some ds =>
  rw [h1] at e; cases e
  obtain ⟨h1, h2⟩ := sized_some h1
  refine ⟨F0, H0, F, ρ, ds, rl, h1, fun vs F1 H1 x1 r1 => ⟨by rw [r1.length]; exact h2, fun p hp => ?_⟩⟩
  exact q _ _ _ (x1.trans (Ext.laid x1.fh hp)) (.tup (SqT.of upd_same) (r1.mono ((Same.refl F1).put (x1.fh.free hp))))
def mlen (m : ML) : ME := fun ρ => (m ρ).map fun ds => .int ds.length
@[irreducible] def mix (m : ML) (i : ME) : ME := fun ρ => (m ρ).bind fun ds => (i ρ).bind fun | .int k => atI ds k | _ => none
theorem atI_reps {K : W.Frag} {F : Hp} {vs : List V} {ds : List D} {k : Int} {d : D} (r : Reps K F vs ds) (h : atI ds k = some d) : ∃ v, atI vs k = some v /\ Rep K F v d := by
 unfold atI at h ⊢
 rw [r.length]
 cases q : ixN ds.length k with
 | none => rw [q] at h; cases h
 | some j =>
  rw [q] at h
  exact r.get h
theorem pd_ix {ml : ML} (ha : PB X a ml) (hb : PD X b mb) (hs : PlainIx b := by exact fun _ _ => rfl) : PD X (.Subscript a b pos) (mix ml mb) := (pe_ix ix_list ha hb hs).imp fun σ H Q hpat => by
 obtain ⟨F0, H0, F, ρ, g, rl, e, q⟩ := hpat
 unfold mix at e
 cases h1 : ml ρ with
 | none => rw [h1] at e; cases e
 | some ds =>
  cases h2 : mb ρ with
  | none => rw [h1, h2] at e; cases e
  | some i =>
   rw [h1, h2] at e
   refine ⟨F0, H0, F, ρ, ds, rl, h1, fun p xs F1 H1 x1 s1 r1 => ⟨F0, H0, F1, ρ, i, rl.go x1, h2, fun y F2 H2 x2 r2 => ?_⟩⟩
   cases r2 <;> first | (cases e; done) | skip
   rename_i k
   obtain ⟨v, h3, h4⟩ := atI_reps (r1.mono x2.ff) (show atI ds k = some g from e)
   exact ⟨p, xs, k, v, rfl, rfl, x2.hh.seq s1, h3, q v F2 H2 (x1.trans x2) h4⟩
theorem cut_reps {K : W.Frag} {F : Hp} {vs : List V} {ds : List D} (r : Reps K F vs ds) (lo hi : Option Int) : Reps K F (cutV vs lo hi) ((ds.drop (HT.sIx ds.length 0 lo)).take (HT.sIx ds.length ds.length hi - HT.sIx ds.length 0 lo)) := by
 unfold cutV
 rw [r.length]
 exact (r.drop _).take _
def cutL (ds : List D) (lo hi : Option Int) : List D := (ds.drop (HT.sIx ds.length 0 lo)).take (HT.sIx ds.length ds.length hi - HT.sIx ds.length 0 lo)
abbrev MO := Ro -> Option (Option Int)
def onone : MO := fun _ => some none
def osome (m : ME) : MO := fun ρ => (m ρ).bind fun | .int i => some (some i) | _ => none
def TOs (K : W.Frag) (m : MO) : TO := fun σ H Q => ∃ F0 H0 F ρ i, Rl K F0 H0 F H σ ρ /\ m ρ = some i /\ ∀ F' H', Ext F H F' H' -> Q i H'
def POs (X : Cx) (e : Option Expr) (m : MO) : Prop := PO X e (TOs X.K m)
theorem PO.imp {e : Option Expr} {t t' : TO} (h : PO X e t) (i : ∀ σ H Q, t' σ H Q -> t σ H Q) : PO X e t' := fun pins s σ H Q I q => h pins s σ H Q I (i σ H Q q)
theorem pos_none : POs X none onone := PO.imp po_none fun σ H Q hpat => by obtain ⟨F0, H0, F, ρ, i, rl, e, q⟩ := hpat; cases e; exact q F H (.refl rl.fh)
theorem pos_some (h : PD X a ma) : POs X (some a) (osome ma) := PO.imp (po_some h) fun σ H Q hpat => by
 obtain ⟨F0, H0, F, ρ, i, rl, e, q⟩ := hpat
 unfold osome at e
 cases h1 : ma ρ with
 | none => rw [h1] at e; cases e
 | some d =>
  rw [h1] at e
  refine ⟨F0, H0, F, ρ, d, rl, h1, fun v F1 H1 x1 r1 => ?_⟩
  cases r1 <;> first | (cases e; done) | skip
  cases e
  exact ⟨_, rfl, q F1 H1 x1⟩
@[irreducible] def mcut (m : ML) (lo hi : MO) : ML := fun ρ => (m ρ).bind fun ds => (lo ρ).bind fun l => (hi ρ).bind fun h => some (cutL ds l h)
theorem pf_cut {ml : ML} {lo hi : Option Expr} {l h : MO} (ha : PB X a ml) (hl : POs X lo l) (hh : POs X hi h) (hE : PE X e (tSl (rSlL X.K) (TB X.K ml) (TOs X.K l) (TOs X.K h))) : PF X e (mcut ml l h) := hE.imp fun σ H Q hpat => by
 obtain ⟨F0, H0, F, ρ, g, rl, e, q⟩ := hpat
 unfold mcut at e
 cases h1 : ml ρ with
 | none => rw [h1] at e; cases e
 | some ds =>
  cases h2 : l ρ with
  | none => rw [h1, h2] at e; cases e
  | some i =>
   cases h3 : h ρ with
   | none => rw [h1, h2, h3] at e; cases e
   | some j =>
    rw [h1, h2, h3] at e; cases e
    refine ⟨F0, H0, F, ρ, ds, rl, h1, fun p xs F1 H1 x1 s1 r1 => ⟨F0, H0, F1, ρ, i, rl.go x1, h2, fun F2 H2 x2 => ⟨F0, H0, F2, ρ, j, (rl.go x1).go x2, h3, fun F3 H3 x3 => ?_⟩⟩⟩
    refine ⟨p, xs, rfl, x3.hh.seq (x2.hh.seq s1), fun w hw => ?_⟩
    have xx := (x1.trans x2).trans x3
    exact q w _ F3 _ (xx.trans (Ext.own x3.fh hw)) (xx.hh.free hw) (x3.fh.free hw) upd_same (cut_reps (r1.mono (x2.ff.trans x3.ff)) i j)
end
end
section
theorem list_add_any (l : Addr) (items : Array Value) (n : Nat) (b : Addr) (items2 : Array Value) (n2 : Nat) (dd dd2 : Option Addr) (sl sl2 : Array (Option Value)) (hc0 : items.size + items2.size <= sizeLine) :
  Meets (Builtin.«list.__add__» ⟨[.ref l, .ref b], []⟩) (fun _ R s => s.heap.get? l = some { cls := .type "list", dict := dd, data := .seq items n, slots := sl } /\ s.heap.get? b = some { cls := .type "list", dict := dd2, data := .seq items2 n2, slots := sl2 } /\ R (.ok (.ret (Value.ref s.heap.objs.size))) { s with heap := s.heap.push { cls := Value.type "list", data := Data.seq (items ++ items2) }, toks := s.toks }) :=
 .of_wp fun prog w A R s h => by obtain ⟨hp, g, d, tk, os⟩ := s; obtain ⟨hl, hb, h⟩ := h; have f1 := AutoSeq1.idx_int; have f2 := AutoSeq1.sub_tuple_tuple; have f3 := AutoSeq1.sub_list_list; have f4 := AutoSeq1.sub_tuple_list; have f5 := AutoSeq1.sub_list_tuple; wp_walk using AutoSeq1.wpAny_loadPart' hl, AutoSeq1.wpAny_loadPart' hb; exact ⟨_, rfl, h⟩
section
variable {X : Cx} {a b c e : Expr} {ma mb : ME} {pos : Pos}
def rCatS (K : W.Frag) : R2 := fun x y H Q => ∃ l b xs zs, x = .ref l /\ y = .ref b /\ SqL K H l xs /\ SqL K H b zs /\ xs.length + zs.length <= sizeLine /\ ∀ p, H p = none -> Q (.ref p) (upd H p (.lst (xs ++ zs)))
theorem op_catS : OpR X (binaryOp .Add) (rCatS X.K) := by
 intro pins s σ H x y v u Q I rx ry h
 obtain ⟨l, b, xs, zs, rfl, rfl, hH, hB, hz, q⟩ := h
 cases rx
 cases ry
 obtain ⟨its, r, ⟨⟨cl, dd, dt, sl⟩, n, e, hc, hd, hs⟩, z⟩ := I.list hH
 obtain ⟨its2, r2, ⟨⟨cl2, dd2, dt2, sl2⟩, n2, e2, hc2, hd2, hs2⟩, z2⟩ := I.list hB
 simp only at hc hd hs hc2 hd2 hs2
 subst hc hd hs hc2 hd2 hs2
 have l1 := r.length
 have l2 := r2.length
 refine concat_meets (T := "list") ⟨_, e, rfl⟩ ⟨_, e2, rfl⟩ PySem.noFill_list_add PySem.seq_list_add F.slot_list_add F.entry_list_add (F.args_list_add_2 _ _) (list_add_any l its.toArray n b its2.toArray n2 none none sl sl2 (by rw [size_toArray, size_toArray]; omega)) ⟨e, e2, ?_⟩
 have ea : its.toArray ++ its2.toArray = (its ++ its2).toArray := by simp
 rw [ea]
 exact ⟨.ref _, _, I.lnew (t' := s.toks) (r.append r2) (by rw [length_append]; omega), rfl, q _ I.fresh⟩
@[irreducible] def mcat (x y : ML) : ML := fun ρ => (x ρ).bind fun ds => (y ρ).bind fun es => if ds.length + es.length <= sizeLine then some (ds ++ es) else none
theorem mcat_some {x y : ML} {ρ : Ro} {gs : List D} (h : mcat x y ρ = some gs) : ∃ ds es, x ρ = some ds /\ y ρ = some es /\ ds.length + es.length <= sizeLine /\ gs = ds ++ es := by
 unfold mcat at h
 cases h1 : x ρ with
 | none => rw [h1] at h; cases h
 | some ds =>
  cases h2 : y ρ with
  | none => rw [h1, h2] at h; cases h
  | some es =>
   rw [h1, h2] at h
   have h : (if ds.length + es.length <= sizeLine then some (ds ++ es) else none) = some gs := h
   split at h
   ·rename_i hz; cases h; exact ⟨ds, es, rfl, rfl, hz, rfl⟩
   ·cases h
theorem pf_cat {x y : ML} (ha : PB X a x) (hb : PB X b y) : PF X (.BinOp a .Add b pos) (mcat x y) := (pe_op op_catS ha hb).imp fun σ H Q hpat => by
 obtain ⟨F0, H0, F, ρ, g, rl, e, q⟩ := hpat
 obtain ⟨ds, es, h1, h2, hz, rfl⟩ := mcat_some e
 refine ⟨F0, H0, F, ρ, ds, rl, h1, fun p xs F1 H1 x1 s1 r1 => ⟨F0, H0, F1, ρ, es, rl.go x1, h2, fun p2 ys F2 H2 x2 s2 r2 => ?_⟩⟩
 refine ⟨p, p2, xs, ys, rfl, rfl, x2.hh.seq s1, s2, by rw [r1.length, r2.length]; exact hz, fun w hw => ?_⟩
 have xx := x1.trans x2
 exact q w _ F2 _ (xx.trans (Ext.own x2.fh hw)) (xx.hh.free hw) (x2.fh.free hw) upd_same ((r1.mono x2.ff).append r2)
def addD : D -> D -> Option D
 | .int i, .int j => some (.int (i + j))
 | .lst ds, .lst es => if ds.length + es.length <= sizeLine then some (.lst (ds ++ es)) else none
 | _, _ => none
theorem opd_add {K : W.Frag} : OpD K (fun x y H Q => (rI0 fun i j => V.int (i + j)) x y H Q \/ rCatS K x y H Q) addD := by
 intro F H x y d e w Q s r1 r2 h q
 cases d with
 | int i =>
  cases e with
  | int j =>
   cases h
   exact .inl ⟨_, _, r1.i', r2.i', q _ F H (.refl s) (.int _)⟩
  | _ => cases h
 | lst ds1 =>
  cases e with
  | lst ds2 =>
   obtain ⟨p1, xs1, e1, s1, t1⟩ := r1.l'
   obtain ⟨p2, xs2, e2, s2, t2⟩ := r2.l'
   have h : (if ds1.length + ds2.length <= sizeLine then some (D.lst (ds1 ++ ds2)) else none) = some w := h
   by_cases hz : ds1.length + ds2.length <= sizeLine
   ·rw [if_pos hz] at h
    cases h
    refine .inr ⟨_, _, _, _, e1, e2, s.seq s1, s.seq s2, by rw [t1.length, t2.length]; exact hz, fun p hp => ?_⟩
    exact q _ _ _ (Ext.laid s hp) (.lst (SqL.of upd_same) ((t1.append t2).mono ((Same.refl F).put (s.free hp))))
   ·rw [if_neg hz] at h; cases h
  | _ => cases h
 | _ => cases h
theorem pd_add (ha : PD X a ma) (hb : PD X b mb) : PD X (.BinOp a .Add b pos) (m2 addD ma mb) := pd_op (OpR.or op_add op_catS) opd_add ha hb
theorem pd_sub (ha : PD X a ma) (hb : PD X b mb) : PD X (.BinOp a .Sub b pos) (m2 subD ma mb) := pd_op op_sub opd_sub ha hb
theorem pd_mul (ha : PD X a ma) (hb : PD X b mb) : PD X (.BinOp a .Mult b pos) (m2 mulD ma mb) := pd_op op_mul opd_mul ha hb
theorem pd_fdiv (ha : PD X a ma) (hb : PD X b mb) : PD X (.BinOp a .FloorDiv b pos) (m2 fdivD ma mb) := pd_op op_fdiv opd_fdiv ha hb
theorem pd_mod (ha : PD X a ma) (hb : PD X b mb) : PD X (.BinOp a .Mod b pos) (m2 modD ma mb) := pd_op op_mod opd_mod ha hb
theorem pd_pow (ha : PD X a ma) (hb : PD X b mb) : PD X (.BinOp a .Pow b pos) (m2 powD ma mb) := pd_op op_pow opd_pow ha hb
@[irreducible] def call1 (f : List D -> Option D) (m : ML) : ME := fun ρ => (m ρ).bind f
def CallD (K : W.Frag) (r : List V -> Hp -> VK -> Prop) (f : List D -> Option D) : Prop := ∀ (F H : Hp) (vs : List V) (ds : List D) (g : D) (Q : VK), Same F H -> Reps K F vs ds -> f ds = some g -> (∀ v F' H', Ext F H F' H' -> Rep K F' v g -> Q v H') -> r vs H Q
theorem call_d {r : List V -> Hp -> VK -> Prop} {f : List D -> Option D} {m : ML} (hf : CallD X.K r f) {σ : St} {H : Hp} {Q : VK} (h : TD X.K (call1 f m) σ H Q) : tCB r (TAs X.K m) σ H Q := by
 obtain ⟨F0, H0, F, ρ, g, rl, e, q⟩ := h
 unfold call1 at e
 cases h1 : m ρ with
 | none => rw [h1] at e; cases e
 | some ds =>
  rw [h1] at e
  exact ⟨F0, H0, F, ρ, ds, rl, h1, fun vs F1 H1 x1 r1 => hf F1 H1 vs ds g Q x1.fh r1 e fun v F' H' x2 => q v F' H' (x1.trans x2)⟩
theorem pd_lenB {e : Expr} {p : Pos} {m : ML} (hg : Gl X "len") (hm : X.mg "len" = none) (ha : PB X e m) (hs : starEach (e :: []) X.env = (false, eval e X.env) :: starEach [] X.env := by rfl) (he : starEach [e] X.env = (false, eval e X.env) :: starEach [] X.env := by rfl) (hpl : (backTo pos (starEach [] X.env)).any (·.1) = false := by rfl) : PD X (.Call (.Name "len" p) [e] [] pos) (mlen m) :=
 (pe_callB call_len_seq hg hm PySem.boot_len (pa_cons ha pa_nil hs) (by decide) (by decide) he hpl).imp fun σ H Q hpat => by
  obtain ⟨F0, H0, F, ρ, g, rl, e, q⟩ := hpat
  unfold mlen at e
  cases h1 : m ρ with
  | none => rw [h1] at e; cases e
  | some ds =>
   rw [h1] at e; cases e
   refine ⟨F0, H0, F, ρ, ds, rl, h1, fun p xs F1 H1 x1 s1 r1 => ⟨p, xs, rfl, .inl s1, ?_⟩⟩
   rw [r1.length]
   exact q _ F1 H1 x1 (.int _)
def absF : List D -> Option D
 | [.int i] => some (.int (if i < 0 then -i else i))
 | _ => none
theorem calld_abs {K : W.Frag} : CallD K (fun xs H Q => ∃ i, xs = [.int i] /\ Q (.int (if i < 0 then -i else i)) H) absF := by
 intro F H vs ds g Q s r h q
 cases r with
 | nil => cases h
 | cons r rr =>
  cases rr with
  | cons _ _ => revert h; unfold absF; intro h; split at h <;> simp_all
  | nil =>
   cases r with
   | int i => cases h; exact ⟨_, rfl, q _ F H (.refl s) (.int _)⟩
   | _ => cases h
theorem pd_abs {e : Expr} {p : Pos} {m : ML} (hg : Gl X "abs") (hm : X.mg "abs" = none) (ha : PAs X [e] m) (he : starEach [e] X.env = (false, eval e X.env) :: starEach [] X.env := by rfl) (hpl : (backTo pos (starEach [] X.env)).any (·.1) = false := by rfl) : PD X (.Call (.Name "abs" p) [e] [] pos) (call1 absF m) :=
 (pe_callB call_abs hg hm PyProof.Rows.boot_abs ha (by decide) (by decide) he hpl).imp fun _ _ _ h => call_d calld_abs h
def two2 (k : Int -> Int -> Int) : List D -> Option D
 | [.int i, .int j] => some (.int (k i j))
 | _ => none
theorem two2_inv {k : Int -> Int -> Int} {ds : List D} {g : D} (h : two2 k ds = some g) : ∃ i j, ds = [.int i, .int j] /\ g = .int (k i j) := by
 cases ds with
 | nil => cases h
 | cons d ds =>
  cases ds with
  | nil => cases d <;> cases h
  | cons e ds =>
   cases ds with
   | cons f ds => cases d <;> first | (cases h; done) | (cases e <;> cases h)
   | nil =>
    cases d with
    | int i =>
     cases e with
     | int j => cases h; exact ⟨i, j, rfl, rfl⟩
     | _ => cases h
    | _ => cases h
theorem calld_two {K : W.Frag} {k : Int -> Int -> Int} : CallD K (fun xs H Q => ∃ i j, xs = [.int i, .int j] /\ Q (.int (k i j)) H) (two2 k) := by
 intro F H vs ds g Q s r h q
 obtain ⟨i, j, rfl, rfl⟩ := two2_inv h
 cases r with
 | cons r rr =>
  cases rr with
  | cons r2 rr =>
   cases rr
   rw [r.i', r2.i']
   exact ⟨_, _, rfl, q _ F H (.refl s) (.int _)⟩
def max2F : List D -> Option D := two2 fun i j => if j > i then j else i
def min2F : List D -> Option D := two2 fun i j => if j < i then j else i
theorem pd_max2 {x y : Expr} {p : Pos} {m : ML} (hc : X.calm = true) (hg : Gl X "max") (hm : X.mg "max" = none) (ha : PAs X [x, y] m) (he : starEach [x, y] X.env = (false, eval x X.env) :: starEach [y] X.env := by rfl) (hpl : (backTo pos (starEach [y] X.env)).any (·.1) = false := by rfl) : PD X (.Call (.Name "max" p) [x, y] [] pos) (call1 max2F m) :=
 (pe_callB (call_max2 hc) hg hm PyProof.Rows.boot_max ha (by decide) (by decide) he hpl).imp fun _ _ _ h => call_d (calld_two (k := fun i j => if j > i then j else i)) h
theorem pd_min2 {x y : Expr} {p : Pos} {m : ML} (hc : X.calm = true) (hg : Gl X "min") (hm : X.mg "min" = none) (ha : PAs X [x, y] m) (he : starEach [x, y] X.env = (false, eval x X.env) :: starEach [y] X.env := by rfl) (hpl : (backTo pos (starEach [y] X.env)).any (·.1) = false := by rfl) : PD X (.Call (.Name "min" p) [x, y] [] pos) (call1 min2F m) :=
 (pe_callB (call_min2 hc) hg hm PyProof.Rows.boot_min ha (by decide) (by decide) he hpl).imp fun _ _ _ h => call_d (calld_two (k := fun i j => if j < i then j else i)) h
def intF : List D -> Option D
 | [.int i] => some (.int i)
 | [.bl k] => some (.int (if k then 1 else 0))
 | _ => none
theorem calld_int {K : W.Frag} : CallD K (fun xs H Q => (∃ i, xs = [.int i] /\ Q (.int i) H) \/ ∃ k, xs = [.bl k] /\ Q (.int (if k then 1 else 0)) H) intF := by
 intro F H vs ds g Q s r h q
 cases r with
 | nil => cases h
 | cons r rr =>
  cases rr with
  | cons _ _ => revert h; unfold intF; intro h; split at h <;> simp_all
  | nil =>
   cases r with
   | int i => cases h; exact .inl ⟨_, rfl, q _ F H (.refl s) (.int _)⟩
   | bl i => cases h; exact .inr ⟨_, rfl, q _ F H (.refl s) (.int _)⟩
   | _ => cases h
theorem pd_intc {e : Expr} {p : Pos} {m : ML} (hg : Gl X "int") (hm : X.mg "int" = none) (ha : PAs X [e] m) (hv : bootBuiltins "int" = some (.type "int")) (he : starEach [e] X.env = (false, eval e X.env) :: starEach [] X.env := by rfl) (hpl : (backTo pos (starEach [] X.env)).any (·.1) = false := by rfl) : PD X (.Call (.Name "int" p) [e] [] pos) (call1 intF m) :=
 (pe_callTy call_int1 hg hm hv ha (by decide) (by decide) he hpl).imp fun _ _ _ h => call_d calld_int h
theorem pf_list {e : Expr} {p : Pos} {m : ML} (hg : Gl X "list") (hm : X.mg "list" = none) (ha : PB X e m) (hv : bootBuiltins "list" = some (.type "list")) (hs : starEach (e :: []) X.env = (false, eval e X.env) :: starEach [] X.env := by rfl) (hpl : (backTo pos (starEach [] X.env)).any (·.1) = false := by rfl) : PF X (.Call (.Name "list" p) [e] [] pos) m :=
 (pe_callTy call_list_of hg hm hv (pa_cons ha pa_nil hs) (by decide) (by decide) hs hpl).imp fun σ H Q hpat => by
  obtain ⟨F0, H0, F, ρ, ds, rl, e, q⟩ := hpat
  refine ⟨F0, H0, F, ρ, ds, rl, e, fun p xs F1 H1 x1 s1 r1 => ⟨p, xs, rfl, .inl s1, fun w hw => ?_⟩⟩
  exact q w _ F1 _ (x1.trans (Ext.own x1.fh hw)) (x1.hh.free hw) (x1.fh.free hw) upd_same r1
end
end
section
inductive Out where
 | nx (ρ : Ro) | bk (ρ : Ro) | ct (ρ : Ro) | rt (d : D) | rf (ds : List D) | rp (d : D) (ds : List D) | rg (d : D) (p : Addr) (r : List D) | rgf (ds : List D) (p : Addr) (r : List D)
abbrev MS := Ro -> Option Out
def okO (K : W.Frag) (F0 H0 Fb : Hp) (Dn : Ends) : Out -> Prop
 | .nx ρ => ∀ F H σ, Rl K F0 H0 F H σ ρ -> Same Fb F -> Dn.nx σ H
 | .bk ρ => ∀ F H σ, Rl K F0 H0 F H σ ρ -> Same Fb F -> Dn.bk σ H
 | .ct ρ => ∀ F H σ, Rl K F0 H0 F H σ ρ -> Same Fb F -> Dn.ct σ H
 | .rt d => ∀ v F H, Ext F0 H0 F H -> Rep K F v d -> Dn.rt v H
 | .rf ds => ∀ p xs F H, Ext F0 H0 F H -> H0 p = none -> F p = none -> H p = some (.lst xs) -> Reps K F xs ds -> Dn.rt (.ref p) H
 | .rp d ds => ∀ t v p xs F H, Ext F0 H0 F H -> H0 t = none -> H0 p = none -> t ≠ p -> F t = none -> F p = none -> H t = some (.tup [v, .ref p]) -> H p = some (.lst xs) -> Rep K F v d -> Reps K F xs ds -> Dn.rt (.ref t) H
 | .rg d p r => ∀ v F H xs, Ext F0 H0 F H -> Rep K F v d -> F p = none -> H p = some (.lst xs) -> Reps K F xs r -> Dn.rt v H
 | .rgf ds p r => ∀ q ys F H xs, Ext F0 H0 F H -> H0 q = none -> F q = none -> q ≠ p -> H q = some (.lst ys) -> Reps K F ys ds -> F p = none -> H p = some (.lst xs) -> Reps K F xs r -> Dn.rt (.ref q) H
def TSd (K : W.Frag) (m : MS) : TS := fun Dn σ H => ∃ F0 H0 F ρ o, Rl K F0 H0 F H σ ρ /\ m ρ = some o /\ okO K F0 H0 F Dn o
theorem okO.mono {K : W.Frag} {F0 H0 Fb Fb' : Hp} {Dn : Ends} (s : Same Fb Fb') : ∀ {o : Out}, okO K F0 H0 Fb Dn o -> okO K F0 H0 Fb' Dn o
 | .nx _, h => fun F H σ rl q => h F H σ rl (s.trans q)
 | .bk _, h => fun F H σ rl q => h F H σ rl (s.trans q)
 | .ct _, h => fun F H σ rl q => h F H σ rl (s.trans q)
 | .rt _, h => h
 | .rf _, h => h
 | .rp _ _, h => h
 | .rg _ _ _, h => h
 | .rgf _ _ _, h => h
def PSd (X : Cx) (st : Stmt) (m : MS) : Prop := PS X st (TSd X.K m)
def PSsd (X : Cx) (st : List Stmt) (m : MS) : Prop := PSs X st (TSd X.K m)
section
variable {X : Cx} {a b c e : Expr} {ma mb : ME} {pos : Pos} {st : Stmt} {rest : List Stmt} {m1 m2' : MS}
theorem PS.imp {t t' : TS} (h : PS X st t) (i : ∀ D σ H, t' D σ H -> t D σ H) : PS X st t' := fun pins s σ H D I q => h pins s σ H D I (i D σ H q)
theorem PSs.imp {sts : List Stmt} {t t' : TS} (h : PSs X sts t) (i : ∀ D σ H, t' D σ H -> t D σ H) : PSs X sts t' := fun pins s σ H D I q => h pins s σ H D I (i D σ H q)
def mnext : MS := fun ρ => some (.nx ρ)
def mseq (x y : MS) : MS := fun ρ => match x ρ with | some (.nx ρ') => y ρ' | o => o
theorem pssd_nil : PSsd X [] mnext := pss_nil.imp fun D σ H hpat => by obtain ⟨F0, H0, F, ρ, o, rl, e, ok⟩ := hpat; cases e; exact ok F H σ rl (Same.refl _)
theorem pssd_cons (h1 : PSd X st m1) (h2 : PSsd X rest m2') : PSsd X (st :: rest) (mseq m1 m2') := (pss_cons h1 h2).imp fun D σ H hpat => by
 obtain ⟨F0, H0, F, ρ, o, rl, e, ok⟩ := hpat
 unfold mseq at e
 cases h : m1 ρ with
 | none => rw [h] at e; cases e
 | some o1 =>
  rw [h] at e
  cases o1 with
  | nx ρ1 => exact ⟨F0, H0, F, ρ, _, rl, h, fun F' H' σ' rl' sf => ⟨F0, H0, F', ρ1, o, rl', e, ok.mono sf⟩⟩
  | bk ρ1 => cases e; exact ⟨F0, H0, F, ρ, _, rl, h, ok⟩
  | ct ρ1 => cases e; exact ⟨F0, H0, F, ρ, _, rl, h, ok⟩
  | rt d => cases e; exact ⟨F0, H0, F, ρ, _, rl, h, ok⟩
  | rf d => cases e; exact ⟨F0, H0, F, ρ, _, rl, h, ok⟩
  | rp d ds => cases e; exact ⟨F0, H0, F, ρ, _, rl, h, ok⟩
  | rg d p r => cases e; exact ⟨F0, H0, F, ρ, _, rl, h, ok⟩
  | rgf d p r => cases e; exact ⟨F0, H0, F, ρ, _, rl, h, ok⟩
theorem pssd_one (h1 : PSd X st m1) : PSsd X [st] m1 := pss_one h1
def mif (c : MB) (x y : MS) : MS := fun ρ => match c ρ with | some true => x ρ | some false => y ρ | none => none
theorem psd_if {ca : MB} {x y : List Stmt} {mx my : MS} (hc : PC' X c ca) (hx : PSsd X x mx) (hy : PSsd X y my) : PSd X (.If c x y pos) (mif ca mx my) := (ps_if hc hx hy).imp fun D σ H hpat => by
 obtain ⟨F0, H0, F, ρ, o, rl, e, ok⟩ := hpat
 unfold mif at e
 split at e
 ·rename_i h1
  refine ⟨F0, H0, F, ρ, _, rl, h1, fun F1 H1 x1 => iteT ⟨F0, H0, F1, ρ, o, rl.go x1, e, ok.mono x1.ff⟩⟩
 ·rename_i h1
  refine ⟨F0, H0, F, ρ, _, rl, h1, fun F1 H1 x1 => iteF ⟨F0, H0, F1, ρ, o, rl.go x1, e, ok.mono x1.ff⟩⟩
 ·cases e
def mnever : MS := fun _ => none
theorem psd_never : PSd X st mnever := ps_never.imp fun D σ H hpat => by obtain ⟨F0, H0, F, ρ, o, rl, e, ok⟩ := hpat; cases e
def mset (i : Nat) (x : ME) : MS := fun ρ => (x ρ).map fun d => .nx (ρ.set i (some (.sh d)))
def msetF (i : Nat) (x : ML) : MS := fun ρ => (x ρ).map fun ds => .nx (ρ.set i (some (.own ds)))
theorem asg_d {t : TE} {i : Nat} (h : PS X st (tAsg t (gName i))) (ht : ∀ σ H Q, TD X.K ma σ H Q -> t σ H Q) : PSd X st (mset i ma) := h.imp fun D σ H hpat => by
 obtain ⟨F0, H0, F, ρ, o, rl, e, ok⟩ := hpat
 unfold mset at e
 cases h1 : ma ρ with
 | none => rw [h1] at e; cases e
 | some d =>
  rw [h1] at e; cases e
  exact ht _ _ _ ⟨F0, H0, F, ρ, d, rl, h1, fun v F1 H1 x1 r1 => ok F1 H1 _ ((rl.go x1).set r1) x1.ff⟩
theorem asg_f {t : TE} {i : Nat} {mf : ML} (h : PS X st (tAsg t (gName i))) (ht : ∀ σ H Q, TF X.K mf σ H Q -> t σ H Q) : PSd X st (msetF i mf) := h.imp fun D σ H hpat => by
 obtain ⟨F0, H0, F, ρ, o, rl, e, ok⟩ := hpat
 unfold msetF at e
 cases h1 : mf ρ with
 | none => rw [h1] at e; cases e
 | some ds =>
  rw [h1] at e; cases e
  refine ht _ _ _ ⟨F0, H0, F, ρ, ds, rl, h1, fun p xs F1 H1 x1 hp hF hH r1 => ok F1 H1 _ ?_ x1.ff⟩
  refine (rl.go x1).setOwn hF hH r1 (rl.ext.hh.free hp) (fun j es hj e1 e2 => ?_) fun j q es e1 z => ?_
  ·obtain ⟨q, ys, a1, a2, a3, _⟩ := rl.own j es e1
   rw [a1] at e2; cases e2
   rw [hp] at a3; cases a3
  ·obtain ⟨_, _, _, ys, a3, _⟩ := rl.ob j q es e1
   rw [z, hp] at a3; cases a3
theorem psd_set {i : Nat} {x : Str} {pos' : Pos} (hN : X.N.Nodup) (hi : X.N[i]? = some x) (hx : Loc X.env.scope x) (he : PD X e ma) (hs : swapsWith e (some (.Name x pos')) pos.line X.env = pure false := by rfl) (hf : X.fn x = true \/ X.env.scope.names.lookup x = some .local := by first | exact .inl rfl | exact .inr rfl | assumption) :
  PSd X (.Assign [.Name x pos'] e pos) (mset i ma) := asg_d (ps_set hN hi hx he hs hf) fun _ _ _ h => h
theorem psd_setF {i : Nat} {x : Str} {pos' : Pos} {mf : ML} (hN : X.N.Nodup) (hi : X.N[i]? = some x) (hx : Loc X.env.scope x) (he : PF X e mf) (hs : swapsWith e (some (.Name x pos')) pos.line X.env = pure false := by rfl) (hf : X.fn x = true \/ X.env.scope.names.lookup x = some .local := by first | exact .inl rfl | exact .inr rfl | assumption) :
  PSd X (.Assign [.Name x pos'] e pos) (msetF i mf) := asg_f (ps_set hN hi hx he hs hf) fun _ _ _ h => h
def mexpr (x : ME) : MS := fun ρ => (x ρ).map fun _ => .nx ρ
theorem psd_expr (he : PD X e ma) (hs : swapsWith e none pos.line X.env = pure false := by rfl) : PSd X (.Expr e pos) (mexpr ma) := (ps_expr he hs).imp fun D σ H hpat => by
 obtain ⟨F0, H0, F, ρ, o, rl, e, ok⟩ := hpat
 unfold mexpr at e
 cases h1 : ma ρ with
 | none => rw [h1] at e; cases e
 | some d =>
  rw [h1] at e; cases e
  exact ⟨F0, H0, F, ρ, d, rl, h1, fun v F1 H1 x1 r1 => ok F1 H1 _ (rl.go x1) x1.ff⟩
def mret (x : ME) : MS := fun ρ => (x ρ).map .rt
def mretF (x : ML) : MS := fun ρ => (x ρ).map .rf
def mretO (i : Nat) : MS := fun ρ => match ρ[i]? with | some (some (.own ds)) => some (.rf ds) | some (some (.sh d)) => some (.rt d) | _ => none
theorem psd_ret (he : PD X e ma) : PSd X (.Return (some e) pos) (mret ma) := (ps_ret he).imp fun D σ H hpat => by
 obtain ⟨F0, H0, F, ρ, o, rl, e, ok⟩ := hpat
 unfold mret at e
 cases h1 : ma ρ with
 | none => rw [h1] at e; cases e
 | some d =>
  rw [h1] at e; cases e
  exact ⟨F0, H0, F, ρ, d, rl, h1, fun v F1 H1 x1 r1 => ok v F1 H1 (rl.ext.trans x1) r1⟩
theorem psd_retF {mf : ML} (he : PF X e mf) : PSd X (.Return (some e) pos) (mretF mf) := (ps_ret he).imp fun D σ H hpat => by
 obtain ⟨F0, H0, F, ρ, o, rl, e, ok⟩ := hpat
 unfold mretF at e
 cases h1 : mf ρ with
 | none => rw [h1] at e; cases e
 | some ds =>
  rw [h1] at e; cases e
  exact ⟨F0, H0, F, ρ, ds, rl, h1, fun p xs F1 H1 x1 hp hF hH r1 => ok p xs F1 H1 (rl.ext.trans x1) (rl.ext.hh.free hp) hF hH r1⟩
theorem psd_retO (i : Nat) {x : Str} {pos' : Pos} (h : PE X (.Name x pos') (tVar i)) : PSd X (.Return (some (.Name x pos')) pos) (mretO i) := (ps_ret h).imp fun D σ H hpat => by
 obtain ⟨F0, H0, F, ρ, o, rl, e, ok⟩ := hpat
 unfold mretO at e
 split at e
 ·rename_i ds h1
  cases e
  obtain ⟨p, xs, e1, e2, e3, e4, e5⟩ := rl.own i _ h1
  exact ⟨_, e1, ok p xs F H rl.ext e5 e2 e3 e4⟩
 ·rename_i d h1
  cases e
  obtain ⟨v, e1, e2⟩ := rl.sh i _ h1
  exact ⟨_, e1, ok v F H rl.ext e2⟩
 ·cases e
def mapp (i : Nat) (x : ME) : MS := fun ρ => match ρ[i]? with | some (some (.own ds)) => (x ρ).bind fun d => if ds.length < sizeLine then some (.nx (ρ.set i (some (.own (ds ++ [d]))))) else none | _ => none
theorem psd_append {i : Nat} {x : Str} {e : Expr} {px apos cpos : Pos} (hv : PE X (.Name x px) (tVar i)) (he : PD X e ma)
  (hE : ∀ t, PA X [e] t -> PE X (.Call (.Attribute (.Name x px) "append" apos) [e] [] cpos) (tBM X.K "list" rAppend (tVar i) t)) (hA : PAs X [e] (acons ma anil)) (hs : swapsWith (.Call (.Attribute (.Name x px) "append" apos) [e] [] cpos) none pos.line X.env = pure false := by rfl) :
  PSd X (.Expr (.Call (.Attribute (.Name x px) "append" apos) [e] [] cpos) pos) (mapp i ma) := (ps_expr (hE _ hA) hs).imp fun D σ H hpat => by
 obtain ⟨F0, H0, F, ρ, o, rl, e, ok⟩ := hpat
 unfold mapp at e
 split at e
 ·rename_i ds h1
  obtain ⟨p, xs, e1, e2, e3, e4, e5⟩ := rl.own i _ h1
  cases h2 : ma ρ with
  | none => rw [h2] at e; cases e
  | some d =>
   rw [h2] at e
   have e : (if ds.length < sizeLine then some (Out.nx (ρ.set i (some (.own (ds ++ [d]))))) else none) = some o := e
   split at e
   ·rename_i hz
    cases e
    refine ⟨_, e1, .inl ⟨rfl, _, SqL.of e3⟩, F0, H0, F, ρ, [d], rl, by unfold acons anil; rw [h2]; rfl, fun vs F1 H1 x1 r1 => ?_⟩
    cases r1 with
    | cons r rr =>
     cases rr
     have hp : H1 p = some (.lst xs) := x1.hh _ _ e3
     exact ⟨p, xs, _, rfl, rfl, hp, by rw [e4.length]; exact hz, ok F1 _ σ ((rl.go x1).write h1 e1 ((e4.mono x1.ff).append (.cons r .nil))) x1.ff⟩
   ·cases e
 ·cases e
def msetix (i : Nat) (ix v : ME) : MS := fun ρ => (v ρ).bind fun d => match ρ[i]? with
 | some (some (.own ds)) => (ix ρ).bind (fun x => match x with | .int k => (ixN ds.length k).map fun j => .nx (ρ.set i (some (.own (ds.set j d)))) | _ => none)
 | some (some (.ob p ds)) => (ix ρ).bind (fun x => match x with | .int k => (ixN ds.length k).map fun j => .nx (ρ.set i (some (.ob p (ds.set j d)))) | _ => none)
 | _ => none
theorem psd_setix {i : Nat} (hE : PS X st (tAsg (TD X.K mb) (gSub (tVar i) (TD X.K ma) rSetL))) : PSd X st (msetix i ma mb) := hE.imp fun D σ H hpat => by
 obtain ⟨F0, H0, F, ρ, o, rl, e, ok⟩ := hpat
 unfold msetix at e
 cases h1 : mb ρ with
 | none => rw [h1] at e; cases e
 | some d =>
  rw [h1] at e
  refine ⟨F0, H0, F, ρ, d, rl, h1, fun y F1 H1 x1 r1 => ?_⟩
  dsimp only [Option.bind] at e
  split at e
  ·rename_i ds h2
   obtain ⟨p, xs, e1, e2, e3, e4, e5⟩ := (rl.go x1).own i _ h2
   cases h3 : ma ρ with
   | none => rw [h3] at e; cases e
   | some k' =>
    rw [h3] at e
    refine ⟨_, e1, F0, H0, F1, ρ, k', rl.go x1, h3, fun z F2 H2 x2 r2 => ?_⟩
    cases r2 <;> first | (cases e; done) | skip
    rename_i k
    have e : (ixN ds.length k).map (fun j => Out.nx (ρ.set i (some (.own (ds.set j d))))) = some o := e
    cases h4 : ixN ds.length k with
    | none => rw [h4] at e; cases e
    | some j =>
     rw [h4] at e; cases e
     have rl2 := (rl.go x1).go x2
     refine ⟨p, xs, k, j, rfl, rfl, x2.hh _ _ e3, by rw [e4.length]; exact h4, ok F2 _ σ (rl2.write h2 e1 (Reps.set (r1.mono x2.ff) j (e4.mono x2.ff))) (x1.ff.trans x2.ff)⟩
  ·rename_i p ds h2
   obtain ⟨e1, e2, e5, xs, e3, e4⟩ := (rl.go x1).ob i p _ h2
   cases h3 : ma ρ with
   | none => rw [h3] at e; cases e
   | some k' =>
    rw [h3] at e
    refine ⟨_, e1, F0, H0, F1, ρ, k', rl.go x1, h3, fun z F2 H2 x2 r2 => ?_⟩
    cases r2 <;> first | (cases e; done) | skip
    rename_i k
    have e : (ixN ds.length k).map (fun j => Out.nx (ρ.set i (some (.ob p (ds.set j d))))) = some o := e
    cases h4 : ixN ds.length k with
    | none => rw [h4] at e; cases e
    | some j =>
     rw [h4] at e; cases e
     have rl2 := (rl.go x1).go x2
     refine ⟨p, xs, k, j, rfl, rfl, x2.hh _ _ e3, by rw [e4.length]; exact h4, ok F2 _ σ (rl2.writeB h2 (Reps.set (r1.mono x2.ff) j (e4.mono x2.ff))) (x1.ff.trans x2.ff)⟩
  ·cases e
inductive Tg where
 | nm (i : Nat) | tp (is : List Nat) | nt (i : Nat) (is : List Nat)
def setAll : List Nat -> List D -> Ro -> Option Ro
 | [], [], ρ => some ρ
 | i :: is, d :: ds, ρ => setAll is ds (ρ.set i (some (.sh d)))
 | _, _, _ => none
def tgD : Tg -> D -> Ro -> Option Ro
 | .nm i, d, ρ => some (ρ.set i (some (.sh d)))
 | .tp is, .tup ds, ρ => setAll is ds ρ
 | .nt i is, .tup [d, .tup ds], ρ => setAll is ds (ρ.set i (some (.sh d)))
 | _, _, _ => none
def TGd (K : W.Frag) (g : Tg) : TG := fun v σ H Q => ∃ F0 H0 F ρ d ρ', Rl K F0 H0 F H σ ρ /\ Rep K F v d /\ tgD g d ρ = some ρ' /\ ∀ F' H' σ', Rl K F0 H0 F' H' σ' ρ' -> Ext F H F' H' -> Q σ' H'
def PGd (X : Cx) (tg : Expr) (g : Tg) : Prop := PG X tg (TGd X.K g)
theorem PG.imp {tg : Expr} {t t' : TG} (h : PG X tg t) (i : ∀ v σ H Q, t' v σ H Q -> t v σ H Q) : PG X tg t' := fun pins s σ H v u Q I r q => h pins s σ H v u Q I r (i v σ H Q q)
theorem pgd_name {i : Nat} {x : Str} {pos : Pos} (h : PG X (.Name x pos) (gName i)) : PGd X (.Name x pos) (.nm i) := PG.imp h fun v σ H Q hpat => by
 obtain ⟨F0, H0, F, ρ, d, ρ', rl, r, e, q⟩ := hpat
 cases e; exact q F H _ (rl.set r) (.refl rl.fh)
def gAll : List Nat -> TGs
 | [] => gNil
 | i :: is => gCons (gName i) (gAll is)
theorem gAll_ok {K : W.Frag} {F0 H0 F H : Hp} {Q : St -> Hp -> Prop} : ∀ (is : List Nat) (vs : List V) (ds : List D) (σ : St) (ρ ρ' : Ro), Rl K F0 H0 F H σ ρ -> Reps K F vs ds -> setAll is ds ρ = some ρ' -> (∀ σ', Rl K F0 H0 F H σ' ρ' -> Q σ' H) -> gAll is vs σ H Q
 | [], _, [], σ, ρ, ρ', rl, r, e, q => by cases r; cases e; exact ⟨rfl, q σ rl⟩
 | [], _, _ :: _, _, _, _, _, _, e, _ => by cases e
 | _ :: _, _, [], _, _, _, _, _, e, _ => by cases e
 | i :: is, _, d :: ds, σ, ρ, ρ', rl, r, e, q => by
  cases r with
  | cons r rr => exact ⟨_, _, rfl, gAll_ok is _ ds _ _ ρ' (rl.set r) rr e q⟩
theorem setAll_len : ∀ (is : List Nat) (ds : List D) (ρ ρ' : Ro), setAll is ds ρ = some ρ' -> ds.length = is.length
 | [], [], _, _, _ => rfl
 | [], _ :: _, _, _, e => by cases e
 | _ :: _, [], _, _, e => by cases e
 | _ :: is, _ :: ds, ρ, ρ', e => congrArg (· + 1) (setAll_len is ds _ ρ' e)
theorem pgd_tup {es : List Expr} {k n : Nat} {is : List Nat} {pos : Pos} (h : PG X (.Tuple es k pos) (gTup X.K n (gAll is))) (hn : is.length = n := by rfl) : PGd X (.Tuple es k pos) (.tp is) := PG.imp h fun v σ H Q hpat => by
 obtain ⟨F0, H0, F, ρ, d, ρ', rl, r, e, q⟩ := hpat
 cases r with
 | tup s t => exact ⟨_, _, rfl, rl.fh.seqT s, by rw [t.length, setAll_len _ _ _ _ e, hn], gAll_ok is _ _ σ ρ ρ' rl t e fun σ' rl' => q F H σ' rl' (.refl rl.fh)⟩
 | _ => cases e
def masg (g : Tg) (x : ME) : MS := fun ρ => (x ρ).bind fun d => (tgD g d ρ).map .nx
theorem psd_asg {g : Tg} (h : PS X st (tAsg (TD X.K ma) (TGd X.K g))) : PSd X st (masg g ma) := h.imp fun D σ H hpat => by
 obtain ⟨F0, H0, F, ρ, o, rl, e, ok⟩ := hpat
 unfold masg at e
 cases h1 : ma ρ with
 | none => rw [h1] at e; cases e
 | some d =>
  rw [h1] at e
  have e : (tgD g d ρ).map Out.nx = some o := e
  cases h2 : tgD g d ρ with
  | none => rw [h2] at e; cases e
  | some ρ' =>
   rw [h2] at e; cases e
   exact ⟨F0, H0, F, ρ, d, rl, h1, fun v F1 H1 x1 r1 => ⟨F0, H0, F1, ρ, d, ρ', rl.go x1, r1, h2, fun F' H' σ' rl' x2 => ok F' H' σ' rl' (x1.ff.trans x2.ff)⟩⟩
structure ItD (K : W.Frag) (F : Hp) (J : It) (its : List D) : Prop where
 go : ∀ (i : Nat) F1 H1, Same F F1 -> Same F1 H1 -> i < its.length -> J.go i H1
 yld : ∀ (i : Nat) F1 H1 x H2 d, Same F F1 -> Same F1 H1 -> its[i]? = some d -> J.yld i H1 x H2 -> ∃ F2, Ext F1 H1 F2 H2 /\ Rep K F2 x d
 stop : ∀ F1 H1, Same F F1 -> Same F1 H1 -> J.stop its.length H1
def TId (K : W.Frag) (mi : ML) : TI := fun σ H R => ∃ F0 H0 F ρ its, Rl K F0 H0 F H σ ρ /\ mi ρ = some its /\ ∀ J F' H', Ext F H F' H' -> ItD K F' J its -> R J H'
def PId (X : Cx) (tg iter : Expr) (mi : ML) : Prop := PI X tg iter (TId X.K mi)
theorem PI.imp {tg it : Expr} {t t' : TI} (h : PI X tg it t) (i : ∀ σ H R, t' σ H R -> t σ H R) : PI X tg it t' := fun pins s σ H R I q => h pins s σ H R I (i σ H R q)
theorem itd_list {K : W.Frag} {F : Hp} {p : Addr} {xs : List V} {ds : List D} (s : SqL K F p xs) (r : Reps K F xs ds) : ItD K F (Itl K p) ds where
 go := fun i F1 H1 a b hi => by
  obtain ⟨v, e, _⟩ := r.get (getElem?_eq_getElem hi)
  exact ⟨xs, v, b.seq (a.seq s), e⟩
 yld := fun i F1 H1 x H2 d a b e y => by
  obtain ⟨rfl, y⟩ := y
  obtain ⟨v, e1, e2⟩ := r.get e
  have := y xs (b.seq (a.seq s))
  rw [e1] at this; cases this
  exact ⟨F1, .refl b, e2.mono a⟩
 stop := fun F1 H1 a b => ⟨xs, b.seq (a.seq s), by rw [r.length]; exact Nat.le_refl _⟩
theorem pid_seq {tg : Expr} (hd : PD X e ma) : PId X tg e (aslst ma) := PI.imp (pi_list hd) fun σ H R hpat => by
 obtain ⟨F0, H0, F, ρ, its, rl, e, q⟩ := hpat
 unfold aslst at e
 split at e
 ·rename_i ds h1
  cases e
  refine ⟨F0, H0, F, ρ, _, rl, h1, fun v F1 H1 x1 r1 => ?_⟩
  cases r1 with
  | lst s t => exact ⟨_, rfl, ⟨_, x1.fh.seq s⟩, q _ F1 H1 x1 (itd_list s t)⟩
 ·cases e
def rangeD (lo : Int) (n : Nat) : List D := (List.range n).map fun (i : Nat) => D.int (lo + (i : Int))
theorem rangeD_length (lo : Int) (n : Nat) : (rangeD lo n).length = n := by unfold rangeD; simp
theorem itd_range {K : W.Frag} {F : Hp} {lo : Int} {n : Nat} : ItD K F (Itr lo n) (rangeD lo n) where
 go := fun i F1 H1 a b hi => by rw [rangeD_length] at hi; exact hi
 yld := fun i F1 H1 x H2 d a b e y => by
  obtain ⟨rfl, rfl⟩ := y
  unfold rangeD at e
  rw [getElem?_map] at e
  have hi : i < n := by
   rcases Nat.lt_or_ge i n with h | h
   ·exact h
   ·rw [getElem?_eq_none (by simpa using h)] at e; cases e
  rw [getElem?_range hi] at e
  cases e
  exact ⟨F1, .refl b, .int _⟩
 stop := fun F1 H1 a b => by rw [rangeD_length]; exact Nat.le_refl n
def okR (j : Int) : Bool := decide (-(2 ^ 62) <= j) && decide (j < 2 ^ 62)
def rng1 : List D -> Option (List D)
 | [.int j] => if okR j = true then some (rangeD 0 j.toNat) else none
 | _ => none
def rng2 : List D -> Option (List D)
 | [.int i, .int j] => if (okR i && okR j) = true then some (rangeD i (j - i).toNat) else none
 | _ => none
@[irreducible] def mlist (f : List D -> Option (List D)) (m : ML) : ML := fun ρ => (m ρ).bind f
theorem mlist_some {f : List D -> Option (List D)} {m : ML} {ρ : Ro} {gs : List D} (h : mlist f m ρ = some gs) : ∃ ds, m ρ = some ds /\ f ds = some gs := by
 unfold mlist at h
 cases h1 : m ρ with
 | none => rw [h1] at h; cases h
 | some ds => rw [h1] at h; exact ⟨ds, rfl, h⟩
theorem pid_range1 {tg a : Expr} {m : ML} {p pos : Pos} (hg : Gl X "range") (hm : X.mg "range" = none) (ha : PAs X [a] m) (hs : starEach [a] X.env = [(false, eval a X.env)] := by rfl) : PId X tg (.Call (.Name "range" p) [a] [] pos) (mlist rng1 m) := PI.imp (pi_range1 hg hm ha hs) fun σ H R hpat => by
 obtain ⟨F0, H0, F, ρ, its, rl, e, q⟩ := hpat
 obtain ⟨ds, h1, h2⟩ := mlist_some e
 refine ⟨F0, H0, F, ρ, ds, rl, h1, fun vs F1 H1 x1 r1 => ?_⟩
 unfold rng1 at h2
 split at h2
 ·rename_i j
  split at h2
  ·rename_i hk
   cases h2
   unfold okR at hk
   simp only [Bool.and_eq_true, decide_eq_true_eq] at hk
   cases r1 with
   | cons r rr =>
    cases rr; cases r
    exact ⟨j, rfl, hk.1, hk.2, q _ F1 H1 x1 itd_range⟩
  ·cases h2
 ·cases h2
theorem pid_range2 {tg a b : Expr} {m : ML} {p pos : Pos} (hg : Gl X "range") (hm : X.mg "range" = none) (ha : PAs X [a, b] m) (hs : starEach [a, b] X.env = [(false, eval a X.env), (false, eval b X.env)] := by rfl) (hs2 : starEach [b] X.env = [(false, eval b X.env)] := by rfl) : PId X tg (.Call (.Name "range" p) [a, b] [] pos) (mlist rng2 m) := PI.imp (pi_range2 hg hm ha hs hs2) fun σ H R hpat => by
 obtain ⟨F0, H0, F, ρ, its, rl, e, q⟩ := hpat
 obtain ⟨ds, h1, h2⟩ := mlist_some e
 refine ⟨F0, H0, F, ρ, ds, rl, h1, fun vs F1 H1 x1 r1 => ?_⟩
 unfold rng2 at h2
 split at h2
 ·rename_i i j
  split at h2
  ·rename_i hk
   cases h2
   unfold okR at hk
   simp only [Bool.and_eq_true, decide_eq_true_eq] at hk
   cases r1 with
   | cons r rr =>
    cases rr with
    | cons r2 rr =>
     cases rr; cases r; cases r2
     exact ⟨i, j, rfl, ⟨hk.1.1, hk.1.2, hk.2.1, hk.2.2⟩, q _ F1 H1 x1 itd_range⟩
  ·cases h2
 ·cases h2
def enumL : Nat -> List D -> List D
 | _, [] => []
 | i, d :: ds => .tup [.int i, d] :: enumL (i + 1) ds
theorem enumL_length : ∀ i ds, (enumL i ds).length = ds.length
 | _, [] => rfl
 | i, _ :: ds => by simp [enumL, enumL_length (i + 1) ds]
theorem enumL_get : ∀ (k : Nat) ds (i : Nat) d, ds[i]? = some d -> (enumL k ds)[i]? = some (.tup [.int ((k + i : Nat) : Int), d])
 | _, [], _, _, h => by simp at h
 | k, _ :: ds, 0, d, h => by simp at h; subst h; rfl
 | k, _ :: ds, i + 1, d, h => by
  have := enumL_get (k + 1) ds i d (by simpa using h)
  have e : k + 1 + i = k + (i + 1) := by omega
  rw [e] at this
  simpa [enumL] using this
def enum1 : List D -> Option (List D)
 | [.lst ds] => some (enumL 0 ds)
 | _ => none
theorem itd_enum {K : W.Frag} {F : Hp} {p : Addr} {xs : List V} {ds : List D} (s : SqL K F p xs) (r : Reps K F xs ds) : ItD K F (Ite K p) (enumL 0 ds) where
 go := fun i F1 H1 a b hi => by
  rw [enumL_length] at hi
  obtain ⟨v, e, _⟩ := r.get (getElem?_eq_getElem hi)
  exact ⟨xs, v, b.seq (a.seq s), e⟩
 yld := fun i F1 H1 x H2 d a b e y => by
  obtain ⟨t, u, rfl, ht, rfl, y1⟩ := y
  have y1 := y1 xs (b.seq (a.seq s))
  obtain ⟨d1, e1, r1⟩ := r.get' y1
  rw [enumL_get 0 ds i d1 e1, Nat.zero_add] at e
  cases e
  refine ⟨upd F1 t (.tup [.int i, u]), Ext.laid b ht, .tup (SqT.of upd_same) ?_⟩
  have mm : Same F (upd F1 t (.tup [.int i, u])) := a.trans ((Same.refl F1).put (b.free ht))
  exact .cons (.int _) (.cons (r1.mono mm) .nil)
 stop := fun F1 H1 a b => ⟨xs, b.seq (a.seq s), by rw [r.length, enumL_length]; exact Nat.le_refl _⟩
theorem pid_enum {es : List Expr} {tk : Nat} {tp : Pos} {a : Expr} {m : ML} {p pos : Pos} (hg : Gl X "enumerate") (hm : X.mg "enumerate" = none) (ha : PAs X [a] m) (hs : starEach [a] X.env = [(false, eval a X.env)] := by rfl) : PId X (.Tuple es tk tp) (.Call (.Name "enumerate" p) [a] [] pos) (mlist enum1 m) := PI.imp (pi_enum hg hm ha hs) fun σ H R hpat => by
 obtain ⟨F0, H0, F, ρ, its, rl, e, q⟩ := hpat
 obtain ⟨ds, h1, h2⟩ := mlist_some e
 refine ⟨F0, H0, F, ρ, ds, rl, h1, fun vs F1 H1 x1 r1 => ?_⟩
 unfold enum1 at h2
 split at h2
 ·cases h2
  cases r1 with
  | cons r rr =>
   cases rr
   cases r with
   | lst s t => exact ⟨_, _, rfl, x1.fh.seq s, q _ F1 H1 x1 (itd_enum s t)⟩
 ·cases h2
end
end
section
def forD (g : Tg) (body : MS) : List D -> MS
 | [], ρ => some (.nx ρ)
 | d :: ds, ρ => match tgD g d ρ with
  | some ρ1 => match body ρ1 with
   | some (.nx ρ2) => forD g body ds ρ2
   | some (.ct ρ2) => forD g body ds ρ2
   | some (.bk ρ2) => some (.nx ρ2)
   | o => o
  | none => none
def mfor (mi : ML) (g : Tg) (body : MS) : MS := fun ρ => (mi ρ).bind fun its => forD g body its ρ
theorem drop_get {α : Type} {xs : List α} {i : Nat} {d : α} (h : xs[i]? = some d) : xs.drop i = d :: xs.drop (i + 1) := by
 obtain ⟨hl, e⟩ := List.getElem?_eq_some_iff.mp h
 rw [drop_eq_getElem_cons hl, e]
section
variable {X : Cx} {a b c e : Expr} {ma mb : ME} {pos : Pos} {st : Stmt} {rest : List Stmt}
theorem psd_for {tg iter : Expr} {body : List Stmt} {mi : ML} {g : Tg} {mb : MS} (hp : PassesOwn (model X.prog X.w) X.A X.env X.xe) (hc : X.calm = true) (hi : PId X tg iter mi) (hg : PGd X tg g) (hb : PSsd X body mb)
  (hs : ∀ x, foldedSetIterable iter X.env x = pure x := by intro _; rfl) : PSd X (.For tg iter body [] pos) (mfor mi g mb) := (ps_for hp hc hi hg hb hs).imp fun Dn σ H hpat => by
 obtain ⟨F0, H0, F, ρ, o, rl, e, ok⟩ := hpat
 unfold mfor at e
 cases h1 : mi ρ with
 | none => rw [h1] at e; cases e
 | some its =>
  rw [h1] at e
  have e : forD g mb its ρ = some o := e
  refine ⟨F0, H0, F, ρ, its, rl, h1, fun J F1 H1 x1 I => ?_⟩
  refine ⟨fun i m σ' H' => ∃ F' ρ', Rl X.K F0 H0 F' H' σ' ρ' /\ Same F1 F' /\ i <= its.length /\ m = its.length - i /\ forD g mb (its.drop i) ρ' = some o, ⟨_, F1, ρ, rl.go x1, Same.refl _, Nat.zero_le _, rfl, e⟩, ?_⟩
  rintro i m σ' H' ⟨F', ρ', rl', sf, hi', rfl, e'⟩
  by_cases hlt : i < its.length
  ·right
   have hd := getElem?_eq_getElem hlt
   refine ⟨I.go i F' H' sf rl'.fh hlt, fun σ2 H2 => ∃ F2 ρ2, Rl X.K F0 H0 F2 H2 σ2 ρ2 /\ Same F1 F2 /\ forD g mb (its.drop (i + 1)) ρ2 = some o, ?_, fun x H2 y => ?_⟩
   ·rintro σ2 H2 ⟨F2, ρ2, rl2, sf2, e2⟩
    exact ⟨its.length - (i + 1), by omega, F2, ρ2, rl2, sf2, hlt, rfl, e2⟩
   ·obtain ⟨F2, x2, r2⟩ := I.yld i F' H' x H2 _ sf rl'.fh hd y
    rw [drop_get hd] at e'
    unfold forD at e'
    cases h2 : tgD g its[i] ρ' with
    | none => simp only [h2] at e'; cases e'
    | some ρ1 =>
     simp only [h2] at e'
     refine ⟨F0, H0, F2, ρ', _, ρ1, rl'.go x2, r2, h2, fun F3 H3 σ3 rl3 x3 => ?_⟩
     have s3 : Same F1 F3 := (sf.trans x2.ff).trans x3.ff
     cases h3 : mb ρ1 with
     | none => simp only [h3] at e'; cases e'
     | some o1 =>
      simp only [h3] at e'
      refine ⟨F0, H0, F3, ρ1, o1, rl3, h3, ?_⟩
      cases o1 with
      | nx ρ2 => exact fun F4 H4 σ4 rl4 s4 => ⟨F4, ρ2, rl4, s3.trans s4, e'⟩
      | ct ρ2 => exact fun F4 H4 σ4 rl4 s4 => ⟨F4, ρ2, rl4, s3.trans s4, e'⟩
      | bk ρ2 =>
       cases e'
       exact fun F4 H4 σ4 rl4 s4 => ok F4 H4 σ4 rl4 ((x1.ff.trans s3).trans s4)
      | rt d => cases e'; exact ok
      | rf d => cases e'; exact ok
      | rp d ds => cases e'; exact ok
      | rg d p r => cases e'; exact ok
      | rgf d p r => cases e'; exact ok
  ·left
   have hieq : i = its.length := by omega
   subst hieq
   rw [drop_length] at e'
   have e' : some (Out.nx ρ') = some o := e'
   cases e'
   exact ⟨I.stop F' H' sf rl'.fh, ok F' H' σ' rl' (x1.ff.trans sf)⟩
end
end
section
def blkRo (src : List (Option Nat)) (ρ : Ro) : Ro := src.map fun o => o.bind fun i => match ρ[i]? with | some (some (.sh d)) => some (.sh d) | _ => none
def compD (g : Tg) (c : MB) (elt : ME) : List D -> Ro -> List D -> Option (List D)
 | [], _, acc => some acc
 | d :: ds, ρ, acc => match tgD g d ρ with
  | some ρ1 => match c ρ1 with
   | some true => match elt ρ1 with
    | some x => if acc.length < sizeLine then compD g c elt ds ρ1 (acc ++ [x]) else none
    | none => none
   | some false => compD g c elt ds ρ1 acc
   | none => none
  | none => none
@[irreducible] def mcomp (src : List (Option Nat)) (mi : ML) (g : Tg) (c : MB) (elt : ME) : ML := fun ρ => (mi ρ).bind fun its => compD g c elt its (blkRo src ρ) []
def NoOwn (ρ : Ro) : Prop := ∀ (i : Nat) ds, ρ[i]? ≠ some (some (.own ds)) /\ ∀ p, ρ[i]? ≠ some (some (.ob p ds))
theorem NoOwn.set {ρ : Ro} (h : NoOwn ρ) (i : Nat) (d : D) : NoOwn (ρ.set i (some (.sh d))) := fun j ds => ⟨fun e => by
 by_cases hj : i = j
 ·subst hj
  have hl : i < ρ.length := by
   rcases Nat.lt_or_ge i ρ.length with z | z
   ·exact z
   ·rw [getElem?_eq_none (by simpa using z)] at e; cases e
  rw [getElem?_set_self hl] at e; cases e
 ·rw [getElem?_set_ne hj] at e; exact (h j ds).1 e, fun p e => (h j ds).2 p (set_ob e).2⟩
theorem NoOwn.all : ∀ (is : List Nat) (ds : List D) {ρ ρ' : Ro}, NoOwn ρ -> setAll is ds ρ = some ρ' -> NoOwn ρ'
 | [], [], ρ, ρ', h, e => by cases e; exact h
 | [], _ :: _, _, _, _, e => by cases e
 | _ :: _, [], _, _, _, e => by cases e
 | i :: is, d :: ds, ρ, ρ', h, e => NoOwn.all is ds (h.set i d) e
theorem NoOwn.tg {g : Tg} {d : D} {ρ ρ' : Ro} (h : NoOwn ρ) (e : tgD g d ρ = some ρ') : NoOwn ρ' := by
 cases g with
 | nm i => cases e; exact h.set i d
 | tp is => cases d <;> first | (cases e; done) | exact NoOwn.all is _ h e
 | nt i is =>
  cases d with
  | tup ds =>
   match ds, e with
   | [d, .tup ds], e => exact NoOwn.all is _ (h.set i d) e
  | _ => cases e
theorem Rl.blk {K : W.Frag} {F0 H0 F H : Hp} {σ : St} {ρ : Ro} (r : Rl K F0 H0 F H σ ρ) (src : List (Option Nat)) : Rl K F H F H (blk0 src σ) (blkRo src ρ) /\ NoOwn (blkRo src ρ) := by
 have no1 : ∀ (i : Nat) x, (blkRo src ρ)[i]? = some (some x) -> ∃ d, x = S.sh d := fun i x e => by
  unfold blkRo at e
  rw [getElem?_map] at e
  cases h : src[i]? with
  | none => rw [h] at e; cases e
  | some o =>
   rw [h] at e
   cases o with
   | none => cases e
   | some k =>
    simp only [Option.map_some, Option.bind_some] at e
    split at e
    ·cases e; exact ⟨_, rfl⟩
    ·cases e
 have no : NoOwn (blkRo src ρ) := fun i ds => ⟨fun e => (by obtain ⟨d, z⟩ := no1 i _ e; cases z), fun p e => (by obtain ⟨d, z⟩ := no1 i _ e; cases z)⟩
 refine ⟨⟨.refl r.fh, by unfold blk0 blkRo; simp, fun i d e => ?_, fun i ds e => absurd e (no i ds).1, fun i j p ds es _ e => absurd e (no i ds).1, fun i p ds e => absurd e ((no i ds).2 p), fun i j p ds es e => absurd e ((no i ds).2 p), fun i j p q ds es e => absurd e ((no i ds).2 p)⟩, no⟩
 unfold blkRo at e
 unfold blk0
 rw [getElem?_map] at e ⊢
 cases h : src[i]? with
 | none => rw [h] at e; cases e
 | some o =>
  rw [h] at e
  cases o with
  | none => cases e
  | some k =>
   simp only [Option.map_some, Option.bind_some] at e ⊢
   split at e
   ·rename_i d' h'
    cases e
    obtain ⟨v, e1, e2⟩ := r.sh k _ h'
    exact ⟨v, by rw [e1]; rfl, e2⟩
   ·cases e
theorem Rl.other {K : W.Frag} {F0 H0 F H : Hp} {σ : St} {ρ : Ro} (r : Rl K F0 H0 F H σ ρ) (no : NoOwn ρ) {p : Addr} {o : HO} (h0 : H0 p = none) (hF : F p = none) : Rl K F0 H0 F (upd H p o) σ ρ :=
 ⟨⟨r.ext.ff, r.ext.hh.put h0, r.ext.fh.put hF, r.ext.new, r.ext.nf⟩, r.len, r.sh, fun i ds e => absurd e (no i ds).1, r.inj, fun i p ds e => absurd e ((no i ds).2 p), r.obn, r.ob1⟩
theorem Rl.rebase {K : W.Frag} {F1 F H : Hp} {σ : St} {ρ : Ro} {p : Addr} {xs ys : List V} (r : Rl K F1 (upd F1 p (.lst xs)) F H σ ρ) (hF : F p = none) (hF1 : F1 p = none) : Rl K F1 (upd F1 p (.lst ys)) F (upd H p (.lst ys)) σ ρ := by
 have ne : ∀ q, upd F1 p (.lst xs) q = none -> q ≠ p := fun q z w => by rw [w, upd_same] at z; cases z
 refine ⟨⟨r.ext.ff, fun b u e => ?_, r.fh.put hF, fun b e n => ?_, r.ext.nf⟩, r.len, r.sh, fun i ds e => ?_, r.inj, fun i q ds e => ?_, r.obn, r.ob1⟩
 ·by_cases hb : b = p
  ·subst hb; rw [upd_same] at e ⊢; exact e
  ·rw [upd_ne hb] at e ⊢
   exact r.ext.hh b u (by rw [upd_ne hb]; exact e)
 ·have hb : b ≠ p := fun w => by rw [w, hF] at n; exact n rfl
  rw [upd_ne hb]; exact e
 ·obtain ⟨q, zs, a, b, c, d, z⟩ := r.own i ds e
  have hq := ne q z
  rw [upd_ne hq] at z
  exact ⟨q, zs, a, b, by rw [upd_ne hq]; exact c, d, by rw [upd_ne hq]; exact z⟩
 ·obtain ⟨a, b, z, zs, c, d⟩ := r.ob i q ds e
  have hq := ne q z
  rw [upd_ne hq] at z
  exact ⟨a, b, by rw [upd_ne hq]; exact z, zs, by rw [upd_ne hq]; exact c, d⟩
theorem Ext.acc {F H F' H' : Hp} {p : Addr} {o : HO} (x : Ext F H F' H') (hp : H p = none) (hF : F' p = none) : Ext F H F' (upd H' p o) := ⟨x.ff, x.hh.put hp, x.fh.put hF, x.new, x.nf⟩
theorem Ext.stay {F' H' F3 H3 : Hp} {p : Addr} {o : HO} (x3 : Ext F' H' F3 H3) (hF' : F' p = none) (hH' : H' p = some o) : F3 p = none := by
 cases qq : F3 p with
 | none => rfl
 | some u => have := x3.new p hF' (by rw [qq]; simp); rw [this] at hH'; cases hH'
theorem Rl.noB {K : W.Frag} {F H : Hp} {σ : St} {ρ : Ro} {p : Addr} (r : Rl K F H F H σ ρ) (no : NoOwn ρ) (hp : H p = none) : Rl K F (upd F p (.lst [])) F (upd H p (.lst [])) σ ρ :=
 ⟨⟨Same.refl F, r.fh.put2, r.fh.put (r.fh.free hp), fun b e n => absurd e n, fun _ _ _ z => z⟩, r.len, r.sh, fun i ds e => absurd e (no i ds).1, r.inj, fun i p ds e => absurd e ((no i ds).2 p), r.obn, r.ob1⟩
theorem compD_cons {g : Tg} {c : MB} {elt : ME} {d : D} {ds acc out : List D} {ρ : Ro} (h : compD g c elt (d :: ds) ρ acc = some out) : ∃ ρ1, tgD g d ρ = some ρ1 /\ ((c ρ1 = some false /\ compD g c elt ds ρ1 acc = some out) \/ ∃ x, c ρ1 = some true /\ elt ρ1 = some x /\ acc.length < sizeLine /\ compD g c elt ds ρ1 (acc ++ [x]) = some out) := by
 rw [compD] at h
 cases h2 : tgD g d ρ with
 | none => rw [h2] at h; cases h
 | some ρ1 =>
  rw [h2] at h
  simp only at h
  refine ⟨ρ1, rfl, ?_⟩
  cases h3 : c ρ1 with
  | none => rw [h3] at h; cases h
  | some k =>
   rw [h3] at h
   cases k with
   | false => exact .inl ⟨rfl, h⟩
   | true =>
    simp only at h
    cases h4 : elt ρ1 with
    | none => rw [h4] at h; cases h
    | some x =>
     rw [h4] at h
     simp only at h
     by_cases hz : acc.length < sizeLine
     ·rw [if_pos hz] at h; exact .inr ⟨x, rfl, rfl, hz, h⟩
     ·rw [if_neg hz] at h; cases h
theorem comp_loop {K : PySem.W.Frag} {src : List (Option Nat)} {g : Tg} {c : MB} {elt : ME} {its out : List D} {F1 H1 : Hp} {σ : St} {ρb : Ro} {p : Addr} {J : It} {Q : VK} (f1 : Same F1 H1) (hp : H1 p = none) (rb : Rl K F1 (upd F1 p (.lst [])) F1 (upd H1 p (.lst [])) (blk0 src σ) ρb) (I : ItD K F1 J its) (e : compD g c elt its ρb [] = some out)
  (q : ∀ xs F' H', Ext F1 H1 F' H' -> F' p = none -> H' p = some (.lst xs) -> Reps K F' xs out -> Q (.ref p) H') :
  ∃ W : Nat -> Nat -> St -> Hp -> Prop, (∃ m, W 0 m (blk0 src σ) (upd H1 p (.lst []))) /\ ∀ i m σ' H', W i m σ' H' ->
   (J.stop i H' /\ Q (.ref p) H') \/ (J.go i H' /\ ∃ N : St -> Hp -> Prop, (∀ σ2 H2, N σ2 H2 -> ∃ m', m' < m /\ W (i + 1) m' σ2 H2) /\ ∀ x H2, J.yld i H' x H2 -> TGd K g x σ' H2 fun σ3 H3 => TC K c σ3 H3 fun b H4 =>
    if b = true then TD K elt σ3 H4 fun y H5 => ∃ xs, H5 p = some (.lst xs) /\ xs.length < sizeLine /\ N σ3 (upd H5 p (.lst (xs ++ [y]))) else N σ3 H4) := by
 have hF1 : F1 p = none := f1.free hp
 refine ⟨fun i m σ' H' => ∃ F' ρ' acc xs, Rl K F1 (upd F1 p (.lst xs)) F' H' σ' ρ' /\ Ext F1 H1 F' H' /\ H' p = some (.lst xs) /\ F' p = none /\ Reps K F' xs acc /\ i <= its.length /\ m = its.length - i /\ compD g c elt (its.drop i) ρ' acc = some out,
  ⟨_, F1, ρb, [], [], rb, (Ext.refl f1).acc hp hF1, upd_same, hF1, .nil, Nat.zero_le _, rfl, e⟩, ?_⟩
 clear rb e
 rintro i m σ' H' ⟨F', ρ', acc, xs, rl', xe, hH', hF', ra, hi', rfl, e'⟩
 by_cases hlt : i < its.length
 ·right
  have hd := getElem?_eq_getElem hlt
  refine ⟨I.go i F' H' xe.ff rl'.fh hlt, fun σ2 H2 => ∃ F2 ρ2 acc2 xs2, Rl K F1 (upd F1 p (.lst xs2)) F2 H2 σ2 ρ2 /\ Ext F1 H1 F2 H2 /\ H2 p = some (.lst xs2) /\ F2 p = none /\ Reps K F2 xs2 acc2 /\ compD g c elt (its.drop (i + 1)) ρ2 acc2 = some out, ?_, fun x H2 y => ?_⟩
  ·rintro σ2 H2 ⟨F2, ρ2, acc2, xs2, b1, b2, b3, b4, b5, b6⟩
   exact ⟨its.length - (i + 1), Nat.sub_lt_sub_left hlt (Nat.lt_succ_self i), F2, ρ2, acc2, xs2, b1, b2, b3, b4, b5, hlt, rfl, b6⟩
  ·obtain ⟨F2, x2, r2⟩ := I.yld i F' H' x H2 _ xe.ff rl'.fh hd y
   rw [drop_get hd] at e'
   obtain ⟨ρ1, h2, e3⟩ := compD_cons e'
   clear e' I q y hd
   refine ⟨F1, _, F2, ρ', _, ρ1, rl'.go x2, r2, h2, fun F3 H3 σ3 rl3 x3 => ?_⟩
   have x23 := x2.trans x3
   rcases e3 with ⟨h3, e4⟩ | ⟨d, h3, h4, hz, e4⟩
   ·refine ⟨F1, _, F3, ρ1, false, rl3, h3, fun F4 H4 x4 => ?_⟩
    have x24 := x23.trans x4
    exact iteF ⟨F4, ρ1, acc, xs, rl3.go x4, xe.trans x24, x24.hh _ _ hH', x24.stay hF' hH', ra.mono x24.ff, e4⟩
   ·refine ⟨F1, _, F3, ρ1, true, rl3, h3, fun F4 H4 x4 => iteT ⟨F1, _, F4, ρ1, d, rl3.go x4, h4, fun v F5 H5 x5 r5 => ?_⟩⟩
    have x25 := (x23.trans x4).trans x5
    have pn := x25.stay hF' hH'
    exact ⟨xs, x25.hh _ _ hH', by rw [ra.length]; exact hz, F5, ρ1, acc ++ [d], xs ++ [v], ((rl3.go x4).go x5).rebase pn hF1, (xe.trans x25).acc hp pn, upd_same, pn, (ra.mono x25.ff).append (.cons r5 .nil), e4⟩
 ·left
  have hieq : i = its.length := Nat.le_antisymm hi' (Nat.le_of_not_lt hlt)
  subst hieq
  rw [drop_length] at e'
  have e' : some acc = some out := e'
  cases e'
  exact ⟨I.stop F' H' xe.ff rl'.fh, q xs F' H' xe hF' hH' ra⟩
section
variable {X : Cx} {a b c e : Expr} {ma mb : ME} {pos : Pos} {st : Stmt} {rest : List Stmt}
def PTsd (X : Cx) (ifs : List Expr) (c : MB) : Prop := PTs X ifs (TC X.K c)
def cyes : MB := fun _ => some true
theorem ptsd_nil : PTsd X [] cyes := fun pins s σ H Q I hpat => by
 obtain ⟨F0, H0, F, ρ, b, rl, e, q⟩ := hpat
 cases e
 exact pts_nil pins s σ H Q I (q F H (.refl rl.fh))
theorem ptsd_one {ca : MB} (h : PC' X c ca) : PTsd X [c] ca := pts_one h
theorem comp_tf {K : W.Frag} {src : List (Option Nat)} {mi : ML} {g : Tg} {c : MB} {elt : ME} {σ : St} {H : Hp} {Q : VK} (h : TF K (mcomp src mi g c elt) σ H Q) : tComp src (TId K mi) (TGd K g) (TC K c) (TD K elt) σ H Q := by
 obtain ⟨F0, H0, F, ρ, out, rl, e, q⟩ := h
 unfold mcomp at e
 cases h1 : mi ρ with
 | none => rw [h1] at e; cases e
 | some its =>
  rw [h1] at e
  refine ⟨F0, H0, F, ρ, its, rl, h1, fun J F1 H1 x1 I p hp => ?_⟩
  obtain ⟨rb, no⟩ := (rl.go x1).blk src
  exact comp_loop x1.fh hp (rb.noB no hp) I e fun xs F' H' xe hF' hH' ra => q p xs F' H' (x1.trans xe) (x1.hh.free hp) hF' hH' ra
theorem pf_comp {sc : Scope} {N : List Str} {src : List (Option Nat)} {tg elt iter : Expr} {ifs : List Expr} {mi : ML} {g : Tg} {cc : MB} {me : ME} (B : Blk X sc N src) (hc : X.calm = true)
  (hi : PId X tg iter mi) (hg : ∀ C fp s H, PGd (blkCx X sc C N fp s H) tg g) (ht : ∀ C fp s H, PTsd (blkCx X sc C N fp s H) ifs cc) (he : ∀ C fp s H, PD (blkCx X sc C N fp s H) elt me)
  (hs : ∀ x, foldedSetIterable iter X.env x = pure x := by intro _; rfl) :
  PF X (.ListComp elt [⟨tg, iter, ifs, 0⟩] sc pos) (mcomp src mi g cc me) := (pe_comp (g := TGd X.K g) (tc := TC X.K cc) (te := TD X.K me) B hc hi (fun C fp s H => hg C fp s H) (fun C fp s H => ht C fp s H) (fun C fp s H => he C fp s H) hs).imp fun _ _ _ h => comp_tf h
theorem pf_imp {mf : ML} {σ : St} {H : Hp} {Q : VK} (h : TD X.K (mlst mf) σ H Q) : TF X.K mf σ H Q := by
 obtain ⟨F0, H0, F, ρ, d, r, e, q⟩ := h
 unfold mlst at e
 cases hm : mf ρ with
 | none => rw [hm] at e; cases e
 | some ds =>
  rw [hm] at e; cases e
  refine ⟨F0, H0, F, ρ, ds, r, hm, fun p xs F' H' x hp hF hH rs => ?_⟩
  exact q _ (upd F' p (.lst xs)) H' (x.freeze hF hp hH) (.lst (SqL.of upd_same) (rs.mono ((Same.refl F').put hF)))
theorem psd_setCs {i : Nat} {src : List (Option Nat)} {mi : ML} {g : Tg} {cc : MB} {me : ME} (h : PS X st (tAsg (tComp src (TId X.K mi) (TGd X.K g) (TC X.K cc) (TD X.K me)) (gName i))) : PSd X st (mset i (mlst (mcomp src mi g cc me))) := asg_d h fun _ _ _ q => comp_tf (pf_imp q)
inductive Rt where
 | sh (d : D) | fr (ds : List D) | pr (d : D) (ds : List D)
abbrev MF := List D -> Option Rt
def okT (K : W.Frag) (F H : Hp) (Q : VK) : Rt -> Prop
 | .sh d => ∀ v F' H', Ext F H F' H' -> Rep K F' v d -> Q v H'
 | .fr ds => ∀ p xs F' H', Ext F H F' H' -> H p = none -> F' p = none -> H' p = some (.lst xs) -> Reps K F' xs ds -> Q (.ref p) H'
 | .pr d ds => ∀ t v p xs F' H', Ext F H F' H' -> H t = none -> H p = none -> t ≠ p -> F' t = none -> F' p = none -> H' t = some (.tup [v, .ref p]) -> H' p = some (.lst xs) -> Rep K F' v d -> Reps K F' xs ds -> Q (.ref t) H'
def spR (K : W.Frag) (n : Nat) (m : MF) : Sp := fun vs H Q _ => vs.length = n /\ ∃ F ds r, Same F H /\ Reps K F vs ds /\ m ds = some r /\ okT K F H Q r
def startS (n : Nat) (ds : List D) : Ro := ds.map (fun d => some (.sh d)) ++ List.replicate (n - ds.length) none
def runB (n : Nat) (m : MS) : MF := fun ds => match m (startS n ds) with
 | some (.nx _) => some (.sh .non)
 | some (.rt d) => some (.sh d)
 | some (.rf es) => some (.fr es)
 | some (.rp d es) => some (.pr d es)
 | _ => none
theorem rl_start {K : W.Frag} {F H : Hp} {N : List Str} {vs : List V} {ds : List D} (s : Same F H) (r : Reps K F vs ds) : Rl K F H F H (start N vs) (startS N.length ds) := by
 have get : ∀ (i : Nat) x, (startS N.length ds)[i]? = some (some x) -> ∃ d, x = S.sh d /\ ds[i]? = some d := fun i x e => by
  unfold startS at e
  by_cases hi : i < ds.length
  ·rw [getElem?_append_left (by simpa using hi), getElem?_map] at e
   cases q : ds[i]? with
   | none => rw [q] at e; cases e
   | some d => rw [q] at e; cases e; exact ⟨d, rfl, rfl⟩
  ·rw [getElem?_append_right (by simpa using hi), getElem?_replicate] at e
   split at e <;> cases e
 refine ⟨.refl s, ?_, fun i d e => ?_, fun i ds e => ?_, fun i j p ds es _ e => ?_, fun i p ds e => ?_, fun i j p ds es e => ?_, fun i j p q ds es e => ?_⟩
 ·unfold start startS; simp [r.length]
 ·obtain ⟨d', e1, e2⟩ := get i _ e
  cases e1
  obtain ⟨v, e3, e4⟩ := r.get e2
  have hl : i < vs.length := (List.getElem?_eq_some_iff.mp e3).1
  refine ⟨v, ?_, e4⟩
  unfold start
  rw [getElem?_append_left (by simpa using hl), getElem?_map, e3]; rfl
 ·obtain ⟨d', e1, _⟩ := get i _ e
  cases e1
 ·obtain ⟨d', e1, _⟩ := get i _ e
  cases e1
 ·obtain ⟨d', e1, _⟩ := get i _ e
  cases e1
 ·obtain ⟨d', e1, _⟩ := get i _ e
  cases e1
 ·obtain ⟨d', e1, _⟩ := get i _ e
  cases e1
theorem Fun.okD {P : Program} {w : World} {K : W.Frag} {mg : Str -> Option Value} {base : Heap} {x qual : Str} {st : Stmt} {f : Addr} {fd : FuncData} {N ps : List Str} {k : Nat} {m : MS} (Fn : Fun K x qual st f fd) (Sc : FnScope N ps (defScope st))
  (hbody : ∀ (cdv : Value) (A : Around) (outer : List Env) (s : Shared) (H : Hp) (E : XK), Room k (A.deeper (envOfC qual (defScope st) s.heap.objs.size f cdv)) -> PSsd (cxOf CX0 P w K mg base N qual (defScope st) f cdv A outer s H E).nox (defBody st) m) :
  FnOk P w K mg base CX0 (k + 1) f fd ps (spR K ps.length (runB N.length m)) := by
 refine Fn.ok Sc (fun vs H Q E h => h.1) fun cdv A outer s H vs Q E hr h => ?_
 obtain ⟨hl, F, ds, r, sf, rs, e, ok⟩ := h
 unfold runB at e
 cases h1 : m (startS N.length ds) with
 | none => rw [h1] at e; cases e
 | some o =>
  rw [h1] at e
  refine ⟨_, hbody cdv A outer s H E hr, F, H, F, startS N.length ds, o, rl_start sf rs, h1, ?_⟩
  cases o with
  | nx ρ => cases e; exact fun F' H' σ' rl _ => ok .non F' H' rl.ext .non
  | rt d => cases e; exact ok
  | rf es => cases e; exact ok
  | rp d es => cases e; exact ok
  | rg d p r => cases e
  | rgf d p r => cases e
  | bk ρ => cases e
  | ct ρ => cases e
@[irreducible] def mcall (f : MF) (m : ML) : ME := fun ρ => (m ρ).bind fun ds => match f ds with | some (.sh d) => some d | some (.fr es) => some (.lst es) | some (.pr d es) => some (.tup [d, .lst es]) | none => none
@[irreducible] def mcallF (f : MF) (m : ML) : ML := fun ρ => (m ρ).bind fun ds => match f ds with | some (.fr es) => some es | _ => none
variable {E : XK} {es : List Expr} {mf : MF} {m : ML}
theorem pd_call {n : Nat} (h : ∀ t, PA X es t -> PE X e (tCall (spR X.K n mf) [] E t)) (hl : es.length = n) (ha : PAs X es m) (hm : ∀ ρ ds, m ρ = some ds -> ds.length = es.length) : PD X e (mcall mf m) := (h _ ha).imp fun σ H Q hpat => by
 obtain ⟨F0, H0, F, ρ, d, rl, e, q⟩ := hpat
 unfold mcall at e
 cases h1 : m ρ with
 | none => rw [h1] at e; cases e
 | some ds =>
  rw [h1] at e
  refine ⟨F0, H0, F, ρ, ds, rl, h1, fun vs F1 H1 x1 r1 => ?_⟩
  dsimp only [Option.bind] at e
  show spR X.K n mf (vs ++ []) H1 Q E
  rw [append_nil]
  refine ⟨by rw [r1.length, hm ρ ds h1, hl], F1, ds, ?_⟩
  split at e
  ·rename_i d' h2
   cases e
   exact ⟨_, x1.fh, r1, h2, fun v F2 H2 x2 r2 => q v F2 H2 (x1.trans x2) r2⟩
  ·rename_i es' h2
   cases e
   exact ⟨_, x1.fh, r1, h2, fun p xs F2 H2 x2 hp hF hH r2 => q _ (upd F2 p (.lst xs)) H2 (x1.trans (x2.freeze hF hp hH)) (.lst (SqL.of upd_same) (r2.mono ((Same.refl F2).put hF)))⟩
  ·rename_i d' es' h2
   cases e
   refine ⟨_, x1.fh, r1, h2, fun t v p xs F2 H2 x2 ht hp hne hFt hFp hHt hHp rv rs => ?_⟩
   have x3 := x2.freeze hFp hp hHp
   have hFt' : upd F2 p (.lst xs) t = none := by rw [upd_ne hne]; exact hFt
   have s2 : Same F2 (upd F2 p (.lst xs)) := (Same.refl F2).put hFp
   have s3 : Same (upd F2 p (.lst xs)) (upd (upd F2 p (.lst xs)) t (.tup [v, .ref p])) := (Same.refl _).put hFt'
   exact q _ (upd (upd F2 p (.lst xs)) t (.tup [v, .ref p])) H2 (x1.trans (x3.freeze hFt' ht hHt)) (.tup (SqT.of upd_same) (.cons (rv.mono (s2.trans s3)) (.cons (.lst (SqL.of (by rw [upd_ne (Ne.symm hne)]; exact upd_same)) (rs.mono (s2.trans s3))) .nil)))
  ·cases e
theorem pf_call {n : Nat} (h : ∀ t, PA X es t -> PE X e (tCall (spR X.K n mf) [] E t)) (hl : es.length = n) (ha : PAs X es m) (hm : ∀ ρ ds, m ρ = some ds -> ds.length = es.length) : PF X e (mcallF mf m) := (h _ ha).imp fun σ H Q hpat => by
 obtain ⟨F0, H0, F, ρ, d, rl, e, q⟩ := hpat
 unfold mcallF at e
 cases h1 : m ρ with
 | none => rw [h1] at e; cases e
 | some ds =>
  rw [h1] at e
  refine ⟨F0, H0, F, ρ, ds, rl, h1, fun vs F1 H1 x1 r1 => ?_⟩
  dsimp only [Option.bind] at e
  show spR X.K n mf (vs ++ []) H1 Q E
  rw [append_nil]
  refine ⟨by rw [r1.length, hm ρ ds h1, hl], F1, ds, ?_⟩
  split at e
  ·rename_i es' h2
   cases e
   exact ⟨_, x1.fh, r1, h2, fun p xs F2 H2 x2 hp hF hH r2 => q p xs F2 H2 (x1.trans x2) (x1.hh.free hp) hF hH r2⟩
  ·cases e
theorem anil_len (ρ : Ro) (ds : List D) (h : anil ρ = some ds) : ds.length = 0 := by cases h; rfl
theorem acons_len {x : ME} {r : ML} {n : Nat} (hr : ∀ ρ ds, r ρ = some ds -> ds.length = n) (ρ : Ro) (ds : List D) (h : acons x r ρ = some ds) : ds.length = n + 1 := by
 obtain ⟨d, es, _, h2, rfl⟩ := acons_some h
 rw [length_cons, hr ρ es h2]
end
end
section
section
variable {X : Cx} {a b c e : Expr} {ma mb : ME} {pos : Pos}
def rRng1 : List V -> Hp -> VK -> Prop := fun vs H Q => ∃ j : Int, vs = [.int j] /\ ∀ p, H p = none -> Q (.ref p) (upd H p (.rng 0 j))
theorem call_rng1 : CallR X (.type "range") rRng1 := by
 intro pins s σ H xs us Q I r h
 obtain ⟨j, rfl, q⟩ := h
 obtain ⟨u, rfl, t, rfl⟩ := vals1 r
 refine call_range_1 ⟨.ref s.heap.objs.size, _, I.laid (o := .rng 0 j) (fun b o e => Heap.get?_push_of_some _ e) (Nat.le_refl _) ⟨_, _, _, Heap.get?_push_size _ rfl⟩, rfl, q _ I.fresh⟩
def vrange (lo : Int) (n : Nat) : List V := (List.range n).map fun (i : Nat) => V.int (lo + (i : Int))
theorem two24 : 2 ^ 24 <= sizeLine := by rw [sizeLine_eq]; decide
def rListR : List V -> Hp -> VK -> Prop := fun vs H Q => ∃ p lo hi, vs = [.ref p] /\ H p = some (.rng lo hi) /\ -(2 ^ 62) <= lo /\ lo < 2 ^ 62 /\ -(2 ^ 62) <= hi /\ hi < 2 ^ 62 /\ (hi - lo).toNat <= 2 ^ 24 /\ ∀ l, H l = none -> Q (.ref l) (upd H l (.lst (vrange lo (hi - lo).toNat)))
theorem vals_range {lo : Int} {n : Nat} {acc : Array Value} (h : ItemsOf (fun i v => ∃ t, v = Value.int (lo + i * 1) t) acc n) : Vals (vrange lo n) acc.toList := by
 have hl : (vrange lo n).length = acc.toList.length := by unfold vrange; simp [h.1]
 have key : ∀ (xs : List V) (us : List Value), xs.length = us.length -> (∀ (i : Nat) x u, xs[i]? = some x -> us[i]? = some u -> RelV x u) -> Vals xs us := by
  intro xs
  induction xs with
  | nil => intro us hl _; cases us with
   | nil => exact .nil
   | cons => cases hl
  | cons x xs ih => intro us hl hr; cases us with
   | nil => cases hl
   | cons u us => exact .cons (hr 0 x u rfl rfl) (ih us (by simpa using hl) fun i y w h1 h2 => hr (i + 1) y w (by simpa using h1) (by simpa using h2))
 refine key _ _ hl fun i x u h1 h2 => ?_
 have h2 : acc[i]? = some u := by simpa using h2
 obtain ⟨t, rfl⟩ := h.2 i u h2
 have hi : i < n := by
  have := (Array.getElem?_eq_some_iff.mp h2).1
  rw [h.1] at this; exact this
 unfold vrange at h1
 rw [getElem?_map, getElem?_range hi] at h1
 cases h1
 exact ⟨t, by rw [Int.mul_one]⟩
theorem call_listR (hc : X.calm = true) : CallR X (.type "list") rListR := by
 intro pins s σ H xs us Q I r h
 obtain ⟨p, lo, hi, rfl, hp, b1, b2, b3, b4, hn, q⟩ := h
 obtain ⟨u, rfl, rx⟩ := vals1 r
 cases rx
 obtain ⟨t, u, v, e⟩ := I.hok p _ hp
 have hsz : Builtin.Range.rangeSize lo hi 1 = (((hi - lo).toNat : Nat) : Int) := by rw [rangeSize_one]; split <;> omega
 refine call_list_range (I.ok.hd hc) e (small_one b1 b2 b3 b4) hsz hn fun h' tk acc' c' hk hS' hacc => ?_
 refine ⟨.ref s.heap.objs.size, _, I.laid (t' := tk) (o := .lst (vrange lo (hi - lo).toNat)) hk (Nat.le_refl _) ⟨?_, acc'.toList, c', vals_range hacc, by simpa using hS'⟩, rfl, q _ I.fresh⟩
 unfold vrange
 rw [length_map, length_range]
 exact Nat.le_trans hn two24
theorem reps_range {K : W.Frag} {F : Hp} (lo : Int) (n : Nat) : Reps K F (vrange lo n) (rangeD lo n) := by
 unfold vrange rangeD
 induction (List.range n) with
 | nil => exact .nil
 | cons i is ih => exact .cons (.int _) ih
def lrng1 : List D -> Option (List D)
 | [.int j] => if (okR j && decide (j.toNat <= 2 ^ 24)) = true then some (rangeD 0 j.toNat) else none
 | _ => none
theorem pf_listR1 {pl pr : Pos} {pos' : Pos} {m : ML} (hc : X.calm = true) (hg : Gl X "list") (hm : X.mg "list" = none) (hg' : Gl X "range") (hm' : X.mg "range" = none) (ha : PAs X [a] m)
  (he : starEach [a] X.env = (false, eval a X.env) :: starEach [] X.env := by rfl) (hpl : ∀ pos, (backTo pos (starEach [] X.env)).any (·.1) = false := by intro _; rfl)
  (hs : starEach (Expr.Call (.Name "range" pr) [a] [] pos' :: []) X.env = (false, eval (Expr.Call (.Name "range" pr) [a] [] pos') X.env) :: starEach [] X.env := by rfl) : PF X (.Call (.Name "list" pl) [.Call (.Name "range" pr) [a] [] pos'] [] pos) (mlist lrng1 m) :=
 (pe_callTy (call_listR hc) hg hm PyProof.Rows.boot_list (pa_cons (pe_callTy call_rng1 hg' hm' boot_range ha (by decide) (by decide) he (hpl _)) pa_nil hs) (by decide) (by decide) hs (hpl _)).imp fun σ H Q hpat => by
 obtain ⟨F0, H0, F, ρ, its, rl, e, q⟩ := hpat
 obtain ⟨ds, h1, h2⟩ := mlist_some e
 refine ⟨F0, H0, F, ρ, ds, rl, h1, fun vs F1 H1 x1 r1 => ?_⟩
 unfold lrng1 at h2
 split at h2
 ·rename_i j
  split at h2
  ·rename_i hk
   cases h2
   unfold okR at hk
   simp only [Bool.and_eq_true, decide_eq_true_eq] at hk
   cases r1 with
   | cons r rr =>
    cases rr; cases r
    refine ⟨j, rfl, fun p hp => ⟨p, 0, j, rfl, upd_same, by decide, by decide, hk.1.1, hk.1.2, by simpa using hk.2, fun l hl => ?_⟩⟩
    have x2 : Ext F1 H1 F1 (upd H1 p (.rng 0 j)) := Ext.own x1.fh hp
    have x3 := Ext.own (o := .lst (vrange 0 (j - 0).toNat)) x2.fh hl
    have xx := (x1.trans x2).trans x3
    have hj : (j - 0).toNat = j.toNat := by simp
    refine q l _ F1 _ xx ((x1.trans x2).hh.free hl) (x2.fh.free hl) upd_same ?_
    rw [hj]
    exact reps_range 0 j.toNat
  ·cases h2
 ·cases h2
theorem reps_ints {K : W.Frag} {F : Hp} : ∀ ns : List Int, Reps K F (ns.map V.int) (ns.map D.int)
 | [] => .nil
 | n :: ns => .cons (.int n) (reps_ints ns)
theorem sp_law {K : W.Frag} {m : MF} (h : ∀ ns : List Int, ns.length <= 63 -> m [.lst (ns.map .int)] = some (.sh (.bl true))) (H : Hp) (a : Addr) (ns : List Int) (hl : ns.length <= 63) (hS : SqL K H a (ns.map V.int)) (E : XK) :
  spR K 1 m [.ref a] H (fun v _ => v = .bl true) E :=
 ⟨rfl, H, _, _, Same.refl H, .cons (.lst hS (reps_ints ns)) .nil, h ns hl, fun v F' H' _ r => by cases r; rfl⟩
end
end
section
def blkOk (fsc : Scope) (fN : List Str) (sc : Scope) (N : List Str) (src : List (Option Nat)) : Bool :=
 (sc.kind == .function) && sc.names.all (fun y => y.2 != .cell) && sc.names.all (fun y => y.2 != .local || sc.names.lookup y.1 == some .local)
  && sc.names.all (fun y => y.2 != .free || (fsc.names.lookup y.1 == some .cell || fsc.names.lookup y.1 == some .free)) && (src.length == N.length)
  && (List.range src.length).all fun j => match src[j]? with
   | some (some i) => match N[j]? with
    | some x => fN[i]? == some x && sc.names.lookup x == some .free
    | none => false
   | _ => true
theorem blk_of {X : Cx} {sc : Scope} {N : List Str} {src : List (Option Nat)} (fsc : Scope) (fN : List Str) (h1 : X.env.scope = fsc) (h2 : X.N = fN) (h : blkOk fsc fN sc N src = true) : Blk X sc N src := by
 unfold blkOk at h
 simp only [Bool.and_eq_true, all_eq_true, beq_iff_eq, Bool.or_eq_true, bne_iff_ne, ne_eq] at h
 obtain ⟨⟨⟨⟨⟨a1, a2⟩, a3⟩, a4⟩, a5⟩, a6⟩ := h
 refine ⟨a1, a2, fun y hy hk => ?_, fun y hy hk => ?_, fun j i e => ?_, a5⟩
 ·rcases a3 y hy with z | z
  ·exact absurd hk z
  ·exact z
 ·have k : ∀ x, X.env.kindOf x = fsc.names.lookup x := fun x => by rw [<- h1]; rfl
  rw [k]
  rcases a4 y hy with z | z
  ·exact absurd hk z
  ·exact z
 ·have hj : j < src.length := (List.getElem?_eq_some_iff.mp e).1
  have := a6 j (List.mem_range.mpr hj)
  rw [e] at this
  simp only at this
  cases hx : N[j]? with
  | none => rw [hx] at this; cases this
  | some x =>
   rw [hx] at this
   simp only [Bool.and_eq_true, beq_iff_eq] at this
   exact ⟨x, rfl, by rw [h2]; exact this.1, this.2⟩
end
section
theorem pf_sl {X : Cx} {a : Expr} {ml : ML} {lo hi : Option Expr} {l h : MO} {p2 pos : Pos} (ha : PB X a ml) (hl : POs X lo l) (hh : POs X hi h) : PF X (.Subscript a (.Slice lo hi none p2) pos) (mcut ml l h) := pf_cut ha hl hh (pe_slice sl_list ha hl hh)
end
section
def zipE (f : D -> D -> Option Bool) : List D -> List D -> Option Bool
 | d :: ds, e :: es => (f d e).bind fun a => (zipE f ds es).bind fun b => some (a && b)
 | _, _ => some true
def eqF : Nat -> D -> D -> Option Bool
 | 0, _, _ => none
 | n + 1, .lst ds, .lst es => if ds.length = es.length then zipE (eqF n) ds es else some false
 | n + 1, .tup ds, .tup es => (zipE (eqF n) ds es).map fun b => b && ds.length == es.length
 | _ + 1, d, e => eqS d e
theorem zipE_all {f : D -> D -> Option Bool} : ∀ {ds es : List D} {k : Bool}, zipE f ds es = some k -> ∃ g : Nat -> Bool, (∀ j d e, ds[j]? = some d -> es[j]? = some e -> f d e = some (g j)) /\ k = (List.range (min ds.length es.length)).all g
 | [], es, k, h => by
  have h : some true = some k := by simpa [zipE] using h
  cases h
  exact ⟨fun _ => true, by simp, by simp⟩
 | _ :: _, [], k, h => by
  have h : some true = some k := by simpa [zipE] using h
  cases h
  exact ⟨fun _ => true, by simp, by simp⟩
 | d :: ds, e :: es, k, h => by
  unfold zipE at h
  cases h1 : f d e with
  | none => rw [h1] at h; cases h
  | some a =>
   rw [h1] at h
   cases h2 : zipE f ds es with
   | none => rw [h2] at h; cases h
   | some b =>
    rw [h2] at h
    have h : some (a && b) = some k := h
    cases h
    obtain ⟨g, q1, q2⟩ := zipE_all h2
    refine ⟨fun j => match j with | 0 => a | j + 1 => g j, ?_, ?_⟩
    ·intro j d' e' hd he
     cases j with
     | zero => simp at hd he; subst hd he; exact h1
     | succ j => exact q1 j d' e' (by simpa using hd) (by simpa using he)
    ·rw [q2, length_cons, length_cons, Nat.add_min_add_right, range_succ_eq_map, all_cons, all_map]
     rfl
section
variable {X : Cx} {pins : List (Addr × Obj)} {σ : St} {H : Hp} {s : Shared}
theorem zipE_same {f : D -> D -> Option Bool} (hf : ∀ {v : V} {d e : D} {k : Bool}, Rep X.K H v d -> Rep X.K H v e -> f d e = some k -> k = true) : ∀ {vs : List V} {ds es : List D} {k : Bool}, Reps X.K H vs ds -> Reps X.K H vs es -> zipE f ds es = some k -> k = true
 | _, _, _, _, .nil, .nil, h => by simp [zipE] at h; exact h
 | _ :: _, d :: ds, e :: es, k, .cons r1 s1, .cons r2 s2, h => by
  unfold zipE at h
  cases h1 : f d e with
  | none => rw [h1] at h; cases h
  | some a =>
   rw [h1] at h
   cases h2 : zipE f ds es with
   | none => rw [h2] at h; cases h
   | some b =>
    rw [h2] at h
    have h : some (a && b) = some k := h
    cases h
    rw [hf r1 r2 h1, zipE_same hf s1 s2 h2]; rfl
theorem Rep.eqT (I : Inv X pins σ H s) : ∀ (n : Nat) {v : V} {d e : D} {k : Bool}, Rep X.K H v d -> Rep X.K H v e -> eqF n d e = some k -> k = true
 | 0, _, _, _, _, _, _, h => by simp [eqF] at h
 | n + 1, v, d, e, k, r1, r2, h => by
  cases r1 with
  | non => cases r2; simp [eqF, eqS] at h; exact h
  | bl b => cases r2; simp [eqF, eqS] at h; exact h
  | int b => cases r2; simp [eqF, eqS] at h; exact h
  | str b => cases r2; simp [eqF, eqS] at h; exact h
  | lst sq rs =>
   cases r2 with
   | lst sq2 rs2 =>
    have e := I.list_inj sq sq2
    subst e
    simp only [eqF] at h
    split at h
    ·exact zipE_same (fun a b c => Rep.eqT I n a b c) rs rs2 h
    ·rename_i hl; exact absurd (rs.length.symm.trans rs2.length) hl
   | _ => cases h
  | tup sq rs =>
   cases r2 with
   | tup sq2 rs2 =>
    have e := I.tuple_inj sq sq2
    subst e
    simp only [eqF] at h
    cases hz : zipE (eqF n) _ _ with
    | none => rw [hz] at h; cases h
    | some kk =>
     rw [hz] at h
     have h := Option.some.inj h
     rw [<- h, zipE_same (fun a b c => Rep.eqT I n a b c) rs rs2 hz, rs.length.symm.trans rs2.length]
     simp
   | _ => cases h
  | _ => cases h
open PySem.SeqAt in
theorem eqS_at {K : W.Frag} {H : Hp} {A : Around} {s : Shared} {x y : V} {v u : Value} {d e : D} {k : Bool} (r1 : Rep K H x d) (r2 : Rep K H y e) (q1 : RelV x v) (q2 : RelV y u) (h : eqS d e = some k) : EqAt A s v u k /\ RcAt A s v u k /\ RcNeAt A s v u (!k) := by
 obtain ⟨k', hk'⟩ := eqS_sym d e k h
 rw [eqS_l h r1] at q1
 rw [eqS_l hk' r2] at q2
 clear r1 r2 hk'
 cases d with
 | non =>
  cases q1
  cases e with
  | non => cases q2; cases h; exact ⟨EqAt.same _, .none_none, .none_none⟩
  | bl b => cases q2; cases h; exact ⟨.none_bool _, .none_bool _, .none_bool _⟩
  | int b => obtain ⟨t, rfl⟩ := q2; cases h; exact ⟨.none_int _ _, .none_int _ _, .none_int _ _⟩
  | str b => obtain ⟨t, rfl⟩ := q2; cases h; exact ⟨.none_str _ _, .none_str _ _, .none_str _ _⟩
  | _ => cases h
 | bl i =>
  cases q1
  cases e with
  | non => cases q2; cases h; exact ⟨.bool_none _, .bool_none _, .bool_none _⟩
  | bl b => cases q2; cases h; exact ⟨.bool_bool _ _, .bool_bool _ _, .bool_bool _ _⟩
  | str b => obtain ⟨t, rfl⟩ := q2; cases h; exact ⟨.bool_str _ _ _, .bool_str _ _ _, .bool_str _ _ _⟩
  | _ => cases h
 | int i =>
  obtain ⟨t0, rfl⟩ := q1
  cases e with
  | non => cases q2; cases h; exact ⟨.int_none _ _, .int_none _ _, .int_none _ _⟩
  | int b => obtain ⟨t, rfl⟩ := q2; cases h; exact ⟨.int_int _ _ _ _, .int_int _ _ _ _, .int_int _ _ _ _⟩
  | str b => obtain ⟨t, rfl⟩ := q2; cases h; exact ⟨.int_str _ _ _ _, .int_str _ _ _ _, .int_str _ _ _ _⟩
  | _ => cases h
 | str i =>
  obtain ⟨t0, rfl⟩ := q1
  cases e with
  | non => cases q2; cases h; exact ⟨.str_none _ _, .str_none _ _, .str_none _ _⟩
  | bl b => cases q2; cases h; exact ⟨.str_bool _ _ _, .str_bool _ _ _, .str_bool _ _ _⟩
  | int b => obtain ⟨t, rfl⟩ := q2; cases h; exact ⟨.str_int _ _ _ _, .str_int _ _ _ _, .str_int _ _ _ _⟩
  | str b => obtain ⟨t, rfl⟩ := q2; cases h; exact ⟨.str_str _ _ _ _, .str_str _ _ _ _, .str_str _ _ _ _⟩
  | _ => cases h
 | _ => cases h
theorem eqF_inv {n : Nat} {d e : D} {k : Bool} (h : eqF (n + 1) d e = some k) : eqS d e = some k \/ (∃ ds es, d = .lst ds /\ e = .lst es /\ (if ds.length = es.length then zipE (eqF n) ds es else some false) = some k) \/ ∃ ds es kk, d = .tup ds /\ e = .tup es /\ zipE (eqF n) ds es = some kk /\ (kk && ds.length == es.length) = k := by
 cases d with
 | lst ds =>
  cases e with
  | lst es => exact .inr (.inl ⟨ds, es, rfl, rfl, h⟩)
  | _ => exact .inl h
 | tup ds =>
  cases e with
  | tup es =>
   have h : ((zipE (eqF n) ds es).map fun b => b && ds.length == es.length) = some k := h
   cases hz : zipE (eqF n) ds es with
   | none => rw [hz] at h; cases h
   | some kk => rw [hz] at h; exact .inr (.inr ⟨ds, es, kk, rfl, rfl, hz, Option.some.inj h⟩)
  | _ => exact .inl h
 | _ => exact .inl h
theorem items_at {K : W.Frag} {H : Hp} {A : Around} {s : Shared} {n : Nat} {xs ys : List V} {ds es : List D} {its its2 : List Value} {g : Nat -> Bool} (ih : ∀ {x y : V} {v u : Value} {d e : D} {k : Bool}, Rep K H x d -> Rep K H y e -> RelV x v -> RelV y u -> eqF n d e = some k -> PySem.SeqAt.EqAt A s v u k) (rs : Reps K H xs ds) (rs2 : Reps K H ys es) (vr : Vals xs its) (vr2 : Vals ys its2)
  (g1 : ∀ (j : Nat) d e, ds[j]? = some d -> es[j]? = some e -> eqF n d e = some (g j)) (j : Nat) (h1 : j < its.toArray.size) (h2 : j < its2.toArray.size) : PySem.SeqAt.EqAt A s its.toArray[j] its2.toArray[j] (g j) := by
 have z1 : its.length = ds.length := by rw [<- vr.length, rs.length]
 have z2 : its2.length = es.length := by rw [<- vr2.length, rs2.length]
 simp only [size_toArray] at h1 h2
 obtain ⟨d', hd'⟩ : ∃ d', ds[j]? = some d' := ⟨_, getElem?_eq_getElem (z1 ▸ h1)⟩
 obtain ⟨e', he'⟩ : ∃ e', es[j]? = some e' := ⟨_, getElem?_eq_getElem (z2 ▸ h2)⟩
 obtain ⟨v', hv', rv'⟩ := rs.get hd'
 obtain ⟨u', hu', ru'⟩ := rs2.get he'
 obtain ⟨p, hp, rp⟩ := vr.get hv'
 obtain ⟨p2, hp2, rp2⟩ := vr2.get hu'
 have e1 : its.toArray[j] = p := by
  rw [getElem?_eq_getElem h1] at hp
  simpa using hp
 have e2 : its2.toArray[j] = p2 := by
  rw [getElem?_eq_getElem h2] at hp2
  simpa using hp2
 rw [e1, e2]
 exact ih rv' ru' rp rp2 (g1 j d' e' hd' he')
open PySem.SeqAt in
theorem eq_at (I : Inv X pins σ H s) : ∀ (n : Nat) {A : Around} {x y : V} {v u : Value} {d e : D} {k : Bool}, A.units + n < cLine -> Rep X.K H x d -> Rep X.K H y e -> RelV x v -> RelV y u -> eqF n d e = some k -> EqAt A s v u k /\ RcAt A s v u k /\ RcNeAt A s v u (!k)
 | 0, A, x, y, v, u, d, e, k, hu, r1, r2, q1, q2, h => by simp [eqF] at h
 | n + 1, A, x, y, v, u, d, e, k, hu, r1, r2, q1, q2, h => by
  have hu0 : A.units < cLine := by omega
  have hu1 : A.in1.units + n < cLine := by show A.units + 1 + n < cLine; omega
  rcases eqF_inv h with h1 | ⟨ds, es, rfl, rfl, h1⟩ | ⟨ds, es, kk, rfl, rfl, hz, hk⟩
  ·exact eqS_at r1 r2 q1 q2 h1
  ·obtain ⟨a, xs, rfl, sq, rs⟩ := r1.l'
   obtain ⟨b, ys, rfl, sq2, rs2⟩ := r2.l'
   cases q1; cases q2
   obtain ⟨its, vr, ⟨o, m, ho, hc, _, hd⟩, _⟩ := I.list sq
   obtain ⟨its2, vr2, ⟨o2, m2, ho2, hc2, _, hd2⟩, _⟩ := I.list sq2
   have L1 : s.heap.IsList a its.toArray := ⟨o, ho, hc, m, hd⟩
   have L2 : s.heap.IsList b its2.toArray := ⟨o2, ho2, hc2, m2, hd2⟩
   clear ho hc hd ho2 hc2 hd2
   have z1 : its.length = ds.length := by rw [<- vr.length, rs.length]
   have z2 : its2.length = es.length := by rw [<- vr2.length, rs2.length]
   have main : RcAt A s (.ref a) (.ref b) k /\ RcNeAt A s (.ref a) (.ref b) (!k) := by
    by_cases hl : ds.length = es.length
    ·rw [if_pos hl] at h1
     obtain ⟨g, g1, g2⟩ := zipE_all h1
     have he := items_at (fun a b c d e => (eq_at I n hu1 a b c d e).1) rs rs2 vr vr2 g1
     have hz : its.toArray.size = its2.toArray.size := by simp only [size_toArray]; rw [z1, z2, hl]
     have hk : k = (List.range its.toArray.size).all g := by
      rw [g2]; simp only [size_toArray]; rw [z1, hl, Nat.min_self]
     rw [hk]
     exact ⟨.lists L1 L2 hz hu0 he, .lists L1 L2 hz hu0 he⟩
    ·rw [if_neg hl] at h1
     cases h1
     have hz : (its.toArray.size != its2.toArray.size) = true := by simp only [size_toArray]; rw [z1, z2]; exact bne_iff_ne.mpr hl
     exact ⟨.lists_lengths L1 L2 hz hu0, .lists_lengths L1 L2 hz hu0⟩
   refine ⟨?_, main⟩
   by_cases hab : a = b
   ·subst hab
    rw [Rep.eqT I (n + 1) (.lst sq rs) (.lst sq2 rs2) h]
    exact EqAt.same _
   ·exact .of_refs hab main.1
  ·obtain ⟨a, xs, rfl, sq, rs⟩ := r1.t'
   obtain ⟨b, ys, rfl, sq2, rs2⟩ := r2.t'
   cases q1; cases q2
   obtain ⟨its, vr, ⟨o, ho, hc, m, hd⟩, _⟩ := I.tuple sq
   obtain ⟨its2, vr2, ⟨o2, ho2, hc2, m2, hd2⟩, _⟩ := I.tuple sq2
   have L1 : s.heap.IsTuple a its.toArray := ⟨o, ho, hc, m, hd⟩
   have L2 : s.heap.IsTuple b its2.toArray := ⟨o2, ho2, hc2, m2, hd2⟩
   clear ho hc hd ho2 hc2 hd2
   have z1 : its.length = ds.length := by rw [<- vr.length, rs.length]
   have z2 : its2.length = es.length := by rw [<- vr2.length, rs2.length]
   have main : RcAt A s (.ref a) (.ref b) k /\ RcNeAt A s (.ref a) (.ref b) (!k) := by
    obtain ⟨g, g1, g2⟩ := zipE_all hz
    have he := items_at (fun a b c d e => (eq_at I n hu1 a b c d e).1) rs rs2 vr vr2 g1
    have hk : k = ((List.range (min its.toArray.size its2.toArray.size)).all g && its.toArray.size == its2.toArray.size) := by
     rw [<- hk, g2]; simp only [size_toArray]; rw [z1, z2]
    rw [hk]
    exact ⟨.tuples L1 L2 hu0 he, .tuples L1 L2 hu0 he⟩
   refine ⟨?_, main⟩
   by_cases hab : a = b
   ·subst hab
    rw [Rep.eqT I (n + 1) (.tup sq rs) (.tup sq2 rs2) h]
    exact EqAt.same _
   ·exact .of_refs hab main.1
end
end
section
section
variable {X : Cx} {a b c e : Expr} {ma mb : ME} {la lb : ML} {pos : Pos}
def rEqF (K : W.Frag) (neg : Bool) : R2 := fun x y H Q => ∃ d e k, Rep K H x d /\ Rep K H y e /\ eqF 8 d e = some k /\ Q (.bl (if neg then !k else k)) H
theorem op_eqF (hu : X.A.units + 64 < cLine) : OpR X (compareOp .Eq) (rEqF X.K false) := by
 intro pins s σ H x y v u Q I rx ry h
 obtain ⟨d, e, k, r1, r2, h, q⟩ := h
 exact (eq_at I 8 (by omega) r1 r2 rx ry h).2.1 X.prog X.w _ _ ⟨.bl k, H, I, rfl, q⟩
theorem op_neF (hu : X.A.units + 64 < cLine) : OpR X (compareOp .NotEq) (rEqF X.K true) := by
 intro pins s σ H x y v u Q I rx ry h
 obtain ⟨d, e, k, r1, r2, h, q⟩ := h
 exact (eq_at I 8 (by omega) r1 r2 rx ry h).2.2 X.prog X.w _ _ ⟨.bl (!k), H, I, rfl, q⟩
def eqFD (neg : Bool) (d e : D) : Option D := (eqF 8 d e).map fun k => .bl (if neg then !k else k)
theorem opd_eqF {K : W.Frag} {neg : Bool} : OpD K (rEqF K neg) (eqFD neg) := by
 intro F H x y d e w Q s r1 r2 h q
 unfold eqFD at h
 cases hk : eqF 8 d e with
 | none => rw [hk] at h; cases h
 | some k =>
  rw [hk] at h; cases h
  exact ⟨d, e, k, r1.mono s, r2.mono s, hk, q _ F H (.refl s) (.bl _)⟩
@[irreducible] def meqB (neg : Bool) (x y : ML) : ME := fun ρ => (x ρ).bind fun ds => (y ρ).bind fun es => eqFD neg (.lst ds) (.lst es)
theorem eqB_d {neg : Bool} {σ : St} {H : Hp} {Q : VK} (h : TD X.K (meqB neg la lb) σ H Q) : tOp (rEqF X.K neg) (TB X.K la) (TB X.K lb) σ H Q := by
 obtain ⟨F0, H0, F, ρ, g, rl, e, q⟩ := h
 unfold meqB at e
 cases h1 : la ρ with
 | none => rw [h1] at e; cases e
 | some ds =>
  cases h2 : lb ρ with
  | none => rw [h1, h2] at e; cases e
  | some es =>
   rw [h1, h2] at e
   have e : eqFD neg (.lst ds) (.lst es) = some g := e
   refine ⟨F0, H0, F, ρ, ds, rl, h1, fun p xs F1 H1 x1 s1 r1 => ⟨F0, H0, F1, ρ, es, rl.go x1, h2, fun p2 xs2 F2 H2 x2 s2 r2 => ?_⟩⟩
   unfold eqFD at e
   cases hk : eqF 8 (.lst ds) (.lst es) with
   | none => rw [hk] at e; cases e
   | some k =>
    rw [hk] at e; cases e
    exact ⟨_, _, k, .lst (x2.hh.seq s1) (r1.mono (x2.ff.trans x2.fh)), .lst s2 (r2.mono x2.fh), hk, q _ F2 H2 (x1.trans x2) (.bl _)⟩
theorem pd_eqB {op : CmpOp} {neg : Bool} (ho : OpR X (compareOp op) (rEqF X.K neg)) (ha : PB X a la) (hb : PB X b lb) (hm : behindInMarks op b = false) : PD X (.Compare a [op] [b] pos) (meqB neg la lb) := (pe_cmpR ho ha hb hm).imp fun _ _ _ h => eqB_d h
theorem pc_eqB {op : CmpOp} {neg : Bool} (ho : OpR X (compareOp op) (rEqF X.K neg)) (ha : PB X a la) (hb : PB X b lb) (hm : behindInMarks op b = false) : PC' X (.Compare a [op] [b] pos) (mtest (meqB neg la lb)) := (pt_cmpR ho ha hb hm).imp fun σ H Q hpat => by
 obtain ⟨F0, H0, F, ρ, g, rl, e, q⟩ := hpat
 unfold mtest at e
 split at e
 ·rename_i k hk
  cases e
  refine eqB_d ⟨F0, H0, F, ρ, .bl g, rl, hk, fun v F' H' x r => ?_⟩
  cases r
  exact ⟨_, rfl, q F' H' x⟩
 ·cases e
def tyD : D -> String
 | .non => "NoneType" | .bl _ => "bool" | .int _ => "int" | .str _ => "str" | .lst _ => "list" | .tup _ => "tuple" | .exc _ => "?" | .ptr _ => "?" | .obj _ _ _ => "?"
def kitB (t c : String) : Option Bool := if t = "?" then none else if (Value.type t == Value.type c) = true then some true else if W.kitMeta c = true then (fastBuiltinMro t).map (·.contains (Value.type c)) else none
theorem kit_ty {K : W.Frag} {t c : String} {k : Bool} (h : kitB t c = some k) : t ≠ "?" /\ W.kitOne K (.type t) (.type c) = some k := by
 unfold kitB at h
 split at h
 ·cases h
 ·rename_i z; exact ⟨z, h⟩
theorem isi_rep {pins : List (Addr × Obj)} {σ : St} {H : Hp} {s : Shared} {A : Around} {E : Value -> Shared -> Prop} {Q : Value -> Shared -> Prop} {c : Value} {k : Bool} {x : V} {d : D} {u : Value} (I : Inv X pins σ H s) (rx : RelV x u) (r : Rep X.K H x d)
  (e : tyD d ≠ "?" /\ W.kitOne X.K (.type (tyD d)) c = some k) (h : ∀ tk, Q (.bool k) { s with toks := tk }) : wpAny (model X.prog X.w) A (call (.builtin "isinstance") [u, c]) Q E s := by
 obtain ⟨hz, e⟩ := e
 cases r with
 | exc _ _ => exact absurd rfl hz
 | ptr _ => exact absurd rfl hz
 | obj _ _ _ _ _ => exact absurd rfl hz
 | non => exact isinst_ok I rx .non e h
 | bl y => exact isinst_ok I rx (.bl y) e h
 | int i => exact isinst_ok I rx (.int i) e h
 | str y => exact isinst_ok I rx (.str y) e h
 | lst sq rs =>
  cases rx
  obtain ⟨its, vr, ⟨o, m, ho, hc, _, hd⟩, _⟩ := I.list sq
  exact W.kia_one W.kitx_list I.kIn ⟨_, ho, hc⟩ e (fun z => nomatch z) h
 | tup sq rs =>
  cases rx
  obtain ⟨its, vr, ⟨o, ho, hc, m, hd⟩, _⟩ := I.tuple sq
  exact W.kia_one W.kitx_tuple I.kIn ⟨_, ho, hc⟩ e (fun z => nomatch z) h
def rIsi (K : W.Frag) (c : String) : List V -> Hp -> VK -> Prop := fun vs H Q => ∃ x d k, vs = [x, .ty c] /\ Rep K H x d /\ kitB (tyD d) c = some k /\ Q (.bl k) H
theorem call_isi {c : String} : CallR X (.builtin "isinstance") (rIsi X.K c) := by
 intro pins s σ H xs us Q I r h
 obtain ⟨x, d, k, rfl, rd, e, q⟩ := h
 obtain ⟨u, w, rfl, rx, ry⟩ := vals2 r
 cases ry
 exact isi_rep I rx rd (kit_ty e) fun tk => ⟨.bl k, H, I.tok _, rfl, q⟩
@[irreducible] def misi (c : String) (m : ME) : ME := fun ρ => (m ρ).bind fun d => (kitB (tyD d) c).map .bl
theorem pd_isi {c : Str} {C : String} {p p2 : Pos} (hg : Gl X "isinstance") (hm : X.mg "isinstance" = none) (hgc : Gl X c) (hmc : X.mg c = none) (hv : bootBuiltins c = some (.type C)) (ha : PD X a ma)
  (hn : c ≠ "__name__" := by decide) (hd : (c == ("__debug__" : Str)) = false := by decide)
  (hs : starEach (a :: [.Name c p2]) X.env = (false, eval a X.env) :: starEach [.Name c p2] X.env := by rfl) (hs2 : starEach [.Name c p2] X.env = (false, eval (.Name c p2) X.env) :: starEach [] X.env := by rfl)
  (hpl : (backTo pos (starEach [.Name c p2] X.env)).any (·.1) = false := by rfl) : PD X (.Call (.Name "isinstance" p) [a, .Name c p2] [] pos) (misi C ma) :=
 (pe_callB (call_isi (c := C)) hg hm PyProof.Rows.boot_isinstance (pa_cons ha (pa_cons (pe_bltn (v := .ty C) hgc hmc hv rfl hn hd) pa_nil hs2) hs) (by decide) (by decide) hs hpl).imp fun σ H Q hpat => by
  obtain ⟨F0, H0, F, ρ, g, rl, e, q⟩ := hpat
  unfold misi at e
  cases h1 : ma ρ with
  | none => rw [h1] at e; cases e
  | some d =>
   rw [h1] at e
   have e : (kitB (tyD d) C).map D.bl = some g := e
   cases h2 : kitB (tyD d) C with
   | none => rw [h2] at e; cases e
   | some k =>
    rw [h2] at e; cases e
    exact ⟨F0, H0, F, ρ, d, rl, h1, fun v F1 H1 x1 r1 => ⟨v, d, k, rfl, r1.mono x1.fh, h2, q _ F1 H1 x1 (.bl _)⟩⟩
end
end
section
section
variable {X : Cx} {a b c e k : Expr} {te : TE} {ma mb : ME} {la lb : ML} {pos p2 : Pos} {st : Stmt}
end
end
section
section
variable {X : Cx} {a b c e : Expr} {ma mb : ME} {la lb : ML} {pos : Pos} {st : Stmt}
end
end
section
section
variable {K : W.Frag} {F0 H0 F H : Hp} {σ : St} {ρ : Ro}
theorem Rl.freezeP (r : Rl K F0 H0 F H σ ρ) {i : Nat} {ds : List D} (h : ρ[i]? = some (some (.own ds))) : ∃ p xs, F p = none /\ Rl K F0 H0 (upd F p (.lst xs)) H σ (ρ.set i (some (.sh (.lst ds)))) := by
 obtain ⟨p, xs, a, b, c, d, z⟩ := r.own i ds h
 have hl : i < ρ.length := (List.getElem?_eq_some_iff.mp h).1
 have e : Ext F0 H0 (upd F p (.lst xs)) H := r.ext.freeze b z c
 have ff : Same F (upd F p (.lst xs)) := (Same.refl F).put b
 refine ⟨p, xs, b, ⟨e, by simp [r.len], fun j d' q => ?_, fun j es q => ?_, fun j k q es es' hjk e1 e2 e3 e4 => ?_, fun j q es e1 => ?_, fun j k q es es' e1 e2 e3 => ?_, fun j k q q' es es' e1 e2 => r.ob1 j k q q' es es' (set_ob e1).2 (set_ob e2).2⟩⟩
 ·by_cases hj : i = j
  ·subst hj
   rw [getElem?_set_self hl] at q
   cases q
   exact ⟨_, a, .lst (SqL.of upd_same) (d.mono ff)⟩
  ·rw [getElem?_set_ne hj] at q
   obtain ⟨v, v1, v2⟩ := r.sh j d' q
   exact ⟨v, v1, v2.mono ff⟩
 ·by_cases hj : i = j
  ·subst hj
   rw [getElem?_set_self hl] at q
   cases q
  ·rw [getElem?_set_ne hj] at q
   obtain ⟨p', xs', a', b', c', d', z'⟩ := r.own j es q
   have hp : p' ≠ p := fun w => r.inj i j p ds es hj h q a (by rw [<- w]; exact a')
   exact ⟨p', xs', a', by rw [upd_ne hp]; exact b', c', d'.mono ff, z'⟩
 ·have n1 : i ≠ j := fun w => by subst w; rw [getElem?_set_self hl] at e1; cases e1
  have n2 : i ≠ k := fun w => by subst w; rw [getElem?_set_self hl] at e2; cases e2
  rw [getElem?_set_ne n1] at e1
  rw [getElem?_set_ne n2] at e2
  exact r.inj j k q es es' hjk e1 e2 e3 e4
 ·obtain ⟨n, e1⟩ := set_ob e1
  obtain ⟨o1, o2, o3, zs, o4, o5⟩ := r.ob j q es e1
  have hp : q ≠ p := fun w => r.obn j i q es ds e1 h (by rw [w]; exact a)
  exact ⟨o1, by rw [upd_ne hp]; exact o2, o3, zs, o4, o5.mono ff⟩
 ·obtain ⟨n, e1⟩ := set_ob e1
  have n2 : i ≠ k := fun w => by subst w; rw [getElem?_set_self hl] at e2; cases e2
  rw [getElem?_set_ne n2] at e2
  exact r.obn j k q es es' e1 e2 e3
end
def isSc : D -> Bool
 | .lst _ => false
 | .tup _ => false
 | .exc _ => false
 | .ptr _ => false
 | .obj _ _ _ => false
 | _ => true
theorem sc_rep {K : W.Frag} {F G : Hp} {v : V} {d : D} (h : isSc d = true) (r : Rep K F v d) : Rep K G v d := by
 cases r with
 | non => exact .non
 | bl b => exact .bl b
 | int i => exact .int i
 | str x => exact .str x
 | lst _ _ => cases h
 | tup _ _ => cases h
 | exc _ _ => cases h
 | ptr _ => cases h
 | obj _ _ _ _ _ => cases h
end
section
section
variable {X : Cx} {a b c e : Expr} {ma mb mz : ME} {la lb : ML} {pos : Pos}
def ixTD : D -> D -> Option D
 | .tup ds, .int k => atI ds k
 | _, _ => none
theorem opd_ixT {K : W.Frag} : OpD K (rIxT K) ixTD := by
 intro F H x y d e w Q s r1 r2 h q
 cases d with
 | tup ds =>
  cases e with
  | int k =>
   obtain ⟨a, xs, e1, sq, rs⟩ := r1.t'
   obtain ⟨v, h3, h4⟩ := atI_reps rs (show atI _ k = some w from h)
   exact ⟨_, _, k, v, e1, r2.i', s.seqT sq, h3, q v F H (.refl s) h4⟩
  | _ => cases h
 | _ => cases h
theorem pd_ixT (ha : PD X a ma) (hb : PD X b mb) (hs : PlainIx b := by exact fun _ _ => rfl) : PD X (.Subscript a b pos) (m2 ixTD ma mb) := (pe_ix ix_tup ha hb hs).imp fun σ H Q h => op_d opd_ixT h
def flV : D -> Option V
 | .non => some .non | .bl b => some (.bl b) | .int i => some (.int i) | .str x => some (.str x)
 | _ => none
def flVs : List D -> Option (List V)
 | [] => some []
 | d :: r => match flV d with | some v => (match flVs r with | some vs => some (v :: vs) | none => none) | none => none
theorem flV_rep {K : W.Frag} {F : Hp} {v u : V} {d : D} (r : Rep K F v d) (h : flV d = some u) : v = u /\ flatV u = true := by
 cases r <;> cases h <;> exact ⟨rfl, rfl⟩
theorem flVs_reps {K : W.Frag} {F : Hp} : ∀ {vs us : List V} {ds : List D}, Reps K F vs ds -> flVs ds = some us -> vs = us /\ us.all flatV = true
 | _, _, _, .nil, h => by cases h; exact ⟨rfl, rfl⟩
 | _, _, _, .cons (d := d) (ds := ds) r t, h => by
  unfold flVs at h
  cases h1 : flV d with
  | none => rw [h1] at h; cases h
  | some u =>
   cases h2 : flVs ds with
   | none => rw [h1, h2] at h; cases h
   | some us =>
    rw [h1, h2] at h; cases h
    obtain ⟨a1, a2⟩ := flV_rep r h1
    obtain ⟨b1, b2⟩ := flVs_reps t h2
    subst a1 b1
    exact ⟨rfl, by rw [all_cons, a2, b2]; rfl⟩
def inDs (neg : Bool) (d : D) (ds : List D) : Option D := match flV d, flVs ds with
 | some v, some vs => some (.bl (if neg then !inV v vs else inV v vs))
 | _, _ => none
def inD (neg : Bool) : D -> D -> Option D
 | d, .lst ds => inDs neg d ds
 | d, .tup ds => inDs neg d ds
 | _, _ => none
theorem inDs_some {neg : Bool} {d w : D} {ds : List D} (h : inDs neg d ds = some w) : ∃ v vs, flV d = some v /\ flVs ds = some vs /\ w = .bl (if neg then !inV v vs else inV v vs) := by
 unfold inDs at h
 split at h
 ·rename_i v vs h1 h2; cases h; exact ⟨v, vs, h1, h2, rfl⟩
 ·cases h
theorem opd_in {K : W.Frag} {neg : Bool} : OpD K (rIn K neg) (inD neg) := by
 intro F H x y d e w Q s r1 r2 h q
 cases r2 with
 | lst sq rs =>
  obtain ⟨v, vs, h1, h2, rfl⟩ := inDs_some (show inDs neg d _ = some w from h)
  obtain ⟨a1, a2⟩ := flV_rep r1 h1
  obtain ⟨b1, b2⟩ := flVs_reps rs h2
  subst a1 b1
  exact ⟨_, _, rfl, .inl (s.seq sq), a2, b2, q _ F H (.refl s) (.bl _)⟩
 | tup sq rs =>
  obtain ⟨v, vs, h1, h2, rfl⟩ := inDs_some (show inDs neg d _ = some w from h)
  obtain ⟨a1, a2⟩ := flV_rep r1 h1
  obtain ⟨b1, b2⟩ := flVs_reps rs h2
  subst a1 b1
  exact ⟨_, _, rfl, .inr (s.seqT sq), a2, b2, q _ F H (.refl s) (.bl _)⟩
 | _ => cases d <;> cases h
def minI : List Int -> Int
 | [] => 0
 | a :: r => r.foldl (fun x y => if y < x then y else x) a
theorem foldMin : ∀ (r : List Int) (a : Int), (r.foldl (fun x y => if y < x then y else x) a ∈ a :: r) /\ ∀ y ∈ a :: r, r.foldl (fun x y => if y < x then y else x) a <= y
 | [], a => ⟨by simp, fun y hy => by simp at hy; subst hy; exact Int.le_refl _⟩
 | b :: r, a => by
  obtain ⟨h1, h2⟩ := foldMin r (if b < a then b else a)
  rw [foldl_cons]
  refine ⟨?_, fun y hy => ?_⟩
  ·rcases List.mem_cons.mp h1 with h | h
   ·rw [h]; split <;> simp
   ·exact mem_cons_of_mem _ (mem_cons_of_mem _ h)
  ·have h0 := h2 _ mem_cons_self
   rcases List.mem_cons.mp hy with h | h
   ·subst h; refine Int.le_trans h0 ?_; split <;> omega
   ·rcases List.mem_cons.mp h with h | h
    ·subst h; refine Int.le_trans h0 ?_; split <;> omega
    ·exact h2 y (mem_cons_of_mem _ h)
theorem minI_mem {ns : List Int} (h : ns ≠ []) : minI ns ∈ ns := by
 cases ns with
 | nil => exact absurd rfl h
 | cons a r => exact (foldMin r a).1
theorem minI_le {ns : List Int} {y : Int} (h : y ∈ ns) : minI ns <= y := by
 cases ns with
 | nil => cases h
 | cons a r => exact (foldMin r a).2 y h
theorem vals_intItems : ∀ {ns : List Int} {its : List Value}, Vals (ns.map V.int) its -> ∃ xs : List (Int × Tok), its.toArray = intItems xs.toArray /\ xs.map (·.1) = ns
 | [], _, .nil => ⟨[], by unfold intItems; simp, rfl⟩
 | n :: ns, _, .cons r t => by
  obtain ⟨k, rfl⟩ := r
  obtain ⟨xs, h1, h2⟩ := vals_intItems t
  refine ⟨(n, k) :: xs, ?_, by rw [map_cons, h2]⟩
  have := congrArg Array.toList h1
  unfold intItems at this ⊢
  simp at this ⊢
  exact this
theorem numAt_get (xs : List (Int × Tok)) {i : Nat} (h : i < xs.length) : numAt xs.toArray i = (xs[i]).1 := by
 unfold numAt
 simp [h]
def rMinL (K : W.Frag) : List V -> Hp -> VK -> Prop := fun vs H Q => ∃ p ns, vs = [.ref p] /\ SqL K H p (ns.map V.int) /\ ns ≠ [] /\ Q (.int (minI ns)) H
theorem call_minL (hc : X.calm = true) : CallR X (.builtin "min") (rMinL X.K) := by
 intro pins s σ H xs us Q I r h
 obtain ⟨p, ns, rfl, sq, hne, q⟩ := h
 obtain ⟨u, rfl, rx⟩ := vals1 r
 cases rx
 obtain ⟨its, vr, pl, hz⟩ := I.list sq
 obtain ⟨ts, h1, h2⟩ := vals_intItems vr
 have hp := pl.isList
 rw [h1] at hp
 have hlen : 0 < ts.length := by
  cases ts with
  | nil => simp at h2; exact absurd h2.symm (by simpa using hne)
  | cons _ _ => simp
 refine min_intList (I.ok.hd hc) hp (by simpa using hlen) fun v h' tk e k => ?_
 obtain ⟨b1, b2⟩ := argBest_lt (numAt ts.toArray) (ts.toArray.size - 1)
 rw [size_toArray] at b1 b2 e
 generalize hi : argBest (fun i j => decide (numAt ts.toArray i < numAt ts.toArray j)) (ts.length - 1) = i at b1 b2 e
 have hil : i < ts.length := by omega
 have hv : v = Value.int (ts[i]).1 (ts[i]).2 := by
  unfold intItems at e
  simp [hil] at e
  exact e.symm
 have hm : (ts[i]).1 = minI ns := by
  have m1 : (ts[i]).1 ∈ ns := by rw [<- h2]; exact mem_map_of_mem (getElem_mem hil)
  refine Int.le_antisymm ?_ (minI_le m1)
  have m2 := minI_mem hne
  rw [<- h2] at m2
  obtain ⟨t, ht, e2⟩ := List.mem_map.mp m2
  obtain ⟨j, hj, e3⟩ := getElem_of_mem ht
  have := b2 j (by omega)
  rw [numAt_get ts hj, numAt_get ts hil, e3, e2, h2] at this
  exact this
 subst hv
 exact ⟨.int (minI ns), H, I.kept k, ⟨_, by rw [hm]⟩, q⟩
def intsD : List D -> Option (List Int)
 | [] => some []
 | .int i :: r => match intsD r with | some ns => some (i :: ns) | none => none
 | _ => none
theorem intsD_reps {K : W.Frag} {F : Hp} : ∀ {vs : List V} {ds : List D} {ns : List Int}, Reps K F vs ds -> intsD ds = some ns -> vs = ns.map V.int
 | _, _, _, .nil, h => by cases h; rfl
 | _, _, _, .cons (d := d) (ds := ds) r t, h => by
  cases r with
  | int i =>
   unfold intsD at h
   cases h1 : intsD ds with
   | none => simp only [h1] at h; cases h
   | some ns => simp only [h1] at h; cases h; rw [intsD_reps t h1]; rfl
  | _ => cases h
theorem intsD_map : ∀ ns : List Int, intsD (ns.map D.int) = some ns
 | [] => rfl
 | n :: ns => by show (match intsD (ns.map D.int) with | some ns => some (n :: ns) | none => none) = _; rw [intsD_map ns]
@[irreducible] def mminL (m : ML) : ME := fun ρ => match m ρ with | some ds => (match intsD ds with | some (n :: ns) => some (.int (minI (n :: ns))) | _ => none) | none => none
theorem pd_minL {p : Pos} {m : ML} (hc : X.calm = true) (hg : Gl X "min") (hm : X.mg "min" = none) (ha : PB X e m) (hs : starEach (e :: []) X.env = (false, eval e X.env) :: starEach [] X.env := by rfl) (he : starEach [e] X.env = (false, eval e X.env) :: starEach [] X.env := by rfl) (hpl : (backTo pos (starEach [] X.env)).any (·.1) = false := by rfl) : PD X (.Call (.Name "min" p) [e] [] pos) (mminL m) :=
 (pe_callB (call_minL hc) hg hm PyProof.Rows.boot_min (pa_cons ha pa_nil hs) (by decide) (by decide) he hpl).imp fun σ H Q hpat => by
  obtain ⟨F0, H0, F, ρ, g, rl, e, q⟩ := hpat
  unfold mminL at e
  cases h1 : m ρ with
  | none => rw [h1] at e; cases e
  | some ds =>
   rw [h1] at e
   cases h2 : intsD ds with
   | none => simp only [h2] at e; cases e
   | some ns =>
    cases ns with
    | nil => simp only [h2] at e; cases e
    | cons n ns =>
     simp only [h2] at e; cases e
     refine ⟨F0, H0, F, ρ, ds, rl, h1, fun p xs F1 H1 x1 s1 r1 => ⟨p, n :: ns, rfl, ?_, by simp, q _ F1 H1 x1 (.int _)⟩⟩
     rw [<- intsD_reps r1 h2]; exact s1
def tabVs : List (Str × Str) -> List DictEntry -> Prop
 | [], [] => True
 | (k, v) :: r, e :: es => (∃ t, e.key = .str k t) /\ (∃ t, e.val = .str v t) /\ tabVs r es
 | _, _ => False
structure KTab (w : World) (K : W.Frag) (a : Addr) (tab : List (Str × Str)) : Prop where
 ns : (a == sysModules) = false
 nd : (tab.map (·.1)).Nodup
 obj : ∃ es ep, K.lookup a = some ⟨.type "dict", none, .dict es ep, #[]⟩ /\ tabVs tab es.toList /\ ∀ e ∈ es.toList, ∀ k t, e.key = .str k t -> e.hash = hashStr w k
theorem tab_pairs {P : Program} {w : World} : ∀ {tab : List (Str × Str)} {es : List DictEntry}, tabVs tab es -> ∃ kvs : List (Key × Value), Pairs (mixKind P w) es kvs /\ kvs.map (·.1) = tab.map (fun p => Sum.inr p.1) /\ ∀ k, (∀ v, tab.lookup k = some v -> ∃ t, valueAt kvs (Sum.inr k) = some (.str v t)) /\ (tab.lookup k = none -> valueAt kvs (Sum.inr k) = none)
 | [], [], _ => ⟨[], .nil, rfl, fun k => ⟨fun v h => by simp at h, fun _ => rfl⟩⟩
 | [], _ :: _, h => h.elim
 | _ :: _, [], h => h.elim
 | (k, v) :: r, e :: es, ⟨⟨t1, h1⟩, ⟨t2, h2⟩, h3⟩ => by
  obtain ⟨kvs, a1, a2, a3⟩ := tab_pairs (P := P) (w := w) h3
  refine ⟨(Sum.inr k, .str v t2) :: kvs, .cons (by rw [h1]; exact keyIs_str k t1) h2 a1, by rw [map_cons, map_cons, a2], fun k' => ?_⟩
  unfold valueAt
  by_cases hk : k' = k
  ·subst hk
   refine ⟨fun v' h => ?_, fun h => ?_⟩
   ·rw [lookup_cons_self] at h; cases h
    exact ⟨t2, by simp⟩
   ·rw [lookup_cons_self] at h; cases h
  ·have hb : (k' == k) = false := by simpa using hk
   have hb2 : ¬ ((Sum.inr k : Key) = Sum.inr k') := fun z => hk (Sum.inr.inj z).symm
   obtain ⟨c1, c2⟩ := a3 k'
   refine ⟨fun v' h => ?_, fun h => ?_⟩
   ·rw [lookup_cons, hb] at h
    obtain ⟨t, ht⟩ := c1 v' h
    unfold valueAt at ht
    exact ⟨t, by simpa [hb2] using ht⟩
   ·rw [lookup_cons, hb] at h
    have := c2 h
    unfold valueAt at this
    simpa [hb2] using this
theorem KTab.dict {t : Addr} {tab : List (Str × Str)} {pins : List (Addr × Obj)} {σ : St} {H : Hp} {s : Shared} (T : KTab X.w X.K t tab) (I : Inv X pins σ H s) : ∃ kvs : List (Key × Value), s.heap.DictOf (mixKind X.prog X.w) t kvs /\ ∀ k, (∀ v, tab.lookup k = some v -> ∃ t, valueAt kvs (Sum.inr k) = some (.str v t)) /\ (tab.lookup k = none -> valueAt kvs (Sum.inr k) = none) := by
 obtain ⟨es, ep, h1, h2, h3⟩ := T.obj
 obtain ⟨kvs, a1, a2, a3⟩ := tab_pairs (P := X.prog) (w := X.w) h2
 refine ⟨kvs, ⟨_, es, ep, I.kIn t _ h1, ⟨rfl, rfl, rfl⟩, rfl, fun e he => ?_, a1, ?_⟩, a3⟩
 ·have key : ∀ {tab : List (Str × Str)} {es : List DictEntry}, tabVs tab es -> ∀ e ∈ es, ∃ k t, e.key = .str k t := by
   intro tab
   induction tab with
   | nil => intro es h e he; cases es with
    | nil => cases he
    | cons _ _ => exact h.elim
   | cons p r ih =>
    intro es h e he
    cases es with
    | nil => cases he
    | cons e0 es =>
     obtain ⟨⟨t1, g1⟩, _, g3⟩ := h
     rcases List.mem_cons.mp he with z | z
     ·subst z; exact ⟨_, t1, g1⟩
     ·exact ih g3 e z
  obtain ⟨k, tk, hk⟩ := key h2 e (by simpa using he)
  exact ⟨Sum.inr k, by rw [hk]; exact keyIs_str k tk, h3 e (by simpa using he) k tk hk⟩
 ·rw [a2]
  have := T.nd
  rw [show tab.map (fun p => (Sum.inr p.1 : Key)) = (tab.map (·.1)).map Sum.inr by rw [map_map]; rfl]
  exact List.Pairwise.map _ (fun _ _ h z => h (Sum.inr.inj z)) this
end
end
section
section
variable {prog : Program} {w : World} {A : Around} {E : Value -> Shared -> Prop} {s : Shared}
structure ApT (z TO i1 i2 l : Addr) : Prop where
 lz : l ≠ z
 lTO : l ≠ TO
 l1 : l ≠ i1
 l2 : l ≠ i2
end
end
section
section
variable {prog : Program} {w : World} {A : Around} {E : Value -> Shared -> Prop} {s : Shared}
end
section
variable {X : Cx}
end
end
section
section
variable {X : Cx} {a b c e : Expr} {ma mb : ME} {la lb : ML} {pos : Pos}
end
section
variable {K : W.Frag} {F0 H0 F H H' : Hp} {σ : St} {ρ : Ro}
end
section
variable {X : Cx} {a b c e3 : Expr} {ma mb : ME} {la lb : ML} {pos : Pos} {E : XK} {es : List Expr} {mf : MF} {m : ML} {rb : List Stmt} {mx : MS} {cc : MB} {y : D}
end
end
section
abbrev MEm := Ro -> Option (D × Ro)
abbrev MLm := Ro -> Option (List D × Ro)
def TDm (K : W.Frag) (m : MEm) : TE := fun σ H Q => ∃ F0 H0 F ρ d ρ', Rl K F0 H0 F H σ ρ /\ m ρ = some (d, ρ') /\ ∀ v F' H', Rl K F0 H0 F' H' σ ρ' -> Same F F' -> Rep K F' v d -> Q v H'
def TAm (K : W.Frag) (m : MLm) : TA := fun σ H Q => ∃ F0 H0 F ρ ds ρ', Rl K F0 H0 F H σ ρ /\ m ρ = some (ds, ρ') /\ ∀ vs F' H', Rl K F0 H0 F' H' σ ρ' -> Same F F' -> Reps K F' vs ds -> Q vs H'
def PDm (X : Cx) (e : Expr) (m : MEm) : Prop := PE X e (TDm X.K m)
def PAm (X : Cx) (es : List Expr) (m : MLm) : Prop := PA X es (TAm X.K m)
section
variable {X : Cx} {a b c e : Expr} {ma mb : ME} {na nb : MEm} {pos : Pos} {es : List Expr}
@[irreducible] def mpu (m : ME) : MEm := fun ρ => match m ρ with | some d => some (d, ρ) | none => none
@[irreducible] def apu (m : ML) : MLm := fun ρ => match m ρ with | some d => some (d, ρ) | none => none
theorem pdm_pure (h : PD X e ma) : PDm X e (mpu ma) := h.imp fun σ H Q hpat => by
 obtain ⟨F0, H0, F, ρ, d, ρ', rl, e, q⟩ := hpat
 unfold mpu at e
 split at e
 ·rename_i d' hm; cases e; exact ⟨F0, H0, F, ρ, d, rl, hm, fun v F' H' x r => q v F' H' (rl.go x) x.ff r⟩
 ·cases e
theorem pam_pure {m : ML} (h : PAs X es m) : PAm X es (apu m) := h.imp fun σ H Q hpat => by
 obtain ⟨F0, H0, F, ρ, d, ρ', rl, e, q⟩ := hpat
 unfold apu at e
 split at e
 ·rename_i d' hm; cases e; exact ⟨F0, H0, F, ρ, d, rl, hm, fun v F' H' x r => q v F' H' (rl.go x) x.ff r⟩
 ·cases e
@[irreducible] def m2m (f : D -> D -> Option D) (x y : MEm) : MEm := fun ρ => match x ρ with
 | some (d, ρ1) => (match y ρ1 with | some (e, ρ2) => (match f d e with | some g => some (g, ρ2) | none => none) | none => none)
 | none => none
theorem opm_d {r : R2} {f : D -> D -> Option D} (hf : OpD X.K r f) {σ : St} {H : Hp} {Q : VK} (h : TDm X.K (m2m f na nb) σ H Q) : tOp r (TDm X.K na) (TDm X.K nb) σ H Q := by
 obtain ⟨F0, H0, F, ρ, g, ρ', rl, e, q⟩ := h
 unfold m2m at e
 split at e
 ·rename_i d ρ1 h1
  split at e
  ·rename_i d2 ρ2 h2
   split at e
   ·rename_i g' h3
    cases e
    refine ⟨F0, H0, F, ρ, d, ρ1, rl, h1, fun x F1 H1 rl1 s1 r1 => ⟨F0, H0, F1, ρ1, d2, ρ', rl1, h2, fun y F2 H2 rl2 s2 r2 => ?_⟩⟩
    exact hf F2 H2 x y d d2 g Q rl2.fh (r1.mono s2) r2 h3 fun v F' H' x3 r3 => q v F' H' (rl2.go x3) (s1.trans (s2.trans x3.ff)) r3
   ·cases e
  ·cases e
 ·cases e
theorem pdm_op {op : Operator} {r : R2} {f : D -> D -> Option D} (ho : OpR X (binaryOp op) r) (hf : OpD X.K r f) (ha : PDm X a na) (hb : PDm X b nb) : PDm X (.BinOp a op b pos) (m2m f na nb) := (pe_op ho ha hb).imp fun _ _ _ h => opm_d hf h
theorem pdm_cmp {op : CmpOp} {r : R2} {f : D -> D -> Option D} (ho : OpR X (compareOp op) r) (hf : OpD X.K r f) (ha : PDm X a na) (hb : PDm X b nb) (hm : behindInMarks op b = false) : PDm X (.Compare a [op] [b] pos) (m2m f na nb) := (pe_cmpR ho ha hb hm).imp fun _ _ _ h => opm_d hf h
def ixLD : D -> D -> Option D
 | .lst ds, .int k => atI ds k
 | _, _ => none
theorem opd_ixL {K : W.Frag} : OpD K (rIxL K) ixLD := by
 intro F H x y d e w Q s r1 r2 h q
 cases d with
 | lst ds =>
  cases e with
  | int k =>
   obtain ⟨a, xs, e1, sq, rs⟩ := r1.l'
   obtain ⟨v, h3, h4⟩ := atI_reps rs (show atI _ k = some w from h)
   exact ⟨_, _, k, v, e1, r2.i', s.seq sq, h3, q v F H (.refl s) h4⟩
  | _ => cases h
 | _ => cases h
theorem pdm_ix (ha : PDm X a na) (hb : PDm X b nb) (hs : PlainIx b := by exact fun _ _ => rfl) : PDm X (.Subscript a b pos) (m2m ixLD na nb) := (pe_ix ix_list ha hb hs).imp fun σ H Q h => opm_d opd_ixL h
@[irreducible] def mandm (x y : MEm) : MEm := fun ρ => match x ρ with | some (.bl true, ρ1) => y ρ1 | some (.bl false, ρ1) => some (.bl false, ρ1) | _ => none
theorem pdm_one {op} (h : PDm X a na) : PDm X (.BoolOp op [a] pos) na := pe_one h
theorem pdm_and {rest : List Expr} (ha : PDm X a na) (hb : PDm X (.BoolOp .And (b :: rest) pos) nb) : PDm X (.BoolOp .And (a :: b :: rest) pos) (mandm na nb) := (pe_and ha hb).imp fun σ H Q hpat => by
 obtain ⟨F0, H0, F, ρ, g, ρ', rl, e, q⟩ := hpat
 unfold mandm at e
 split at e
 ·rename_i ρ1 h1
  refine ⟨F0, H0, F, ρ, _, ρ1, rl, h1, fun x F1 H1 rl1 s1 r1 => ?_⟩
  cases r1
  refine ⟨true, rfl, iteT ?_⟩
  exact ⟨F0, H0, F1, ρ1, g, ρ', rl1, e, fun y F2 H2 rl2 s2 r2 => q y F2 H2 rl2 (s1.trans s2) r2⟩
 ·rename_i ρ1 h1
  cases e
  refine ⟨F0, H0, F, ρ, _, ρ', rl, h1, fun x F1 H1 rl1 s1 r1 => ?_⟩
  cases r1
  exact ⟨false, rfl, iteF (q _ F1 H1 rl1 s1 (.bl _))⟩
 ·cases e
@[irreducible] def aconsm (x : MEm) (r : MLm) : MLm := fun ρ => match x ρ with | some (d, ρ1) => (match r ρ1 with | some (ds, ρ2) => some (d :: ds, ρ2) | none => none) | none => none
theorem pam_cons {m : MLm} (ha : PDm X a na) (hr : PAm X es m) (hs : starEach (a :: es) X.env = (false, eval a X.env) :: starEach es X.env := by rfl) : PAm X (a :: es) (aconsm na m) := (pa_cons ha hr hs).imp fun σ H Q hpat => by
 obtain ⟨F0, H0, F, ρ, g, ρ', rl, e, q⟩ := hpat
 unfold aconsm at e
 split at e
 ·rename_i d ρ1 h1
  split at e
  ·rename_i ds ρ2 h2
   cases e
   refine ⟨F0, H0, F, ρ, d, ρ1, rl, h1, fun x F1 H1 rl1 s1 r1 => ⟨F0, H0, F1, ρ1, ds, ρ', rl1, h2, fun xs F2 H2 rl2 s2 r2 => ?_⟩⟩
   exact q _ F2 H2 rl2 (s1.trans s2) (.cons (r1.mono s2) r2)
  ·cases e
 ·cases e
@[irreducible] def mlstm (m : MLm) : MEm := fun ρ => match m ρ with | some (ds, ρ1) => if ds.length <= sizeLine then some (.lst ds, ρ1) else none | none => none
theorem pdm_lst {m : MLm} (h : PAm X es m) : PDm X (.List es pos) (mlstm m) := (pe_lst h).imp fun σ H Q hpat => by
 obtain ⟨F0, H0, F, ρ, g, ρ', rl, e, q⟩ := hpat
 unfold mlstm at e
 split at e
 ·rename_i ds ρ1 h1
  split at e
  ·rename_i hz
   cases e
   refine ⟨F0, H0, F, ρ, ds, ρ', rl, h1, fun vs F1 H1 rl1 s1 r1 => ⟨by rw [r1.length]; exact hz, fun p hp => ?_⟩⟩
   have x := Ext.laid (o := .lst vs) rl1.fh hp
   exact q _ _ _ (rl1.go x) (s1.trans x.ff) (.lst (SqL.of upd_same) (r1.mono x.ff))
  ·cases e
 ·cases e
@[irreducible] def call1m (f : List D -> Option D) (m : MLm) : MEm := fun ρ => match m ρ with | some (ds, ρ1) => (match f ds with | some d => some (d, ρ1) | none => none) | none => none
theorem callm_d {r : List V -> Hp -> VK -> Prop} {f : List D -> Option D} {m : MLm} (hf : CallD X.K r f) {σ : St} {H : Hp} {Q : VK} (h : TDm X.K (call1m f m) σ H Q) : tCB r (TAm X.K m) σ H Q := by
 obtain ⟨F0, H0, F, ρ, g, ρ', rl, e, q⟩ := h
 unfold call1m at e
 split at e
 ·rename_i ds ρ1 h1
  split at e
  ·rename_i d h2
   cases e
   exact ⟨F0, H0, F, ρ, ds, ρ', rl, h1, fun vs F1 H1 rl1 s1 r1 => hf F1 H1 vs ds g Q rl1.fh r1 h2 fun v F' H' x2 r2 => q v F' H' (rl1.go x2) (s1.trans x2.ff) r2⟩
  ·cases e
 ·cases e
theorem pdm_abs {p : Pos} {m : MLm} (hg : Gl X "abs") (hm : X.mg "abs" = none) (ha : PAm X [e] m) (he : starEach [e] X.env = (false, eval e X.env) :: starEach [] X.env := by rfl) (hpl : (backTo pos (starEach [] X.env)).any (·.1) = false := by rfl) : PDm X (.Call (.Name "abs" p) [e] [] pos) (call1m absF m) :=
 (pe_callB call_abs hg hm PyProof.Rows.boot_abs ha (by decide) (by decide) he hpl).imp fun _ _ _ h => callm_d calld_abs h
theorem pdm_intc {p : Pos} {m : MLm} (hg : Gl X "int") (hm : X.mg "int" = none) (ha : PAm X [e] m) (hv : bootBuiltins "int" = some (.type "int")) (he : starEach [e] X.env = (false, eval e X.env) :: starEach [] X.env := by rfl) (hpl : (backTo pos (starEach [] X.env)).any (·.1) = false := by rfl) : PDm X (.Call (.Name "int" p) [e] [] pos) (call1m intF m) :=
 (pe_callTy call_int1 hg hm hv ha (by decide) (by decide) he hpl).imp fun _ _ _ h => callm_d calld_int h
variable {st : Stmt}
@[irreducible] def msetm (i : Nat) (x : MEm) : MS := fun ρ => match x ρ with | some (d, ρ1) => some (.nx (ρ1.set i (some (.sh d)))) | none => none
theorem psd_setm {i : Nat} {x : Str} {pos' : Pos} (hN : X.N.Nodup) (hi : X.N[i]? = some x) (hx : Loc X.env.scope x) (he : PDm X e na) (hs : swapsWith e (some (.Name x pos')) pos.line X.env = pure false := by rfl) (hf : X.fn x = true \/ X.env.scope.names.lookup x = some .local := by first | exact .inl rfl | exact .inr rfl | assumption) :
  PSd X (.Assign [.Name x pos'] e pos) (msetm i na) := (ps_set hN hi hx he hs hf).imp fun D σ H hpat => by
 obtain ⟨F0, H0, F, ρ, o, rl, e, ok⟩ := hpat
 unfold msetm at e
 split at e
 ·rename_i d ρ1 h1
  cases e
  exact ⟨F0, H0, F, ρ, d, ρ1, rl, h1, fun v F1 H1 rl1 s1 r1 => ok F1 H1 _ (rl1.set r1) s1⟩
 ·cases e
@[irreducible] def mretG (i : Nat) (x : MEm) : MS := fun ρ => match x ρ with
 | some (d, ρ1) => (match ρ1[i]? with | some (some (.ob p r)) => some (.rg d p r) | _ => none)
 | none => none
theorem psd_retG (i : Nat) (he : PDm X e na) : PSd X (.Return (some e) pos) (mretG i na) := (ps_ret he).imp fun D σ H hpat => by
 obtain ⟨F0, H0, F, ρ, o, rl, e, ok⟩ := hpat
 unfold mretG at e
 split at e
 ·rename_i d ρ1 h1
  split at e
  ·rename_i p r h2
   cases e
   refine ⟨F0, H0, F, ρ, d, ρ1, rl, h1, fun v F1 H1 rl1 s1 r1 => ?_⟩
   obtain ⟨o1, o2, o3, xs, o4, o5⟩ := rl1.ob i p r h2
   exact ok v F1 H1 xs rl1.ext r1 o2 o4 o5
  ·cases e
 ·cases e
@[irreducible] def mretGO (i j : Nat) : MS := fun ρ => match ρ[i]?, ρ[j]? with
 | some (some (.ob p r)), some (some (.own ds)) => some (.rgf ds p r)
 | _, _ => none
theorem psd_retGO (i j : Nat) {x : Str} {pos' : Pos} (h : PE X (.Name x pos') (tVar j)) : PSd X (.Return (some (.Name x pos')) pos) (mretGO i j) := (ps_ret h).imp fun D σ H hpat => by
 obtain ⟨F0, H0, F, ρ, o, rl, e, ok⟩ := hpat
 unfold mretGO at e
 split at e
 ·rename_i p r ds h1 h2
  cases e
  obtain ⟨o1, o2, o3, xs, o4, o5⟩ := rl.ob i p r h1
  obtain ⟨q, ys, a1, a2, a3, a4, a5⟩ := rl.own j ds h2
  have hne : q ≠ p := fun z => rl.obn i j p r ds h1 h2 (by rw [<- z]; exact a1)
  exact ⟨_, a1, ok q ys F H xs rl.ext a5 a2 hne a3 a4 o2 o4 o5⟩
 ·cases e
end
abbrev MG := Addr -> List D -> List D -> Option (Rt × List D)
def del (H : Hp) (p : Addr) : Hp := fun b => if b = p then none else H b
theorem del_self {H : Hp} {p : Addr} : del H p p = none := by unfold del; rw [if_pos rfl]
theorem del_ne {H : Hp} {p b : Addr} (h : b ≠ p) : del H p b = H b := by unfold del; rw [if_neg h]
def okG (K : W.Frag) (F H : Hp) (p : Addr) (Q : VK) (r' : List D) : Rt -> Prop
 | .sh d => ∀ v F' H' xs, Ext F (del H p) F' H' -> Rep K F' v d -> F' p = none -> H' p = some (.lst xs) -> Reps K F' xs r' -> Q v H'
 | .fr ds => ∀ q ys F' H' xs, Ext F (del H p) F' H' -> H q = none -> F' q = none -> H' q = some (.lst ys) -> Reps K F' ys ds -> F' p = none -> H' p = some (.lst xs) -> Reps K F' xs r' -> Q (.ref q) H'
 | .pr _ _ => False
def spG (K : W.Frag) (n : Nat) (m : MG) : Sp := fun vs H Q _ => vs.length = n /\ ∃ p ws F r0 ds r r1 xs, vs = .ref p :: ws /\ H p = some (.lst xs) /\ F p = none /\ Same F H /\ Reps K F xs r0 /\ Reps K F ws ds /\ m p r0 ds = some (r, r1) /\ okG K F H p Q r1 r
def startG (n : Nat) (p : Addr) (r : List D) (ds : List D) : Ro := some (.ob p r) :: startS (n - 1) ds
def runG (n : Nat) (m : MS) : MG := fun p r ds => match m (startG n p r ds) with
 | some (.rg d q r') => if q = p then some (.sh d, r') else none
 | some (.rgf es q r') => if q = p then some (.fr es, r') else none
 | _ => none
theorem rl_startG {K : W.Frag} {F H : Hp} {N : List Str} {p : Addr} {xs ws : List V} {r ds : List D} (hn : 0 < N.length) (s : Same F H) (hF : F p = none) (hH : H p = some (.lst xs)) (hr : Reps K F xs r) (rs : Reps K F ws ds) : Rl K F (del H p) F H (start N (.ref p :: ws)) (startG N.length p r ds) := by
 have e0 : start N (.ref p :: ws) = some (.ref p) :: start N.tail ws := by
  unfold start
  rw [map_cons, cons_append, length_cons, length_tail]
  congr 2
  congr 1
  omega
 have e1 : startG N.length p r ds = some (.ob p r) :: startS N.tail.length ds := by unfold startG; rw [length_tail]
 have base := rl_start (N := N.tail) s rs
 have only : ∀ (j : Nat) x, (startS N.tail.length ds)[j]? = some (some x) -> ∃ d, x = S.sh d := fun j x e => by
  unfold startS at e
  by_cases hi : j < ds.length
  ·rw [getElem?_append_left (by simpa using hi), getElem?_map] at e
   cases q : ds[j]? with
   | none => rw [q] at e; cases e
   | some d => rw [q] at e; cases e; exact ⟨d, rfl⟩
  ·rw [getElem?_append_right (by simpa using hi), getElem?_replicate] at e
   split at e <;> cases e
 rw [e0, e1]
 refine ⟨⟨Same.refl F, fun b o e => ?_, s, fun b e n => absurd e n, fun _ _ _ z => z⟩, by rw [length_cons, length_cons, base.len], fun i d e => ?_, fun i es e => ?_, fun i j q es es' _ e => ?_, fun i q es e => ?_, fun i j q es es' e e2 => ?_, fun i j q q' es es' e e2 => ?_⟩
 ·by_cases hb : b = p
  ·subst hb; rw [del_self] at e; cases e
  ·rw [del_ne hb] at e; exact e
 ·cases i with
  | zero => cases e
  | succ i => exact base.sh i d e
 ·cases i with
  | zero => cases e
  | succ i => obtain ⟨d, z⟩ := only i _ e; cases z
 ·cases i with
  | zero => cases e
  | succ i => obtain ⟨d, z⟩ := only i _ e; cases z
 ·cases i with
  | zero => cases e; exact ⟨rfl, hF, del_self, xs, hH, hr⟩
  | succ i => obtain ⟨d, z⟩ := only i _ e; cases z
 ·cases j with
  | zero => cases e2
  | succ j => obtain ⟨d, z⟩ := only j _ e2; cases z
 ·cases i with
  | zero =>
   cases j with
   | zero => rfl
   | succ j => obtain ⟨d, z⟩ := only j _ e2; cases z
  | succ i => obtain ⟨d, z⟩ := only i _ e; cases z
theorem Fun.okGl {P : Program} {w : World} {K : W.Frag} {mg : Str -> Option Value} {base : Heap} {x qual : Str} {st : Stmt} {f : Addr} {fd : FuncData} {N ps : List Str} {k : Nat} {m : MS} (Fn : Fun K x qual st f fd) (Sc : FnScope N ps (defScope st)) (hn : 0 < N.length)
  (hbody : ∀ (cdv : Value) (A : Around) (outer : List Env) (s : Shared) (H : Hp) (E : XK), Room k (A.deeper (envOfC qual (defScope st) s.heap.objs.size f cdv)) -> PSsd (cxOf CX0 P w K mg base N qual (defScope st) f cdv A outer s H E).nox (defBody st) m) :
  FnOk P w K mg base CX0 (k + 1) f fd ps (spG K ps.length (runG N.length m)) := by
 refine Fn.ok Sc (fun vs H Q E h => h.1) fun cdv A outer s H vs Q E hr h => ?_
 obtain ⟨hl, p, ws, F, r0, ds, r, r1, xs, rfl, hH, hF, sf, rx, rs, e, ok⟩ := h
 unfold runG at e
 cases h1 : m (startG N.length p r0 ds) with
 | none => rw [h1] at e; cases e
 | some o =>
  rw [h1] at e
  refine ⟨_, hbody cdv A outer s H E hr, F, del H p, F, startG N.length p r0 ds, o, rl_startG hn sf hF hH rx rs, h1, ?_⟩
  cases o with
  | rg d q r' =>
   have e : (if q = p then some (Rt.sh d, r') else none) = some (r, r1) := e
   by_cases hq : q = p
   ·rw [if_pos hq] at e
    cases e
    subst hq
    exact fun v F' H' xs' x rv f1 h1 rr => ok v F' H' xs' x rv f1 h1 rr
   ·rw [if_neg hq] at e; cases e
  | rgf es q r' =>
   have e : (if q = p then some (Rt.fr es, r') else none) = some (r, r1) := e
   by_cases hq : q = p
   ·rw [if_pos hq] at e
    cases e
    subst hq
    exact fun q' ys F' H' xs' x h0 f0 hne hq' rq f1 h1 rr => ok q' ys F' H' xs' x (by rw [del_ne hne] at h0; exact h0) f0 hq' rq f1 h1 rr
   ·rw [if_neg hq] at e; cases e
  | nx _ => cases e
  | bk _ => cases e
  | ct _ => cases e
  | rt _ => cases e
  | rf _ => cases e
  | rp _ _ => cases e
end
section
section
variable {K : W.Frag} {F0 H0 F H F' H' : Hp} {σ : St} {ρ : Ro}
theorem Ext.lent (a : Ext F0 H0 F H) {p : Addr} (h0 : H0 p = none) (x : Ext F (del H p) F' H') : Ext F0 H0 F' H' :=
 ⟨a.ff.trans x.ff, fun b o e => by
  have hb : b ≠ p := fun z => by rw [z, h0] at e; cases e
  exact x.hh b o (by rw [del_ne hb]; exact a.hh b o e), x.fh, fun b e n => by
  by_cases hf : F b = none
  ·by_cases hb : b = p
   ·rw [hb]; exact h0
   ·have := x.new b hf n
    rw [del_ne hb] at this
    exact a.hh.free this
  ·exact a.new b e hf, fun b o u z => a.nf b o u (x.nf b o u z)⟩
theorem Rl.lent (r : Rl K F0 H0 F H σ ρ) {i : Nat} {p : Addr} {xs : List V} {r0 r1 : List D} (h : ρ[i]? = some (some (.own r0))) (hp : σ[i]? = some (some (.ref p))) (x : Ext F (del H p) F' H') (hF : F' p = none) (hH : H' p = some (.lst xs)) (hr : Reps K F' xs r1) : Rl K F0 H0 F' H' σ (ρ.set i (some (.own r1))) := by
 obtain ⟨p', xs', a, b, c, d, z⟩ := r.own i r0 h
 rw [hp] at a; cases a
 have hl : i < ρ.length := (List.getElem?_eq_some_iff.mp h).1
 have keepF : ∀ q, q ≠ p -> F q = none -> (∃ o, H q = some o) -> F' q = none := fun q hq f hpat => by
  obtain ⟨o, ho⟩ := hpat
  cases w : F' q with
  | none => rfl
  | some u => have := x.new q f (by rw [w]; simp); rw [del_ne hq, ho] at this; cases this
 have keepH : ∀ q o, q ≠ p -> H q = some o -> H' q = some o := fun q o hq ho => x.hh q o (by rw [del_ne hq]; exact ho)
 have back : ∀ (j : Nat) fs, (ρ.set i (some (S.own r1)))[j]? = some (some (.own fs)) -> (j = i /\ fs = r1) \/ (i ≠ j /\ ρ[j]? = some (some (.own fs))) := fun j fs e => by
  by_cases hj : i = j
  ·subst hj; rw [getElem?_set_self hl] at e; cases e; exact .inl ⟨rfl, rfl⟩
  ·rw [getElem?_set_ne hj] at e; exact .inr ⟨hj, e⟩
 refine ⟨r.ext.lent z x, by simp [r.len], fun j d' q => ?_, fun j fs q => ?_, fun j k q fs fs' hjk e1 e2 e3 e4 => ?_, fun j q fs e1 => ?_, fun j k q fs fs' e1 e2 e3 => ?_, fun j k q q' es es' e1 e2 => r.ob1 j k q q' es es' (set_ob e1).2 (set_ob e2).2⟩
 ·by_cases hj : i = j
  ·subst hj; rw [getElem?_set_self hl] at q; cases q
  ·rw [getElem?_set_ne hj] at q
   obtain ⟨v, v1, v2⟩ := r.sh j d' q
   exact ⟨v, v1, v2.mono x.ff⟩
 ·rcases back j fs q with ⟨rfl, rfl⟩ | ⟨n, e⟩
  ·exact ⟨p, xs, hp, hF, hH, hr, z⟩
  ·obtain ⟨p2, xs2, a2, b2, c2, d2, z2⟩ := r.own j fs e
   have hpp : p2 ≠ p := fun w => r.inj i j p r0 fs n h e hp (by rw [<- w]; exact a2)
   exact ⟨p2, xs2, a2, keepF p2 hpp b2 ⟨_, c2⟩, keepH _ _ hpp c2, d2.mono x.ff, z2⟩
 ·have b1 : ∃ g, ρ[j]? = some (some (.own g)) := by
   rcases back j fs e1 with ⟨rfl, _⟩ | ⟨_, w⟩
   ·exact ⟨_, h⟩
   ·exact ⟨_, w⟩
  have b2 : ∃ g, ρ[k]? = some (some (.own g)) := by
   rcases back k fs' e2 with ⟨rfl, _⟩ | ⟨_, w⟩
   ·exact ⟨_, h⟩
   ·exact ⟨_, w⟩
  obtain ⟨g1, w1⟩ := b1
  obtain ⟨g2, w2⟩ := b2
  exact r.inj j k q g1 g2 hjk w1 w2 e3 e4
 ·obtain ⟨n, e1⟩ := set_ob e1
  obtain ⟨o1, o2, o3, zs, o4, o5⟩ := r.ob j q fs e1
  have hpp : q ≠ p := fun w => r.obn j i q fs r0 e1 h (by rw [w]; exact hp)
  exact ⟨o1, keepF q hpp o2 ⟨_, o4⟩, o3, zs, keepH _ _ hpp o4, o5.mono x.ff⟩
 ·obtain ⟨n, e5⟩ := set_ob e1
  rcases back k fs' e2 with ⟨e6, _⟩ | ⟨_, w⟩
  ·rw [e6] at e3; exact r.obn j i q fs r0 e5 h e3
  ·exact r.obn j k q fs fs' e5 w e3
theorem Rl.lentB (r : Rl K F0 H0 F H σ ρ) {i : Nat} {p : Addr} {xs : List V} {r0 r1 : List D} (h : ρ[i]? = some (some (.ob p r0))) (x : Ext F (del H p) F' H') (hF : F' p = none) (hH : H' p = some (.lst xs)) (hr : Reps K F' xs r1) : Rl K F0 H0 F' H' σ (ρ.set i (some (.ob p r1))) := by
 obtain ⟨a, b, z, xs', c, d⟩ := r.ob i p r0 h
 have hl : i < ρ.length := (List.getElem?_eq_some_iff.mp h).1
 have keepF : ∀ q, q ≠ p -> F q = none -> (∃ o, H q = some o) -> F' q = none := fun q hq f hpat => by
  obtain ⟨o, ho⟩ := hpat
  cases w : F' q with
  | none => rfl
  | some u => have := x.new q f (by rw [w]; simp); rw [del_ne hq, ho] at this; cases this
 have keepH : ∀ q o, q ≠ p -> H q = some o -> H' q = some o := fun q o hq ho => x.hh q o (by rw [del_ne hq]; exact ho)
 have back : ∀ (j : Nat) q fs, (ρ.set i (some (S.ob p r1)))[j]? = some (some (.ob q fs)) -> j = i /\ q = p /\ fs = r1 := fun j q fs e => by
  by_cases hj : i = j
  ·subst hj; rw [getElem?_set_self hl] at e; cases e; exact ⟨rfl, rfl, rfl⟩
  ·rw [getElem?_set_ne hj] at e; exact absurd (r.ob1 i j p q r0 fs h e) hj
 have other : ∀ (j : Nat) fs, (ρ.set i (some (S.ob p r1)))[j]? = some (some (.own fs)) -> i ≠ j /\ ρ[j]? = some (some (.own fs)) := fun j fs e => by
  by_cases hj : i = j
  ·subst hj; rw [getElem?_set_self hl] at e; cases e
  ·rw [getElem?_set_ne hj] at e; exact ⟨hj, e⟩
 refine ⟨r.ext.lent z x, by simp [r.len], fun j d' q => ?_, fun j fs q => ?_, fun j k q fs fs' hjk e1 e2 e3 e4 => r.inj j k q fs fs' hjk (other j fs e1).2 (other k fs' e2).2 e3 e4, fun j q fs e1 => ?_, fun j k q fs fs' e1 e2 e3 => ?_, fun j k q q' fs fs' e1 e2 => ?_⟩
 ·by_cases hj : i = j
  ·subst hj; rw [getElem?_set_self hl] at q; cases q
  ·rw [getElem?_set_ne hj] at q
   obtain ⟨v, v1, v2⟩ := r.sh j d' q
   exact ⟨v, v1, v2.mono x.ff⟩
 ·obtain ⟨n, e⟩ := other j fs q
  obtain ⟨p2, xs2, a2, b2, c2, d2, z2⟩ := r.own j fs e
  have hpp : p2 ≠ p := fun w => r.obn i j p r0 fs h e (by rw [<- w]; exact a2)
  exact ⟨p2, xs2, a2, keepF p2 hpp b2 ⟨_, c2⟩, keepH _ _ hpp c2, d2.mono x.ff, z2⟩
 ·obtain ⟨e2, e3, e4⟩ := back j q fs e1
  subst e2 e3 e4
  exact ⟨a, hF, z, xs, hH, hr⟩
 ·obtain ⟨e4, e5, _⟩ := back j q fs e1
  subst e4 e5
  exact r.obn j k q r0 fs' h (other k fs' e2).2 e3
 ·rw [(back j q fs e1).1, (back k q' fs' e2).1]
end
open Classical in
noncomputable def anyP {α : Type} (f : Addr -> Option α) : Option α := if h : ∃ x, ∀ p, f p = some x then some (Classical.choose h) else none
theorem anyP_some {α : Type} {f : Addr -> Option α} {x : α} (h : anyP f = some x) : ∀ p, f p = some x := by
 unfold anyP at h
 split at h
 ·rename_i hx
  cases h
  exact Classical.choose_spec hx
 ·cases h
theorem anyP_of {α : Type} {f : Addr -> Option α} {x : α} (h : ∀ p, f p = some x) : anyP f = some x := by
 unfold anyP
 have hx : ∃ x, ∀ p, f p = some x := ⟨x, h⟩
 rw [dif_pos hx]
 have := Classical.choose_spec hx 0
 rw [h 0] at this
 exact this.symm
def rtD : Rt -> Option D
 | .sh d => some d
 | .fr es => some (.lst es)
 | .pr _ _ => none
@[irreducible] noncomputable def mcallG (f : MG) (i : Nat) (m : MLm) : MEm := fun ρ => match ρ[i]? with
 | some (some (.own _)) => (match m ρ with
  | some (ds, ρ1) => (match ρ1[i]? with
   | some (some (.own r0)) => (match anyP (fun p => f p r0 ds) with
    | some (t, r1) => (match rtD t with | some d => some (d, ρ1.set i (some (.own r1))) | none => none)
    | none => none)
   | _ => none)
  | none => none)
 | some (some (.ob _ _)) => (match m ρ with
  | some (ds, ρ1) => (match ρ1[i]? with
   | some (some (.ob p r0)) => (match f p r0 ds with
    | some (t, r1) => (match rtD t with | some d => some (d, ρ1.set i (some (.ob p r1))) | none => none)
    | none => none)
   | _ => none)
  | none => none)
 | _ => none
theorem apu_len {m : ML} {n : Nat} (h : ∀ ρ ds, m ρ = some ds -> ds.length = n) (ρ : Ro) (ds : List D) (ρ' : Ro) (e : apu m ρ = some (ds, ρ')) : ds.length = n := by
 unfold apu at e
 split at e
 ·rename_i d hm; cases e; exact h ρ _ hm
 ·cases e
theorem aconsm_len {x : MEm} {r : MLm} {n : Nat} (hr : ∀ ρ ds ρ', r ρ = some (ds, ρ') -> ds.length = n) (ρ : Ro) (ds : List D) (ρ' : Ro) (h : aconsm x r ρ = some (ds, ρ')) : ds.length = n + 1 := by
 unfold aconsm at h
 split at h
 ·rename_i d ρ1 h1
  split at h
  ·rename_i ds' ρ2 h2; cases h; rw [length_cons, hr ρ1 ds' _ h2]
  ·cases h
 ·cases h
section
variable {X : Cx} {e : Expr} {pos : Pos} {es : List Expr} {E : XK} {mf : MG} {m : MLm}
theorem pdm_callG {n i : Nat} {x : Str} {px : Pos} (h : ∀ t, PA X (.Name x px :: es) t -> PE X e (tCall (spG X.K n mf) [] E t)) (hl : es.length + 1 = n) (hv : PE X (.Name x px) (tVar i)) (ha : PAm X es m) (hm : ∀ ρ ds ρ', m ρ = some (ds, ρ') -> ds.length = es.length)
  (hs : starEach (.Name x px :: es) X.env = (false, eval (.Name x px) X.env) :: starEach es X.env := by rfl) : PDm X e (mcallG mf i m) := (h _ (pa_cons hv ha hs)).imp fun σ H Q hpat => by
 obtain ⟨F0, H0, F, ρ, d, ρ', rl, e, q⟩ := hpat
 unfold mcallG at e
 split at e
 ·rename_i r00 h0
  obtain ⟨p, xs, a1, a2, a3, a4, a5⟩ := rl.own i r00 h0
  split at e
  ·rename_i ds ρ1 h1
   split at e
   ·rename_i r0 h2
    split at e
    ·rename_i t r1 h3
     split at e
     ·rename_i d' h4
      cases e
      have h3 := anyP_some h3
      refine ⟨_, a1, F0, H0, F, ρ, ds, ρ1, rl, h1, fun vs F1 H1 rl1 s1 rv => ?_⟩
      obtain ⟨p', ys, b1, b2, b3, b4, b5⟩ := rl1.own i r0 h2
      rw [a1] at b1; cases b1
      show spG X.K n mf ((.ref p :: vs) ++ []) H1 Q E
      rw [append_nil]
      refine ⟨by rw [length_cons, rv.length, hm ρ ds ρ1 h1, hl], p, vs, F1, r0, ds, t, r1, ys, rfl, b3, b2, rl1.fh, b4, rv, h3 p, ?_⟩
      cases t with
      | sh g =>
       cases h4
       exact fun v F' H' zs x rg f1 g1 rz => q v F' H' (rl1.lent h2 a1 x f1 g1 rz) (s1.trans x.ff) rg
      | fr gs =>
       cases h4
       intro w zs F' H' us x hw fw hw' rw' f1 g1 rz
       have hne : w ≠ p := fun z => by rw [z, b3] at hw; cases hw
       have rl2 := rl1.lent h2 a1 x f1 g1 rz
       have fz : Ext F' H' (upd F' w (.lst zs)) H' -> True := fun _ => True.intro
       have x2 : Ext F1 (del H1 p) (upd F' w (.lst zs)) H' := x.freeze fw (by rw [del_ne hne]; exact hw) hw'
       have s2 : Same F' (upd F' w (.lst zs)) := (Same.refl F').put fw
       exact q _ (upd F' w (.lst zs)) H' (rl1.lent h2 a1 x2 (by rw [upd_ne (Ne.symm hne)]; exact f1) g1 (rz.mono s2)) (s1.trans x2.ff) (.lst (SqL.of upd_same) (rw'.mono s2))
      | pr _ _ => cases h4
     ·cases e
    ·cases e
   ·cases e
  ·cases e
 ·rename_i p00 r00 h0
  obtain ⟨a1, a2, a5, xs, a3, a4⟩ := rl.ob i p00 r00 h0
  split at e
  ·rename_i ds ρ1 h1
   split at e
   ·rename_i p r0 h2
    split at e
    ·rename_i t r1 h3
     split at e
     ·rename_i d' h4
      cases e
      refine ⟨_, a1, F0, H0, F, ρ, ds, ρ1, rl, h1, fun vs F1 H1 rl1 s1 rv => ?_⟩
      obtain ⟨b1, b2, b5, ys, b3, b4⟩ := rl1.ob i p r0 h2
      rw [a1] at b1; cases b1
      show spG X.K n mf ((.ref p00 :: vs) ++ []) H1 Q E
      rw [append_nil]
      refine ⟨by rw [length_cons, rv.length, hm ρ ds ρ1 h1, hl], p00, vs, F1, r0, ds, t, r1, ys, rfl, b3, b2, rl1.fh, b4, rv, h3, ?_⟩
      cases t with
      | sh g =>
       cases h4
       exact fun v F' H' zs x rg f1 g1 rz => q v F' H' (rl1.lentB h2 x f1 g1 rz) (s1.trans x.ff) rg
      | fr gs =>
       cases h4
       intro w zs F' H' us x hw fw hw' rw' f1 g1 rz
       have hne : w ≠ p00 := fun z => by rw [z, b3] at hw; cases hw
       have x2 : Ext F1 (del H1 p00) (upd F' w (.lst zs)) H' := x.freeze fw (by rw [del_ne hne]; exact hw) hw'
       have s2 : Same F' (upd F' w (.lst zs)) := (Same.refl F').put fw
       exact q _ (upd F' w (.lst zs)) H' (rl1.lentB h2 x2 (by rw [upd_ne (Ne.symm hne)]; exact f1) g1 (rz.mono s2)) (s1.trans x2.ff) (.lst (SqL.of upd_same) (rw'.mono s2))
      | pr _ _ => cases h4
     ·cases e
    ·cases e
   ·cases e
  ·cases e
 ·cases e
end
end
section
section
variable {X : Cx} {a b c e : Expr} {ma mb : ME} {pos : Pos}
end
end
section
def LtAt (A : Around) (s : Shared) (v u : Value) (k : Bool) : Prop := ∀ (prog : Program) (w : World) (E : Value -> Shared -> Prop) (Q : Value -> Shared -> Prop), Q (.bool k) s -> wpAny (model prog w) A (richCompare .Lt v u) Q E s
def LexAt (A : Around) (s : Shared) : List Value -> List Value -> Bool -> Prop
 | [], [], k => k = false
 | [], _ :: _, k => k = true
 | _ :: _, [], k => k = false
 | y :: ys, x :: xs, k => ∃ e, SeqAt.EqAt A s y x e /\ ((e = true /\ LexAt A s ys xs k) \/ (e = false /\ LtAt A s y x k))
section
open PySem.SeqAt
open PySem.AutoSeq1 (wpAny_loadPart')
open PySem.MeetsSeq PySem.MeetsSeq2 PySem.MeetsSeq3
set_option maxHeartbeats 4000000 in
theorem tup_lt (l b : Addr) (items items2 : Array Value) (n n2 : Nat) (dd dd2 : Option Addr) (sl sl2 : Array (Option Value)) (k : Bool) :
  Meets (Builtin.«tuple.__lt__» ⟨[.ref l, .ref b], []⟩)
   (fun A R s => s.heap.get? l = some { cls := .type "tuple", dict := dd, data := .seq items n, slots := sl } /\ s.heap.get? b = some { cls := .type "tuple", dict := dd2, data := .seq items2 n2, slots := sl2 } /\
    LexAt A.in1 s items.toList items2.toList k /\ R (.ok (.ret (.bool k))) s) :=
 .of_wp fun prog w A R s h => by
  obtain ⟨hp, g, d, tk, os⟩ := s; obtain ⟨hl, hb, hx, h⟩ := h
  have f2 := AutoSeq1.sub_tuple_tuple
  wp_walk using wpAny_loadPart' hl, wpAny_loadPart' hb, wpAny_forIn_list _ (fun rest b s' => b.1 = none /\ s' = ⟨hp, g, d, tk, os⟩ /\ ∃ (vs ws : List Value), rest = vs.zip ws /\
   vs.length + items2.size = ws.length + items.size /\ LexAt A.in1 ⟨hp, g, d, tk, os⟩ vs ws k) _
  case turn =>
   rintro ⟨y, x⟩ rest b s' ⟨hb', rfl, vs, ws, hz, hlen, hL⟩
   cases vs with
   | nil => rw [zip_nil_left] at hz; cases hz
   | cons a vs =>
    cases ws with
    | nil => rw [zip_nil_right] at hz; cases hz
    | cons c ws =>
     rw [zip_cons_cons] at hz
     injection hz with hyx hrest
     injection hyx with hy hx'
     subst hy hx'
     simp only [length_cons] at hlen
     obtain ⟨e, he, hL⟩ := hL
     refine wpAny_bind (he prog w _ _ ?_)
     rcases hL with ⟨rfl, hL⟩ | ⟨rfl, hL⟩
     ·wp_walk
      exact ⟨rfl, rfl, vs, ws, hrest, by omega, hL⟩
     ·have hri := hL prog w
      wp_walk using hri
      exact ⟨_, rfl, by simpa using h⟩
  case fin =>
   rintro ⟨b1, b2⟩ s' ⟨hb', rfl, vs, ws, hz, hlen, hL⟩
   simp only at hb'
   subst hb'
   have hv : k = decide (items.size < items2.size) := by
    cases vs with
    | nil =>
     cases ws with
     | nil =>
      simp only [length_nil] at hlen
      rw [show k = false from hL]
      exact (decide_eq_false (by omega)).symm
     | cons c ws =>
      simp only [length_nil, length_cons] at hlen
      rw [show k = true from hL]
      exact (decide_eq_true (by omega)).symm
    | cons a vs =>
     cases ws with
     | nil =>
      simp only [length_nil, length_cons] at hlen
      rw [show k = false from hL]
      exact (decide_eq_false (by omega)).symm
     | cons c ws =>
      rw [zip_cons_cons] at hz
      cases hz
   rw [hv] at h
   wp_walk
   exact ⟨_, rfl, by simpa [Builtin.Tuple.tupleCompareSizes] using h⟩
  case h =>
   exact ⟨rfl, rfl, items.toList, items2.toList, rfl, by simp; omega, hx⟩
set_option maxHeartbeats 4000000 in
theorem lst_lt_loop (l b : Addr) (items items2 : Array Value) (n n2 : Nat) (dd dd2 : Option Addr) (sl sl2 : Array (Option Value)) (r : Bool) (k : Nat) :
  ∀ i : Nat, items.size - i = k -> i <= items.size -> i <= items2.size -> Meets (Builtin.«list.__eq__.loop» ⟨[.ref l, .ref b, rawInt i, rawInt 0], []⟩)
   (fun A R s => s.heap.get? l = some { cls := .type "list", dict := dd, data := .seq items n, slots := sl } /\ s.heap.get? b = some { cls := .type "list", dict := dd2, data := .seq items2 n2, slots := sl2 } /\
    LexAt A.in1 s (items.toList.drop i) (items2.toList.drop i) r /\ R (.ok (.ret (.bool r))) s) := by
 induction k with
 | zero =>
  intro i hk h1 h2 prog w A R s h
  obtain ⟨hp, g, d, tk, os⟩ := s; obtain ⟨hl, hb, hx, h⟩ := h
  wp_walk using wpAny_loadPart' hl, wpAny_loadPart' hb
  have hi1 : items[((i : Nat) : Int).toNat]? = none := by simp; omega
  have e1 : items.toList.drop i = [] := drop_eq_nil_of_le (by simp; omega)
  rw [e1] at hx
  have hr : r = decide (items.size < items2.size) := by
   cases e2 : items2.toList.drop i with
   | nil =>
    rw [e2] at hx
    have : items2.size <= i := by simpa using e2
    rw [show r = false from hx]
    exact (decide_eq_false (by omega)).symm
   | cons c ws =>
    rw [e2] at hx
    have : i < items2.size := by
     rcases Nat.lt_or_ge i items2.size with z | z
     ·exact z
     ·rw [drop_eq_nil_of_le (by simpa using z)] at e2; cases e2
    rw [show r = true from hx]
    exact (decide_eq_true (by omega)).symm
  rw [hi1]
  wp_walk using wpAny_loadPart' hl, wpAny_loadPart' hb
  rw [hr] at h
  exact h
 | succ k ih =>
  intro i hk h1 h2 prog w A R s h
  obtain ⟨hp, g, d, tk, os⟩ := s; obtain ⟨hl, hb, hx, h⟩ := h
  have hlt : i < items.size := by omega
  have hi1 : items[((i : Nat) : Int).toNat]? = some items[i] := by simp [hlt]
  have e1 : items.toList.drop i = items[i] :: items.toList.drop (i + 1) := by rw [drop_eq_getElem_cons (by simpa using hlt)]; simp
  have hc : ((i : Int) + 1) = ((i + 1 : Nat) : Int) := by push_cast; rfl
  rw [e1] at hx
  by_cases hlt2 : i < items2.size
  ·have hi2 : items2[((i : Nat) : Int).toNat]? = some items2[i] := by simp [hlt2]
   have e2 : items2.toList.drop i = items2[i] :: items2.toList.drop (i + 1) := by rw [drop_eq_getElem_cons (by simpa using hlt2)]; simp
   rw [e2] at hx
   obtain ⟨e, he, hx⟩ := hx
   wp_walk using wpAny_loadPart' hl, wpAny_loadPart' hb
   rw [hi1, hi2]
   refine wpAny_bind (he prog w _ _ ?_)
   rcases hx with ⟨rfl, hx⟩ | ⟨rfl, hx⟩
   ·wp_walk
    rw [hc]
    exact ⟨plainId_quiet plain_eq_loop _, codeAny_builtin entry_eq_loop (by
     rw [Around.under_plainId plain_eq_loop _]
     exact ih (i + 1) (by omega) (by omega) (by omega) prog w A R _ ⟨hl, hb, hx, h⟩)⟩
   ·have hri := hx prog w
    wp_walk using wpAny_loadPart' hl, wpAny_loadPart' hb
    rw [hi1, hi2]
    wp_walk using hri
    exact h
  ·have hi2 : items2[((i : Nat) : Int).toNat]? = none := by simp; omega
   have e2 : items2.toList.drop i = [] := drop_eq_nil_of_le (by simp; omega)
   rw [e2] at hx
   have hr : r = decide (items.size < items2.size) := by
    rw [show r = false from hx]
    exact (decide_eq_false (by omega)).symm
   wp_walk using wpAny_loadPart' hl, wpAny_loadPart' hb
   rw [hi1, hi2]
   wp_walk using wpAny_loadPart' hl, wpAny_loadPart' hb
   rw [hr] at h
   exact h
set_option maxHeartbeats 4000000 in
theorem lst_lt (l b : Addr) (items items2 : Array Value) (n n2 : Nat) (dd dd2 : Option Addr) (sl sl2 : Array (Option Value)) (r : Bool) :
  Meets (Builtin.«list.__lt__» ⟨[.ref l, .ref b], []⟩)
   (fun A R s => s.heap.get? l = some { cls := .type "list", dict := dd, data := .seq items n, slots := sl } /\ s.heap.get? b = some { cls := .type "list", dict := dd2, data := .seq items2 n2, slots := sl2 } /\
    LexAt A.in1 s items.toList items2.toList r /\ R (.ok (.ret (.bool r))) s) := by
 intro prog w A R s h
 obtain ⟨hp, g, d, tk, os⟩ := s; obtain ⟨hl, hb, hx, h⟩ := h
 have f3 := AutoSeq1.sub_list_list
 wp_walk using wpAny_loadPart' hl, wpAny_loadPart' hb
 exact ⟨plainId_quiet plain_eq_loop _, codeAny_builtin entry_eq_loop (by
  rw [Around.under_plainId plain_eq_loop _]
  exact lst_lt_loop l b items items2 n n2 dd dd2 sl sl2 r _ 0 rfl (Nat.zero_le _) (Nat.zero_le _) prog w A R _ ⟨hl, hb, by simpa using hx, h⟩)⟩
end
def lexF (eq lt : D -> D -> Option Bool) : List D -> List D -> Option Bool
 | [], [] => some false
 | [], _ :: _ => some true
 | _ :: _, [] => some false
 | d :: ds, e :: es => match eq d e with
  | some true => lexF eq lt ds es
  | some false => lt d e
  | none => none
def ltF : Nat -> D -> D -> Option Bool
 | 0, _, _ => none
 | n + 1, .lst ds, .lst es => lexF (eqF n) (ltF n) ds es
 | n + 1, .tup ds, .tup es => lexF (eqF n) (ltF n) ds es
 | _ + 1, .int i, .int j => some (decide (i < j))
 | _ + 1, _, _ => none
section
variable {X : Cx} {pins : List (Addr × Obj)} {σ : St} {H : Hp} {s : Shared}
theorem lex_at (I : Inv X pins σ H s) (n : Nat) {A : Around} (hu : A.units + n < cLine) (ih : ∀ {x y : V} {v u : Value} {d e : D} {k : Bool}, Rep X.K H x d -> Rep X.K H y e -> RelV x v -> RelV y u -> ltF n d e = some k -> LtAt A s v u k) :
  ∀ {xs ys : List V} {vs us : List Value} {ds es : List D} {k : Bool}, Reps X.K H xs ds -> Reps X.K H ys es -> Vals xs vs -> Vals ys us -> lexF (eqF n) (ltF n) ds es = some k -> LexAt A s vs us k
 | _, _, _, _, _, _, k, .nil, .nil, .nil, .nil, h => by cases h; exact rfl
 | _, _, _, _, _, _, k, .nil, .cons _ _, .nil, .cons _ _, h => by cases h; exact rfl
 | _, _, _, _, _, _, k, .cons _ _, .nil, .cons _ _, .nil, h => by cases h; exact rfl
 | _, _, _, _, _, _, k, .cons (d := d) r1 t1, .cons (d := e) r2 t2, .cons q1 p1, .cons q2 p2, h => by
  unfold lexF at h
  cases hq : eqF n d e with
  | none => rw [hq] at h; cases h
  | some b =>
   rw [hq] at h
   refine ⟨b, (eq_at I n hu r1 r2 q1 q2 hq).1, ?_⟩
   cases b with
   | true => exact .inl ⟨rfl, lex_at I n hu ih t1 t2 p1 p2 h⟩
   | false => exact .inr ⟨rfl, ih r1 r2 q1 q2 h⟩
theorem lt_at (I : Inv X pins σ H s) : ∀ (n : Nat) {A : Around} {x y : V} {v u : Value} {d e : D} {k : Bool}, A.units + n < cLine -> Rep X.K H x d -> Rep X.K H y e -> RelV x v -> RelV y u -> ltF n d e = some k -> LtAt A s v u k
 | 0, A, x, y, v, u, d, e, k, hu, r1, r2, q1, q2, h => by simp [ltF] at h
 | n + 1, A, x, y, v, u, d, e, k, hu, r1, r2, q1, q2, h => by
  have hu0 : A.units < cLine := by omega
  have hu1 : A.in1.units + n < cLine := by show A.units + 1 + n < cLine; omega
  cases d with
  | int i =>
   cases e with
   | int j =>
    obtain rfl := r1.i'
    obtain rfl := r2.i'
    obtain ⟨t, rfl⟩ := q1
    obtain ⟨t', rfl⟩ := q2
    cases h
    exact fun prog w E Q hQ => HT.rcLt_int A s i t j t' prog w E Q hQ
   | _ => cases h
  | lst ds1 =>
   cases e with
   | lst ds2 =>
    obtain ⟨a1, xs1, rfl, sq, rs⟩ := r1.l'
    obtain ⟨a2, xs2, rfl, sq2, rs2⟩ := r2.l'
    cases q1; cases q2
    obtain ⟨its, vr, ⟨⟨cls, dd, data, sl⟩, m, ho, hc, hdd, hd⟩, _⟩ := I.list sq
    obtain ⟨its2, vr2, ⟨⟨cls2, dd2, data2, sl2⟩, m2, ho2, hc2, hdd2, hd2⟩, _⟩ := I.list sq2
    simp only at hc hd hc2 hd2
    subst hc hd hc2 hd2
    have L := lex_at I n hu1 (fun a b c d e => lt_at I n hu1 a b c d e) rs rs2 vr vr2 (show lexF (eqF n) (ltF n) _ _ = some k from h)
    intro prog w E Q hQ
    exact richCompare_meets_room (op := .Lt) ⟨_, ho, rfl⟩ ⟨_, ho2, rfl⟩ PySem.F.slot_list_lt PySem.F.entry_list_lt (PySem.F.args_list_lt_2 _ _) (lst_lt _ _ its.toArray its2.toArray m m2 dd dd2 sl sl2 k)
     ⟨ho, ho2, by simpa using L, show Value.bool k ≠ Value.notImplemented /\ Q (.bool k) s from ⟨(fun x => nomatch x), hQ⟩⟩ hu0
   | _ => cases h
  | tup ds1 =>
   cases e with
   | tup ds2 =>
    obtain ⟨a1, xs1, rfl, sq, rs⟩ := r1.t'
    obtain ⟨a2, xs2, rfl, sq2, rs2⟩ := r2.t'
    cases q1; cases q2
    obtain ⟨its, vr, ⟨⟨cls, dd, data, sl⟩, ho, hc, m, hd⟩, _⟩ := I.tuple sq
    obtain ⟨its2, vr2, ⟨⟨cls2, dd2, data2, sl2⟩, ho2, hc2, m2, hd2⟩, _⟩ := I.tuple sq2
    simp only at hc hd hc2 hd2
    subst hc hd hc2 hd2
    have L := lex_at I n hu1 (fun a b c d e => lt_at I n hu1 a b c d e) rs rs2 vr vr2 (show lexF (eqF n) (ltF n) _ _ = some k from h)
    intro prog w E Q hQ
    exact richCompare_meets_room (op := .Lt) ⟨_, ho, rfl⟩ ⟨_, ho2, rfl⟩ PySem.F.slot_tuple_lt PySem.F.entry_tuple_lt (PySem.F.args_tuple_lt_2 _ _) (tup_lt _ _ its.toArray its2.toArray m m2 dd dd2 sl sl2 k)
     ⟨ho, ho2, by simpa using L, show Value.bool k ≠ Value.notImplemented /\ Q (.bool k) s from ⟨(fun x => nomatch x), hQ⟩⟩ hu0
   | _ => cases h
  | _ => cases h
end
end
section
def minF (mk : D -> Option D) : List D -> D -> D -> Option D
 | [], b, _ => some b
 | d :: ds, b, kb => match mk d with
  | some kd => (match ltF 8 kd kb with | some true => minF mk ds d kd | some false => minF mk ds b kb | none => none)
  | none => none
section
variable {X : Cx} {pins : List (Addr × Obj)} {σ : St}
theorem FpOk.now {H H' : Hp} {b : Addr} (h : FpOk X pins H b) (hn : H' b = none) : FpOk X pins H' b := ⟨hn, h.2⟩
theorem Inv.pin2 {H : Hp} {s : Shared} {a b : Addr} {oa ob : Obj} (I : Inv X pins σ H s) (ha : FpOk X pins H a) (hb : FpOk X pins H b) (ea : s.heap.get? a = some oa) (eb : s.heap.get? b = some ob) (da : ∀ v, oa.data ≠ .cell v) (db : ∀ v, ob.data ≠ .cell v) : Inv X (pins ++ [(a, oa), (b, ob)]) σ H s :=
 I.pins_of fun p hp => by
  rcases List.mem_append.mp hp with hp | hp
  ·exact I.pin p (mem_append_right _ hp)
  ·simp only [mem_cons, not_mem_nil, or_false] at hp
   rcases hp with rfl | rfl
   ·exact ⟨ea, ha.1, ha.2.1, ha.2.2.1, da⟩
   ·exact ⟨eb, hb.1, hb.2.1, hb.2.2.1, db⟩
end
end
section
section
variable {X : Cx} {pins : List (Addr × Obj)} {σ : St}
end
end
section
section
variable {prog : Program} {w : World} {A : Around} {E : Value -> Shared -> Prop} {s : Shared}
end
def Itdn (hi : Int) (n : Nat) : It := ⟨fun i _ => i < n, fun i H x H' => H' = H /\ x = .int (hi - i), fun i _ => n <= i⟩
theorem turn_down {P : Program} {w : World} {K : PySem.W.Frag} {tg : Expr} (it : Addr) (lo : Int) (n : Nat) : Turn P w K tg (Itdn lo n) [it] it (fun i h => IsRangeIter h it (lo + (i : Nat) * (-1)) ((n : Int) - (i : Nat)) (-1)) where
 mem := by simp
 obj := fun i h st b hb => by
  have e : b = it := by simpa using hb
  subst e
  exact ⟨_, st, fun v z => by
   have z' : Data.fields _ = Data.cell v := z
   cases z'⟩
 keep := fun i h h' st k => k it (by simp) _ st
 item := by
  intro X hP hw hK hc i pins s σ H E I hf st hg
  subst hP hw hK
  obtain ⟨f0, f1, f2, f3, f4, f5⟩ := hf it (by simp)
  have W := Walks.range (prog := X.prog) (w := X.w) (I.ok.hd hc) it lo (-1) n
  refine W.item i s _ _ hg st fun v h' tk hv st' kk => ?_
  obtain ⟨t, rfl⟩ := hv
  have I1 : Inv X pins σ H { s with heap := h', toks := tk } := I.turned (fun b o hb e => kk b o (by simpa using hb) e) f0 f1 f3 f4 f5
  refine ⟨_, rfl, go_of (s := { s with heap := h', toks := tk }) (n := "range_iterator") st' rfl rfl (by decide) ⟨.int (lo - i), H, I1, ⟨t, ?_⟩, ⟨rfl, rfl⟩, st', fun b hb => (hf b hb).1⟩⟩
  rw [show lo + (i : Int) * (-1) = lo - i by omega]
 done := by
  intro X hP hw hK hc i pins s σ H E I hf st hg
  subst hP hw hK
  obtain ⟨f0, f1, f2, f3, f4, f5⟩ := hf it (by simp)
  exact wpAny_pyNext_range_end (I.ok.hd hc) st (by have : n <= i := hg; omega) fun h' eb => ⟨rfl, I.turned (t' := s.toks) (fun b o hb e => eb b o hb e) f0 f1 f3 f4 f5⟩
 self := fun _ _ _ _ _ st h => wpAny_pyIter_rangeiter st h
section
variable {X : Cx}
def downD (n : Nat) : List D := (List.range n).map fun (i : Nat) => D.int ((n : Int) - 1 - (i : Int))
theorem downD_length (n : Nat) : (downD n).length = n := by unfold downD; simp
theorem itd_down {K : W.Frag} {F : Hp} {n : Nat} : ItD K F (Itdn ((n : Int) - 1) n) (downD n) where
 go := fun i F1 H1 a b hi => by rw [downD_length] at hi; exact hi
 yld := fun i F1 H1 x H2 d a b e y => by
  obtain ⟨rfl, rfl⟩ := y
  unfold downD at e
  rw [getElem?_map] at e
  have hi : i < n := by
   rcases Nat.lt_or_ge i n with h | h
   ·exact h
   ·rw [getElem?_eq_none (by simpa using h)] at e; cases e
  rw [getElem?_range hi] at e
  cases e
  exact ⟨F1, .refl b, .int _⟩
 stop := fun F1 H1 a b => by rw [downD_length]; exact Nat.le_refl n
end
end
section
section
variable {X : Cx} {a b : Expr} {pos : Pos}
end
end
section
section
variable {X : Cx} {e : Expr} {pos : Pos} {es : List Expr} {E : XK} {mf : MG} {st : Stmt} {na : MEm}
end
section
variable {X : Cx} {a b : Expr} {pos : Pos}
end
end
section
def minN (mk : D -> Option D) (ds : List D) : Option D := match ds with
 | [] => none
 | d :: ds => (match mk d with | some kd => minF mk ds d kd | none => none)
section
variable {X : Cx} {pins : List (Addr × Obj)} {σ : St}
end
end
section
section
variable {X : Cx} {pins : List (Addr × Obj)} {σ : St}
end
end
section
def minP : List D -> D -> Option D
 | [], b => some b
 | d :: ds, b => (match ltF 8 d b with | some true => minP ds d | some false => minP ds b | none => none)
section
variable {X : Cx} {pins : List (Addr × Obj)} {σ : St}
set_option maxHeartbeats 8000000 in
theorem min_loop0 (hc : X.calm = true) (hu : X.A.units + 64 < cLine) {l I S : Addr} {xs : List V} {ds : List D} {kw : List (Str × Value)} {dm : D} (hIS : I ≠ S) (hlI : l ≠ I) (hlS : l ≠ S) :
  ∀ (r j : Nat) (H F H0 F0 : Hp) (s : Shared) (xb : V) (vb : Value) (db : D) (c : Nat) (R : Result -> Shared -> Prop),
   ds.length - (j + 1) = r -> j + 1 <= ds.length -> Inv X pins σ H s -> Ext F0 H0 F H -> SqL X.K H l xs -> Reps X.K F xs ds -> s.heap.IsListIter I l (j + 1) -> s.heap.get? S = some (seqObj "list" #[vb, vb] c) -> FpOk X pins H I -> FpOk X pins H S ->
   RelV xb vb -> Rep X.K F xb db -> minP (ds.drop (j + 1)) db = some dm ->
   (∀ x v F' H' s', Inv X pins σ H' s' -> RelV x v -> Ext F0 H0 F' H' -> Rep X.K F' x dm -> R (.ok (.ret v)) s') ->
   codeAny (model X.prog X.w) X.A (.builtin "min.loop" ⟨[.ref I, .none, .ref S], kw⟩) R s := by
 have hname : (toString "min" ++ toString ".loop" : String) = "min.loop" := by decide
 intro r
 induction r with
 | zero =>
  intro j H F H0 F0 s xb vb db c R hr hj I' ext sq rs hit hS fI fS rb pb hm hR
  have hin : j + 1 = ds.length := by omega
  obtain ⟨its, vr, pl, _⟩ := I'.list sq
  have zl : its.length = ds.length := by rw [<- vr.length, rs.length]
  rw [hin, drop_length] at hm
  have hm : some db = some dm := hm
  cases hm
  refine codeAny_builtin PySem.F.entry_min_loop ?_
  rw [Around.under_plainId PySem.F.plain_min_loop _]
  show wpAny _ X.A.in1 (seqItems? (.ref S) >>= _) _ _ _
  refine wpAny_bind (wpAny_seqItems hS rfl ?_)
  show wpAny _ X.A.in1 (tryCatch (pyNext (.ref I)) _ >>= _) _ _ _
  refine wpAny_bind (wpAny_tryCatch (wpAny_pyNext_list_end (I'.ok.hd hc) hit pl.isList (by simp; omega) fun h' hk' => ?_))
  have hS' : h'.get? S = some (seqObj "list" #[vb, vb] c) := hk' S _ (Ne.symm hIS) hS
  have s1 := Heap.SameBut.update h' S (Obj.mapSeq fun _ => (#[] : Array Value))
  show wpAny _ X.A.in1 (updateSeq S (fun _ => #[]) >>= _) _ _ _
  refine wpAny_bind ?_
  refine wpAny_updateSeq hS' rfl (wpAny_bind (wpAny_letGo (wpAny_pure ?_)))
  have I9 : Inv X pins σ H { s with heap := h'.update S (Obj.mapSeq fun _ => (#[] : Array Value)), toks := s.toks } := I'.turnedL (fp := [I, S]) (t' := s.toks) (fun b o hb e => by
   simp only [mem_cons, not_mem_nil, or_false, not_or] at hb
   exact (s1.2 b hb.2).trans (hk' b o hb.1 e)) (fun b hb => by
   simp only [mem_cons, not_mem_nil, or_false] at hb
   rcases hb with rfl | rfl <;> assumption)
  exact hR xb vb F H _ I9 rb ext pb
 | succ r ih =>
  intro j H F H0 F0 s xb vb db c R hr hj I' ext sq rs hit hS fI fS rb pb hm hR
  have hlt : j + 1 < ds.length := by omega
  obtain ⟨its, vr, pl, _⟩ := I'.list sq
  have zl : its.length = ds.length := by rw [<- vr.length, rs.length]
  obtain ⟨d, hd⟩ : ∃ d, ds[j + 1]? = some d := ⟨_, getElem?_eq_getElem hlt⟩
  obtain ⟨x, hx, px⟩ := rs.get hd
  obtain ⟨v, hv, rx⟩ := vr.get hx
  rw [drop_get hd] at hm
  unfold minP at hm
  refine codeAny_builtin PySem.F.entry_min_loop ?_
  rw [Around.under_plainId PySem.F.plain_min_loop _]
  show wpAny _ X.A.in1 (seqItems? (.ref S) >>= _) _ _ _
  refine wpAny_bind (wpAny_seqItems hS rfl ?_)
  show wpAny _ X.A.in1 (tryCatch (pyNext (.ref I)) _ >>= _) _ _ _
  refine wpAny_bind (wpAny_tryCatch (wpAny_pyNext_list_item hit pl.isList (by simpa using hv) fun h1 hit1 s1 => ?_))
  have I1 : Inv X pins σ H { s with heap := h1, toks := s.toks } := I'.turnedL (fp := [I]) (fun b o hb e => s1.extBut b o (by simpa using hb) e) (fun b hb => by rw [List.mem_singleton.mp hb]; exact fI)
  have hS1 : h1.get? S = some (seqObj "list" #[vb, vb] c) := s1.extBut _ _ (Ne.symm hIS) hS
  cases hlt8 : ltF 8 d db with
  | none => rw [hlt8] at hm; cases hm
  | some bt =>
   rw [hlt8] at hm
   have hcmp := lt_at I1 8 (A := X.A.in1) (by show X.A.units + 1 + 8 < cLine; omega) (px.mono ext.fh) (pb.mono ext.fh) rx rb hlt8
   refine wpAny_bind (wpAny_pure ?_)
   show wpAny _ X.A.in1 (tryCatch (holding [v, v] (richCompare .Lt v vb >>= _)) _ >>= _) _ _ _
   refine wpAny_bind (wpAny_tryCatch (wpAny_holding (wpAny_bind (hcmp X.prog X.w _ _ ?_))))
   refine wpAny_bind (wpAny_holding (wpAny_truthy_bool ?_))
   refine wpAny_bind (wpAny_letGo (wpAny_pure ?_))
   cases bt with
   | true =>
    have s3 := Heap.SameBut.update h1 S (Obj.mapSeq fun _ => #[v, v])
    obtain ⟨c2, hc2⟩ : ∃ c2, (h1.update S (Obj.mapSeq fun _ => #[v, v])).get? S = some (seqObj "list" #[v, v] c2) := ⟨_, get?_update_seq hS1 fun _ => #[v, v]⟩
    simp only [if_true]
    refine wpAny_bind ?_
    refine wpAny_updateSeq hS1 rfl (wpAny_bind (wpAny_letGo ?_))
    rw [hname]
    have I3 := I1.turnedL (h' := h1.update S (Obj.mapSeq fun _ => #[v, v])) (t' := s.toks) (fp := [S]) (fun b o hb e => (s3.2 b (by simpa using hb)).trans e) (fun b hb => by rw [List.mem_singleton.mp hb]; exact fS)
    refine wpAny_pure ⟨plainId_quiet PySem.F.plain_min_loop _, ih (j + 1) H F H0 F0 _ x v d c2 R (by omega) hlt I3 ext sq rs (hit1.at fun o e => (s3.2 I hIS).trans e) hc2 fI fS rx px hm hR⟩
   | false =>
    simp only [Bool.false_eq_true, if_false]
    refine wpAny_bind (wpAny_letGo ?_)
    rw [hname]
    refine wpAny_pure ⟨plainId_quiet PySem.F.plain_min_loop _, ih (j + 1) H F H0 F0 _ xb vb db c R (by omega) hlt I1 ext sq rs hit1 hS1 fI fS rb pb hm hR⟩
end
theorem args_min_1 (a : Value) : argsOk "min" ⟨[a], []⟩ := by unfold argsOk; kernel_rfl
def rMinP (K : W.Frag) : List V -> Hp -> VK -> Prop := fun vs H Q => ∃ p xs d ds dm F, vs = [.ref p] /\ SqL K H p xs /\ Same F H /\ Reps K F xs (d :: ds) /\ minP ds d = some dm /\ ∀ x F' H', Ext F H F' H' -> Rep K F' x dm -> Q x H'
section
variable {X : Cx}
set_option maxHeartbeats 8000000 in
theorem call_minP (hc : X.calm = true) (hu : X.A.units + 64 < cLine) : CallR X (.builtin "min") (rMinP X.K) := by
 intro pins s σ H vs us Q I r h
 obtain ⟨l, xs, d, ds, dm, F, rfl, sq, sf, rs, hm, q⟩ := h
 obtain ⟨u, rfl, ru⟩ := vals1 r
 cases ru
 have hname : (toString "min" ++ toString ".loop" : String) = "min.loop" := by decide
 obtain ⟨its, vr, pl, _⟩ := I.list sq
 have hls := pl.isList
 obtain ⟨ol, hol, _⟩ := id hls
 have hll : l < s.heap.objs.size := Heap.lt_size hol
 refine kmk_tree PySem.F.kind_min PySem.F.plain_min PySem.F.entry_min (args_min_1 _) ?_
 show wpAny _ X.A.in1 (Builtin.Builtins.bindParams "min" ["key", "default"] 0 ⟨[], []⟩ >>= _) _ _ s
 refine wpAny_bind (wpAny_of_eq (show Builtin.Builtins.bindParams "min" ["key", "default"] 0 ⟨[], []⟩ = pure [none, none] from rfl) ?_)
 refine wpAny_bind (wpAny_pure ?_)
 refine wpAny_bind (wpAny_pyIter_list hls ?_)
 refine wpAny_bind (wpAny_newList ?_ (Nat.zero_le _))
 rw [hname]
 refine wpAny_pure ⟨plainId_quiet PySem.F.plain_min_loop _, ?_⟩
 generalize hIo : ({ cls := .type "list_iterator", data := .fields #[.ref l, .int 0 0] } : Obj) = oI0
 have hS : (s.heap.push oI0).objs.size = s.heap.objs.size + 1 := size_push' ..
 have hlI : l ≠ s.heap.objs.size := Nat.ne_of_lt hll
 have hlS : l ≠ (s.heap.push oI0).objs.size := by rw [hS]; exact Nat.ne_of_lt (Nat.lt_succ_of_lt hll)
 have hIS : s.heap.objs.size ≠ (s.heap.push oI0).objs.size := by rw [hS]; exact Nat.ne_of_lt (Nat.lt_succ_self _)
 have gI : ((s.heap.push oI0).push (seqObj "list" #[] 0)).get? s.heap.objs.size = some oI0 := Heap.get?_push_of_some _ (Heap.get?_push_size _ (by rw [<- hIo]; rfl))
 have gS : ((s.heap.push oI0).push (seqObj "list" #[] 0)).get? (s.heap.push oI0).objs.size = some (seqObj "list" #[] 0) := Heap.get?_push_size _ rfl
 have fI : FpOk X pins H s.heap.objs.size := I.fpOk (Nat.le_refl _) (I.hok.fresh (Nat.le_refl _))
 have fS : FpOk X pins H (s.heap.push oI0).objs.size := I.fpOk (by rw [hS]; exact Nat.le_succ _) (I.hok.fresh (by rw [hS]; exact Nat.le_succ _))
 have I0 : Inv X pins σ H { s with heap := (s.heap.push oI0).push (seqObj "list" #[] 0), toks := s.toks } := I.turnedL (fp := []) (fun b o _ e => Heap.get?_push_of_some _ (Heap.get?_push_of_some _ e)) (fun b hb => by cases hb)
 generalize (s.heap.push oI0).objs.size = S at *
 generalize hI : s.heap.objs.size = J at *
 generalize (s.heap.push oI0).push (seqObj "list" #[] 0) = h0 at *
 have hit : h0.IsListIter J l 0 := ⟨_, gI, by rw [<- hIo], by rw [<- hIo]; rfl⟩
 obtain ⟨its', vr', pl', _⟩ := I0.list sq
 refine codeAny_builtin PySem.F.entry_min_loop ?_
 rw [Around.under_plainId PySem.F.plain_min_loop _]
 show wpAny _ X.A.in1 (seqItems? (.ref S) >>= _) _ _ _
 refine wpAny_bind (wpAny_seqItems gS rfl ?_)
 show wpAny _ X.A.in1 (tryCatch (pyNext (.ref J)) _ >>= _) _ _ _
 obtain ⟨x, hx, px⟩ := rs.get (i := 0) (d := d) rfl
 obtain ⟨v, hv, rx⟩ := vr'.get hx
 refine wpAny_bind (wpAny_tryCatch (wpAny_pyNext_list_item hit pl'.isList (by simpa using hv) fun h1 hit1 s1 => ?_))
 have I1 := I0.turnedL (h' := h1) (t' := s.toks) (fp := [J]) (fun b o hb e => s1.extBut b o (by simpa using hb) e) (fun b hb => by rw [List.mem_singleton.mp hb]; exact fI)
 have hS1 : h1.get? S = some (seqObj "list" #[] 0) := s1.extBut _ _ (Ne.symm hIS) gS
 refine wpAny_bind (wpAny_pure ?_)
 have s3 := Heap.SameBut.update h1 S (Obj.mapSeq fun _ => #[v, v])
 obtain ⟨c2, hc2⟩ : ∃ c2, (h1.update S (Obj.mapSeq fun _ => #[v, v])).get? S = some (seqObj "list" #[v, v] c2) := ⟨_, get?_update_seq hS1 fun _ => #[v, v]⟩
 show wpAny _ X.A.in1 (updateSeq S (fun _ => #[v, v]) >>= _) _ _ _
 refine wpAny_bind (wpAny_updateSeq hS1 rfl ?_)
 rw [hname]
 have I3 := I1.turnedL (h' := h1.update S (Obj.mapSeq fun _ => #[v, v])) (t' := s.toks) (fp := [S]) (fun b o hb e => (s3.2 b (by simpa using hb)).trans e) (fun b hb => by rw [List.mem_singleton.mp hb]; exact fS)
 refine wpAny_pure ⟨plainId_quiet PySem.F.plain_min_loop _, min_loop0 hc hu (ds := d :: ds) (dm := dm) hIS hlI hlS _ 0 H F H F _ x v d c2 _ rfl (by simp) I3 (.refl sf) sq rs (hit1.at fun o e => (s3.2 J hIS).trans e) hc2 fI fS rx px hm fun x v F' H' s' a b c d => ⟨x, H', a, b, q x F' H' c d⟩⟩
@[irreducible] def mminP (m : ML) : ME := fun ρ => match m ρ with | some (d :: ds) => minP ds d | _ => none
theorem pd_minP {p pos : Pos} {e : Expr} {m : ML} (hc : X.calm = true) (hu : X.A.units + 64 < cLine) (hg : Gl X "min") (hm : X.mg "min" = none) (ha : PB X e m) (hs : starEach (e :: []) X.env = (false, eval e X.env) :: starEach [] X.env := by rfl) (he : starEach [e] X.env = (false, eval e X.env) :: starEach [] X.env := by rfl) (hpl : (backTo pos (starEach [] X.env)).any (·.1) = false := by rfl) : PD X (.Call (.Name "min" p) [e] [] pos) (mminP m) :=
 (pe_callB (call_minP hc hu) hg hm PyProof.Rows.boot_min (pa_cons ha pa_nil hs) (by decide) (by decide) he hpl).imp fun σ H Q hpat => by
  obtain ⟨F0, H0, F, ρ, g, rl, e, q⟩ := hpat
  unfold mminP at e
  split at e
  ·rename_i d ds h1
   exact ⟨F0, H0, F, ρ, d :: ds, rl, h1, fun p xs F1 H1 x1 s1 r1 => ⟨p, xs, d, ds, g, F1, rfl, s1, x1.fh, r1, e, fun x F' H' x2 rx => q x F' H' (x1.trans x2) rx⟩⟩
  ·cases e
end
end
section
section
variable {X : Cx} {pins : List (Addr × Obj)} {σ : St}
end
end
end L2
namespace L2
open List
open PySem PySem.Spec PyProof.Rows PySem.Builtin PySem.Builtin.Str
section
section
variable {X : Cx} {a b c e o : Expr} {ma mb mo : ME} {pos : Pos}
theorem reps_strs {K : W.Frag} {F : Hp} : ∀ (l : List Str), Reps K F (l.map V.str) (l.map D.str)
 | [] => .nil
 | z :: l => .cons (.str z) (reps_strs l)
end
end
section
section
variable {X : Cx} {a b c e o : Expr} {ma mb mo : ME} {pos : Pos}
end
end
end L2
namespace L2
open List
open PySem PySem.Spec PyProof.Rows
section
section
variable {X : Cx} {a b c e o : Expr} {ma mb mo : ME} {pos : Pos} {st : Stmt}
end
end
section
section
variable {prog : Program} {w : World} {A : Around} {E : Value -> Shared -> Prop} {s : Shared} {l : Addr} {xs : Array (Int × Tok)}
end
section
variable {X : Cx} {a b c e o : Expr} {ma mb mo : ME} {pos : Pos} {st : Stmt}
end
section
variable {X : Cx} {a b c e : Expr} {na nb : MEm} {pos : Pos} {st : Stmt} {es : List Expr} {E : XK} {mf : MF} {m : MLm}
abbrev MBm := Ro -> Option (Bool × Ro)
end
end
section
section
variable {X : Cx} {a b c e : Expr} {na nb : MEm} {pos : Pos} {st : Stmt} {es : List Expr} {m : MLm}
end
section
variable {X : Cx} {pos : Pos}
end
end
section
section
variable {X : Cx} {e : Expr} {na : MEm} {pos : Pos} {st : Stmt} {es : List Expr} {m : ML} {mf : MG} {E : XK}
def NoL (K : W.Frag) : Prop := ∀ p o, List.lookup p K = some o -> o.cls ≠ .type "list"
def noLb : W.Frag -> Bool
 | [] => true
 | (_, o) :: r => (match o.cls with | .type c => c != "list" | _ => true) && noLb r
theorem NoL.of : ∀ {K : W.Frag}, noLb K = true -> NoL K
 | [], _ => fun p o e => by cases e
 | (a, o') :: r, h => fun p o e z => by
  have h : ((match o'.cls with | .type c => c != "list" | _ => true) && noLb r) = true := h
  rw [Bool.and_eq_true] at h
  rw [lookup_cons] at e
  split at e
  ·cases e
   rw [z] at h
   exact absurd h.1 (by decide)
  ·exact NoL.of h.2 p o e z
open Classical in
end
end
section
def rng3 : List D -> Option (List D)
 | [.int i, .int j, .int k] => if -1 <= i /\ i < 2 ^ 61 /\ j = -1 /\ k = -1 then some (downD (i + 1).toNat) else none
 | _ => none
theorem size_down (i : Int) (h : -1 <= i) : Builtin.Range.rangeSize i (-1) (-1) = ((i + 1).toNat : Int) := by
 unfold Builtin.Range.rangeSize
 rw [if_neg (by decide)]
 split
 ·rw [show (-(-1) : Int) = 1 by decide, Int.ediv_one]; omega
 ·omega
theorem small_down (i : Int) (h : -1 <= i) (h2 : i < 2 ^ 61) : Builtin.Range.small i (-1) (-1) = true := by
 unfold Builtin.Range.small
 rw [size_down i h]
 unfold Builtin.Range.rangeFitsLong
 simp
 omega
section
variable {X : Cx}
theorem pid_range3 {tg a b c : Expr} {m : ML} {p pos : Pos} (hg : Gl X "range") (hm : X.mg "range" = none) (ha : PAs X [a, b, c] m) (he : starEach [a, b, c] X.env = (false, eval a X.env) :: starEach [b, c] X.env := by rfl) (hpl : (backTo pos (starEach [b, c] X.env)).any (·.1) = false := by rfl) :
  PId X tg (.Call (.Name "range" p) [a, b, c] [] pos) (mlist rng3 m) := by
 intro pins s σ H R I h
 obtain ⟨F0, H0, F, ρ, its, rl, e, q⟩ := h
 obtain ⟨ds, h1, h2⟩ := mlist_some e
 refine Call_ (ld_blt I hg hm boot_range (PyProof.Rows.callWith_type1 (thn (ha pos pins s σ H (fun vs H1 => ∃ i : Int, vs = [.int i, .int (-1), .int (-1)] /\ -1 <= i /\ i < 2 ^ 61 /\ R (Itdn i (i + 1).toNat) H1) I ⟨F0, H0, F, ρ, ds, rl, h1, fun vs F1 H1 x1 r1 => ?_⟩) fun us s1 ⟨vs, H1, I1, r1, q1⟩ => ?_) he hpl))
 ·unfold rng3 at h2
  split at h2
  ·rename_i i j k
   split at h2
   ·rename_i hk
    obtain ⟨k1, k2, rfl, rfl⟩ := hk
    cases h2
    cases r1 with
    | cons r rr =>
     cases rr with
     | cons r2 rr =>
      cases rr with
      | cons r3 rr =>
       cases rr; cases r; cases r2; cases r3
       refine ⟨i, rfl, k1, k2, q _ F1 H1 x1 ?_⟩
       have : i = ((i + 1).toNat : Int) - 1 := by omega
       have z := itd_down (K := X.K) (F := F1) (n := (i + 1).toNat)
       rw [<- this] at z
       exact z
   ·cases h2
  ·cases h2
 ·obtain ⟨i, e, k1, k2, q⟩ := q1
  subst e
  cases r1 with
  | cons r rr =>
   cases rr with
   | cons r2 rr =>
    cases rr with
    | cons r3 rr =>
     cases rr
     obtain ⟨t, rfl⟩ := r
     obtain ⟨t2, rfl⟩ := r2
     obtain ⟨t3, rfl⟩ := r3
     refine call_range_3 (by decide) ?_ (Or.inl (PyProof.noPylong_small (by omega)))
     refine wpAny_pyIter_range (IsRange.new ..) (small_down i k1 k2) ?_
     have I2 : Inv X pins σ H1 { s1 with heap := s1.heap.push { cls := .type "range", data := .fields #[.int i t, .int (-1) t2, .int (-1) t3] }, toks := s1.toks } := I1.kept fun b o e => Heap.get?_push_of_some _ e
     refine ⟨_, [(s1.heap.push { cls := .type "range", data := .fields #[.int i t, .int (-1) t2, .int (-1) t3] }).objs.size], _, _, H1, rfl,
      I2.kept (t' := s1.toks) fun b o e => Heap.get?_push_of_some _ e, turn_down _ i (i + 1).toNat, ?_, fun b hb => ?_, q⟩
     ·have e1 : i + ((0 : Nat) : Int) * (-1) = i := by simp
      have e2 : (((i + 1).toNat : Nat) : Int) - ((0 : Nat) : Int) = Builtin.Range.rangeSize i (-1) (-1) := by rw [size_down i k1]; simp
      show IsRangeIter _ _ (i + ((0 : Nat) : Int) * (-1)) ((((i + 1).toNat : Nat) : Int) - ((0 : Nat) : Int)) (-1)
      rw [e1, e2]
      exact Heap.get?_push_size _ rfl
     ·have e : b = (s1.heap.push { cls := .type "range", data := .fields #[.int i t, .int (-1) t2, .int (-1) t3] }).objs.size := by simpa using hb
      subst e
      exact I2.fpOk (Nat.le_refl _) (I2.hok.fresh (Nat.le_refl _))
end
end
section
section
variable {X : Cx} {e : Expr} {pos : Pos}
@[irreducible] def many (m : ML) : ME := fun ρ => match m ρ with | some ds => (match intsD ds with | some ns => some (.bl (ns.any fun i => i != 0)) | none => none) | none => none
end
end
section
section
variable {X : Cx} {e : Expr} {ma : ME} {pos : Pos}
end
end
section
section
variable {X : Cx} {e : Expr} {ma : ME} {pos : Pos}
end
end
section
def IsRev (h : Heap) (a l : Addr) (k : Int) : Prop := ∃ o, h.get? a = some o /\ o.cls = .type "list_reverseiterator" /\ o.data = .fields #[.ref l, rawInt k]
section
variable {prog : Program} {w : World} {A : Around} {E : Value -> Shared -> Prop} {s : Shared}
theorem IsRev.ty {a l : Addr} {k : Int} (h : IsRev s.heap a l k) : s.TypeIs (.ref a) "list_reverseiterator" := by
 obtain ⟨o, e, c, d⟩ := h
 exact ⟨o, e, c⟩
end
section
variable {X : Cx}
end
end
section
section
variable {X : Cx} {a : Expr} {na : MEm} {pos : Pos} {ca : MBm}
end
end
section
section
variable {X : Cx} {a b : Expr} {m : ML} {pos : Pos}
end
end
end L2
namespace L2
open List
open PySem PySem.Spec PyProof.Rows PySem.W PySem.Builtin PySem.Builtin.ObjectAttr PySem.Builtin.Getset_descriptor
section
structure XCls (K : W.Frag) (C : Addr) : Prop where
 ga : findIn K (.ref C) "__getattribute__" = some (some (.builtin "BaseException.__getattribute__"))
 nog : findIn K (.ref C) "__getattr__" = some none
 cl : findIn K (.ref C) "__class__" = some (some (.builtin "object.__class__"))
 ob : mroIn K C (.type "object") = some true
 be : mroIn K C (.type "BaseException") = some true
section
variable {prog : Program} {w : World} {A : Around} {E : Value -> Shared -> Prop} {K : W.Frag} {x C : Addr} {ox : Obj} {h : Heap} {g : Array GenState} {d : Drawn} {t : Nat} {os : OsState}
end
end
end L2
namespace L2
open List
open PySem PySem.Spec PyProof.Rows
section
structure Flown (P : Program) (w : World) (outer : List Env) (H : Hp) (s : Shared) (H' : Hp) (B h' : Heap) : Prop where
 un : Un (frs outer) [] H H' s.heap h'
 ok : HOk P w H' h'
 st : B.StaysIn h'
 trk : ∀ b o, H' b = some o -> ∃ ob, B.get? b = some ob
 old : ∀ b o, s.heap.get? b = some o -> b ∉ frs outer -> ∃ ob, B.get? b = some ob
section
variable {P : Program} {w : World} {outer : List Env} {H H' : Hp} {s : Shared} {B h1 h2 base : Heap}
theorem Flown.on (f : Flown P w outer H s H' B h1) (fr : h1.FunFrames base outer) (st : B.StaysIn h2) (up : h1.UpToSlots h2) : Flown P w outer H s H' B h2 := by
 have same : ∀ b o, h1.get? b = some o -> (∃ ob, B.get? b = some ob) -> h2.get? b = some o := fun b o e hpat => by
  obtain ⟨ob, eb⟩ := hpat
  have := f.st b ob eb
  rw [e] at this; cases this
  exact st b o eb
 have fslot : ∀ b o, b ∈ frs outer -> h1.get? b = some o -> ∃ sl, h2.get? b = some { o with slots := sl } := fun b o hb e => by
  obtain ⟨_, o', e', hd⟩ := fr.mem hb
  rw [e] at e'; cases e'
  exact up b o e hd
 refine ⟨⟨fun b o e n hb hx => same b o (f.un.keep b o e n hb hx) (f.old b o e hb), fun b o e n hb hx => ?_, f.un.free, fun b o e hx => ?_, f.un.tups, f.un.frzs, f.un.tbls⟩, fun b u e => ?_, st, f.trk, f.old⟩
 ·obtain ⟨sl, e1⟩ := f.un.slot b o e n hb hx
  obtain ⟨sl2, e2⟩ := fslot b _ hb e1
  exact ⟨sl2, e2⟩
 ·by_cases hb : b ∈ frs outer
  ·obtain ⟨o1, e1⟩ := f.un.there b o e hx
   obtain ⟨sl2, e2⟩ := fslot b _ hb e1
   exact ⟨_, e2⟩
  ·obtain ⟨ob, eb⟩ := f.old b o e hb
   exact ⟨ob, st b ob eb⟩
 ·refine (f.ok b u e).stay (fun c v hc q => same c v q ?_) (fun _ q => q) fun _ _ q => q
  rcases hc with z | z
  ·rw [z]; exact f.trk b u e
  ·exact f.trk c _ z
end
structure Top (X : Cx) : Prop where
 stk : X.stack = X.env :: X.outer
 frm : X.env.frame = some X.env.locals
 ex : X.ex = []
section
variable {X : Cx} {pins : List (Addr × Obj)} {σ : St} {H H' : Hp} {s : Shared} {B h1 : Heap}
theorem Flown.inv {s' : Shared} (I : Inv X pins σ H s) (f : Flown X.prog X.w X.stack H s H' B s'.heap) (os : s'.os = s.os) (bare : AllBare s'.gens) : Inv X pins σ H' s' :=
 I.call' (ch := []) os f.un f.ok bare fun b z => absurd z (by simp)
theorem Flown.out {s' : Shared} (T : Top X) (I : Inv X pins σ H s) (f : Flown X.prog X.w X.stack H s H' B s'.heap) (os : s'.os = s.os) (bare : AllBare s'.gens) : Flown X.prog X.w X.outer X.H₀ X.s₀ H' B s'.heap := by
 have I' := f.inv I os bare
 refine ⟨by have := I'.base; rw [T.ex] at this; exact this, f.ok, f.st, f.trk, fun b o e hb => ?_⟩
 obtain ⟨o1, e1⟩ := I.base.there b o e (by rw [T.ex]; simp)
 refine f.old b o1 e1 fun z => ?_
 rcases List.mem_cons.mp (I.stkSub b z) with z | z
 ·exact absurd (Nat.lt_of_lt_of_le (Heap.lt_size e) I.ok.above) (by rw [z]; exact Nat.lt_irrefl _)
 ·exact hb z
end
theorem ObjOk.there {P : Program} {w : World} {H : Hp} {h : Heap} {a : Addr} {o : HO} (x : ObjOk P w H h a o) : ∃ ob, h.get? a = some ob := by
 cases o with
 | lst xs => obtain ⟨_, _, _, _, e⟩ := x; exact ⟨_, e⟩
 | tup xs => obtain ⟨_, _, _, ⟨_, e, _⟩⟩ := x; exact ⟨_, e⟩
 | dK kvs => obtain ⟨_, _, _, _, o, _, _, e, _⟩ := x; exact ⟨_, e⟩
 | dT kvs => obtain ⟨_, _, _, _, o, _, _, e, _⟩ := x; exact ⟨_, e⟩
 | set S n => obtain ⟨o, _, _, _, e, _⟩ := x; exact ⟨_, e⟩
 | ins C dx fs => obtain ⟨_, _, _, e, _⟩ := x; exact ⟨_, e⟩
 | own y => exact x
 | xd fs => obtain ⟨_, ⟨_, _, _, e, _⟩, _⟩ := x; exact ⟨_, e⟩
 | rng lo hi => obtain ⟨_, _, _, e⟩ := x; exact ⟨_, e⟩
 | frz ob u => exact ⟨_, x.1⟩
 | tbl ps => exact ⟨_, show h.get? a = some _ from x⟩
 | met f y => exact ⟨_, show h.get? a = some _ from x⟩
 | ext φ => exact x.2.1
def XC (K : W.Frag) (c : Str) (C : Addr) : Prop := W.nsIn K mainGlobals c = some (some (.ref C)) /\ xName K C = some c
def RXp (X : Cx) (pins : List (Addr × Obj)) (W : Str -> St -> Hp -> Prop) (ev : Value) (s3 : Shared) : Prop :=
 ∃ (e C : Addr) (a0 : Value) (σ' : St) (H1 : Hp) (s1 : Shared) (H' : Hp) (B : Heap) (c : Str), ev = .ref e /\ Inv X pins σ' H1 s1 /\ s3.os = s1.os /\ AllBare s3.gens /\ Flown X.prog X.w X.stack H1 s1 H' B s3.heap /\
  Heap.FlyingW B X.stack e (.ref C) a0 s3.heap /\ XC X.K c C /\ W c σ' H'
def RX (X : Cx) (pins : List (Addr × Obj)) (W : Str -> St -> Hp -> Prop) (ev : Value) (s' : Shared) : Prop :=
 wpAny (model X.prog X.w) X.A (noteFrame ev X.env) (fun _ s2 => wpAny (model X.prog X.w) X.A (setFlight ev none) (fun _ s3 => RXp X pins W ev s3) noE s2) noE s'
section
variable {X : Cx} {pins : List (Addr × Obj)} {σ : St} {H : Hp} {s : Shared} {W : Str -> St -> Hp -> Prop}
end
abbrev Cx.bear (X : Cx) (pins : List (Addr × Obj)) (E : Value -> Shared -> Prop) : Cx := { X with pn := X.pn ++ pins, xe := E }
section
variable {X : Cx} {pins pins' : List (Addr × Obj)} {σ : St} {H : Hp} {s : Shared} {E : Value -> Shared -> Prop}
theorem Cx.Ok.bear (ok : X.Ok) : (X.bear pins E).Ok := ⟨ok.mod, ok.kind, ok.glob, ok.blt, ok.above, ok.inj, ok.has, ok.cab, ok.hd, ok.frames, ok.stk, ok.exf, ok.bs, ok.bsz, ok.noex, ok.exfs, ok.funs, ok.frf⟩
theorem Cx.Ok.unbear (ok : (X.bear pins E).Ok) : X.Ok := ⟨ok.mod, ok.kind, ok.glob, ok.blt, ok.above, ok.inj, ok.has, ok.cab, ok.hd, ok.frames, ok.stk, ok.exf, ok.bs, ok.bsz, ok.noex, ok.exfs, ok.funs, ok.frf⟩
theorem Inv.bear (I : Inv X (pins ++ pins') σ H s) : Inv (X.bear pins E) pins' σ H s := ⟨I.ok.bear, I.os, I.bare, I.base, I.loc, I.cell, I.free, I.freeC, fun p hp => I.pin p (by rw [<- append_assoc]; exact hp), I.hok, I.len⟩
theorem Inv.unbear (I : Inv (X.bear pins E) pins' σ H s) : Inv X (pins ++ pins') σ H s := ⟨I.ok.unbear, I.os, I.bare, I.base, I.loc, I.cell, I.free, I.freeC, fun p hp => I.pin p (by rw [<- append_assoc] at hp; exact hp), I.hok, I.len⟩
theorem SP.bear {D : Ends} {f : Flow} {s' : Shared} (h : SP X (pins ++ pins') D f s') : SP (X.bear pins E) pins' D f s' := by
 cases f with
 | next => obtain ⟨σ', H', I, q⟩ := h; exact ⟨σ', H', I.bear, q⟩
 | brk => obtain ⟨σ', H', I, q⟩ := h; exact ⟨σ', H', I.bear, q⟩
 | cont => obtain ⟨σ', H', I, q⟩ := h; exact ⟨σ', H', I.bear, q⟩
 | ret u => obtain ⟨v, σ', H', I, r, q⟩ := h; exact ⟨v, σ', H', I.bear, r, q⟩
theorem SP.unbear {D : Ends} {f : Flow} {s' : Shared} (h : SP (X.bear pins E) pins' D f s') : SP X (pins ++ pins') D f s' := by
 cases f with
 | next => obtain ⟨σ', H', I, q⟩ := h; exact ⟨σ', H', I.unbear, q⟩
 | brk => obtain ⟨σ', H', I, q⟩ := h; exact ⟨σ', H', I.unbear, q⟩
 | cont => obtain ⟨σ', H', I, q⟩ := h; exact ⟨σ', H', I.unbear, q⟩
 | ret u => obtain ⟨v, σ', H', I, r, q⟩ := h; exact ⟨v, σ', H', I.unbear, r, q⟩
variable (nx : X.xe = noE)
include nx
theorem PE.bear {e : Expr} {t : TE} (h : PE X e t) : PE (X.bear pins E) e t := fun pins' s σ H Q I hw =>
 wpAny_mono (h _ s σ H Q I.unbear hw) (fun _ _ ⟨v, H', I', r, q⟩ => ⟨v, H', I'.bear, r, q⟩) fun _ _ z => by rw [nx] at z; exact z.elim
theorem PT.bear {e : Expr} {t : TT} (h : PT X e t) : PT (X.bear pins E) e t := fun pins' s σ H Q I hw =>
 wpAny_mono (h _ s σ H Q I.unbear hw) (fun _ _ ⟨H', I', q⟩ => ⟨H', I'.bear, q⟩) fun _ _ z => by rw [nx] at z; exact z.elim
theorem PA.bear {es : List Expr} {t : TA} (h : PA X es t) : PA (X.bear pins E) es t := fun pos pins' s σ H Q I hw =>
 wpAny_mono (h pos _ s σ H Q I.unbear hw) (fun _ _ ⟨v, H', I', r, q⟩ => ⟨v, H', I'.bear, r, q⟩) fun _ _ z => by rw [nx] at z; exact z.elim
theorem PS.bear {st : Stmt} {t : TS} (h : PS X st t) : PS (X.bear pins E) st t := fun pins' s σ H D I hw =>
 wpAny_mono (h _ s σ H D I.unbear hw) (fun _ _ q => q.bear) fun _ _ z => by rw [nx] at z; exact z.elim
theorem PSs.bear {st : List Stmt} {t : TS} (h : PSs X st t) : PSs (X.bear pins E) st t := fun pins' s σ H D I hw =>
 wpAny_mono (h _ s σ H D I.unbear hw) (fun _ _ q => q.bear) fun _ _ z => by rw [nx] at z; exact z.elim
end
end
section
abbrev WX := Str -> St -> Hp -> Prop
abbrev Cx.rx (X : Cx) (pins : List (Addr × Obj)) (W : WX) : Cx := X.bear pins (RX X pins W)
section
variable {X : Cx} {st : Stmt} {rest : List Stmt} {e c : Expr} {pos : Pos}
theorem PS.or {t u : TS} (h : PS X st t) (k : PS X st u) : PS X st fun D σ H => t D σ H \/ u D σ H := fun pins s σ H D I q => q.elim (fun z => h pins s σ H D I z) fun z => k pins s σ H D I z
theorem PSs.or {t u : TS} (h : PSs X rest t) (k : PSs X rest u) : PSs X rest fun D σ H => t D σ H \/ u D σ H := fun pins s σ H D I q => q.elim (fun z => h pins s σ H D I z) fun z => k pins s σ H D I z
end
end
section
section
variable {X : Cx} {pins : List (Addr × Obj)} {E : Value -> Shared -> Prop} (nx : X.xe = noE)
include nx
theorem PG.bear {tg : Expr} {t : TG} (h : PG X tg t) : PG (X.bear pins E) tg t := fun pins' s σ H v u Q I r hw =>
 wpAny_mono (h _ s σ H v u Q I.unbear r hw) (fun _ _ ⟨σ', H', I', q⟩ => ⟨σ', H', I'.bear, q⟩) fun _ _ z => by rw [nx] at z; exact z.elim
theorem PI.bear {tg it : Expr} {t : TI} (h : PI X tg it t) : PI (X.bear pins E) tg it t := fun pins' s σ H R I hw =>
 wpAny_mono (h _ s σ H R I.unbear hw) (fun v s1 h1 => wpAny_mono h1 (fun itv s2 ⟨it, fp, tn, J, H', e, I', T, st, f, q⟩ => ⟨it, fp, tn, J, H', e, I'.bear, T, st, fun b hb => by
  obtain ⟨f0, f1, f2, f3, f4, f5⟩ := f b hb
  exact ⟨f0, f1, f2, f3, f4, fun p hp => f5 p (by rw [<- append_assoc]; exact hp)⟩, q⟩) fun _ _ z => by rw [nx] at z; exact z.elim) fun _ _ z => by rw [nx] at z; exact z.elim
end
section
variable {X : Cx} {e c : Expr} {pos : Pos} {st : Stmt} {rest : List Stmt}
end
end
section
section
variable {X : Cx} {pins : List (Addr × Obj)} {σ : St} {H : Hp} {s : Shared} {a C : Addr}
end
theorem Rl.drop {K : W.Frag} {F0 H0 F H : Hp} {σ : St} {ρ : Ro} (r : Rl K F0 H0 F H σ ρ) (i : Nat) : Rl K F0 H0 F H (σ.set i none) (ρ.set i none) := by
 have get : ∀ (j : Nat) x, (ρ.set i none)[j]? = some (some x) -> i ≠ j /\ ρ[j]? = some (some x) := fun j x e => by
  by_cases hj : i = j
  ·subst hj
   have hl : i < ρ.length := by
    rcases Nat.lt_or_ge i ρ.length with z | z
    ·exact z
    ·rw [getElem?_eq_none (by simpa using z)] at e; cases e
   rw [getElem?_set_self hl] at e; cases e
  ·rw [getElem?_set_ne hj] at e; exact ⟨hj, e⟩
 have gs : ∀ (j : Nat) x, (σ.set i none)[j]? = some (some x) -> σ[j]? = some (some x) := fun j x e => by
  by_cases hj : i = j
  ·subst hj
   have hl : i < σ.length := by
    rcases Nat.lt_or_ge i σ.length with z | z
    ·exact z
    ·rw [getElem?_eq_none (by simpa using z)] at e; cases e
   rw [getElem?_set_self hl] at e; cases e
  ·rw [getElem?_set_ne hj] at e; exact e
 refine ⟨r.ext, by simp [r.len], fun j d e => ?_, fun j ds e => ?_, fun j k p ds es hjk e1 e2 e3 e4 => r.inj j k p ds es hjk (get j _ e1).2 (get k _ e2).2 (gs j _ e3) (gs k _ e4), fun j p ds e => ?_, fun j k p ds es e1 e2 e3 => r.obn j k p ds es (get j _ e1).2 (get k _ e2).2 (gs k _ e3), fun j k p q ds es e1 e2 => r.ob1 j k p q ds es (get j _ e1).2 (get k _ e2).2⟩
 ·obtain ⟨n, e⟩ := get j _ e
  rw [getElem?_set_ne n]; exact r.sh j d e
 ·obtain ⟨n, e⟩ := get j _ e
  rw [getElem?_set_ne n]; exact r.own j ds e
 ·obtain ⟨n, e⟩ := get j _ e
  rw [getElem?_set_ne n]; exact r.ob j p ds e
section
variable {X : Cx} {pos np hpos : Pos}
end
end
section
structure RoomN (k : Nat) (A : Around) : Prop where
 dp : A.depth + 3 * k + 5 < recursionLimit
 un : A.units + 16 * k + 200 < cLine
theorem Room.n {k : Nat} {A : Around} (r : Room k A) : RoomN k A := ⟨r.dp, r.un⟩
theorem RoomN.mono {j k : Nat} {A : Around} (r : RoomN k A) (h : j <= k) : RoomN j A := ⟨by have := r.dp; omega, by have := r.un; omega⟩
theorem RoomN.deeper {k : Nat} {A : Around} (r : RoomN (k + 1) A) (env : Env) : RoomN k (A.deeper env) :=
 ⟨by have := r.dp; show A.depth + 1 + 3 * k + 5 < _; omega, by have := r.un; show A.units + 3 + 16 * k + 200 < _; omega⟩
theorem RoomN.units {k : Nat} {A : Around} (r : RoomN k A) : A.units + 64 < cLine := by have := r.un; omega
structure FnOkN (P : Program) (w : World) (K : W.Frag) (mg : Str -> Option Value) (base : Heap) (CX : CXT) (k : Nat) (f : Addr) (fd : FuncData) (ps : List Str) (sp : Sp) : Prop where
 len : ∀ vs H Q E, sp vs H Q E -> vs.length = ps.length
 run : ∀ (A : Around) (outer : List Env) (s : Shared) (H : Hp) (args : Args) (us : List Value) (vs : List V) (Q : VK) (E : XK), RoomN k A -> Env0 P w K mg base A outer s H -> BindsTo s fd args (ps.zip us) -> Vals vs us -> sp vs H Q E ->
  codeAny (model P w) A (.call (.ref f) args) (CR CX outer P w H s Q E) s
theorem FnOkN.mono {P : Program} {w : World} {K : W.Frag} {mg : Str -> Option Value} {base : Heap} {CX : CXT} {j k : Nat} {f : Addr} {fd : FuncData} {ps : List Str} {sp : Sp} (F : FnOkN P w K mg base CX j f fd ps sp) (h : j <= k) : FnOkN P w K mg base CX k f fd ps sp :=
 ⟨F.len, fun A outer s H args us vs Q E hr => F.run A outer s H args us vs Q E (hr.mono h)⟩
section
variable {X : Cx} {CX : CXT} {k : Nat} {f : Addr} {fd : FuncData} {ps : List Str} {sp : Sp} {dvs : List V} {ds : List Value} {E : XK} {x : Str} {p pos : Pos} {e : Expr} {es : List Expr} {t : TA}
end
section
variable {X : Cx} {a : Expr} {ma : ME} {pos : Pos}
end
theorem XC.eq {K : W.Frag} {c : Str} {C x : Addr} (h : XC K c C) (e : W.nsIn K mainGlobals c = some (some (.ref x))) : C = x := by
 have := h.1.symm.trans e
 cases this; rfl
end
section
section
variable {X : Cx} {a : Expr} {ma : ME} {pos : Pos}
open PySem.SeqAt in
end
end
section
section
variable {X : Cx} {pos : Pos}
end
end
section
section
variable {X : Cx} {v : Expr} {mv : ME} {pos : Pos}
end
end
section
section
variable {X : Cx} {e : Expr} {pos : Pos}
end
end
section
section
variable {X : Cx} {pins : List (Addr × Obj)} {σ : St}
end
end
section
inductive RPs (K : W.Frag) (F H : Hp) : List Addr -> List (List D) -> Prop
 | nil : RPs K F H [] []
 | cons {q : Addr} {xs : List V} {ds : List D} {qs : List Addr} {dss : List (List D)} : H q = some (.lst xs) -> Reps K F xs ds -> RPs K F H qs dss -> RPs K F H (q :: qs) (ds :: dss)
section
variable {K : W.Frag} {F H F' H' : Hp}
theorem RPs.mono (e : Same F F') (k : Same H H') : ∀ {qs : List Addr} {dss : List (List D)}, RPs K F H qs dss -> RPs K F' H' qs dss
 | _, _, .nil => .nil
 | _, _, .cons h r t => .cons (k _ _ h) (r.mono e) (RPs.mono e k t)
theorem RPs.keep (e : Same F F') : ∀ {qs : List Addr} {dss : List (List D)}, (∀ q ∈ qs, ∀ o, H q = some o -> H' q = some o) -> RPs K F H qs dss -> RPs K F' H' qs dss
 | _, _, _, .nil => .nil
 | _, _, k, .cons h r t => .cons (k _ mem_cons_self _ h) (r.mono e) (RPs.keep e (fun q hq => k q (mem_cons_of_mem _ hq)) t)
theorem RPs.snoc {q : Addr} {xs : List V} {ds : List D} (h : H q = some (.lst xs)) (r : Reps K F xs ds) : ∀ {qs : List Addr} {dss : List (List D)}, RPs K F H qs dss -> RPs K F H (qs ++ [q]) (dss ++ [ds])
 | _, _, .nil => .cons h r .nil
 | _, _, .cons a b t => .cons a b (RPs.snoc h r t)
theorem RPs.length : ∀ {qs : List Addr} {dss : List (List D)}, RPs K F H qs dss -> qs.length = dss.length
 | _, _, .nil => rfl
 | _, _, .cons _ _ t => congrArg (· + 1) (RPs.length t)
theorem RPs.get : ∀ {qs : List Addr} {dss : List (List D)} {i : Nat} {ds : List D}, RPs K F H qs dss -> dss[i]? = some ds -> ∃ q xs, qs[i]? = some q /\ H q = some (.lst xs) /\ Reps K F xs ds
 | _, _, _, _, .nil, e => by simp at e
 | _, _, 0, _, .cons a b _, e => by simp at e; subst e; exact ⟨_, _, rfl, a, b⟩
 | _, _, i + 1, ds, .cons _ _ t, e => by
  obtain ⟨q, xs, h1, h2⟩ := RPs.get (i := i) (ds := ds) t (by simpa using e)
  exact ⟨q, xs, by simpa using h1, h2⟩
theorem RPs.some : ∀ {qs : List Addr} {dss : List (List D)}, RPs K F H qs dss -> ∀ q ∈ qs, ∃ o, H q = some o
 | _, _, .cons a _ t, q, hq => by
  rcases List.mem_cons.mp hq with e | hq
  ·rw [e]; exact ⟨_, a⟩
  ·exact RPs.some t q hq
end
abbrev MP := Ro -> Option (List (List D))
structure Pots (K : W.Frag) (H F' H' : Hp) (p : Addr) (qs : List Addr) (dss : List (List D)) : Prop where
 hp : H p = none
 fp : F' p = none
 at' : H' p = some (.lst (qs.map V.ref))
 new : ∀ q ∈ qs, H q = none /\ F' q = none
 nd : (p :: qs).Nodup
 rep : RPs K F' H' qs dss
def TPt (K : W.Frag) (m : MP) : TE := fun σ H Q => ∃ F0 H0 F ρ dss, Rl K F0 H0 F H σ ρ /\ m ρ = some dss /\ ∀ p qs F' H', Ext F H F' H' -> Pots K H F' H' p qs dss -> Q (.ref p) H'
theorem Ext.stays {F H F' H' : Hp} {p : Addr} {o : HO} (x : Ext F H F' H') (hF : F p = none) (hH : H p = some o) : F' p = none := by
 cases q : F' p with
 | none => rfl
 | some u => have := x.new p hF (by rw [q]; simp); rw [this] at hH; cases hH
section
variable {X : Cx} {a b c e : Expr} {pos : Pos}
def compP (g : Tg) (elt : ML) : List D -> Ro -> List (List D) -> Option (List (List D))
 | [], _, acc => some acc
 | it :: its, ρ, acc => match tgD g it ρ with
  | some ρ1 => (match elt ρ1 with
   | some ds => if acc.length < sizeLine then compP g elt its ρ1 (acc ++ [ds]) else none
   | none => none)
  | none => none
def mcompP (src : List (Option Nat)) (mi : ML) (g : Tg) (elt : ML) : MP := fun ρ => (mi ρ).bind fun its => compP g elt its (blkRo src ρ) []
theorem comp_tp {K : W.Frag} {src : List (Option Nat)} {mi : ML} {g : Tg} {elt : ML} {σ : St} {H : Hp} {Q : VK} (h : TPt K (mcompP src mi g elt) σ H Q) : tComp src (TId K mi) (TGd K g) (TC K cyes) (TF K elt) σ H Q := by
 obtain ⟨F0, H0, F, ρ, out, rl, e, q⟩ := h
 unfold mcompP at e
 cases h1 : mi ρ with
 | none => rw [h1] at e; cases e
 | some its =>
  rw [h1] at e
  have e : compP g elt its (blkRo src ρ) [] = some out := e
  refine ⟨F0, H0, F, ρ, its, rl, h1, fun J F1 H1 x1 I => ?_⟩
  intro p hp
  obtain ⟨rb, no⟩ := (rl.go x1).blk src
  have hF1 : F1 p = none := x1.fh.free hp
  refine ⟨fun i m σ' H' => ∃ F' ρ' acc qs, Rl K F1 H1 F' H' σ' ρ' /\ NoOwn ρ' /\ H' p = some (.lst (qs.map V.ref)) /\ F' p = none /\ RPs K F' H' qs acc /\ (∀ w ∈ qs, H1 w = none /\ F' w = none) /\ (p :: qs).Nodup /\ i <= its.length /\ m = its.length - i /\ compP g elt (its.drop i) ρ' acc = some out,
   ⟨_, F1, blkRo src ρ, [], [], rb.other no hp hF1, no, upd_same, hF1, .nil, (fun w hw => by cases hw), by simp, Nat.zero_le _, rfl, e⟩, ?_⟩
  rintro i m σ' H' ⟨F', ρ', acc, qs, rl', no', hH', hF', ra, hnew, hnd, hi', rfl, e'⟩
  by_cases hlt : i < its.length
  ·right
   have hd := getElem?_eq_getElem hlt
   refine ⟨I.go i F' H' rl'.ext.ff rl'.fh hlt, fun σ2 H2 => ∃ F2 ρ2 acc2 qs2, Rl K F1 H1 F2 H2 σ2 ρ2 /\ NoOwn ρ2 /\ H2 p = some (.lst (qs2.map V.ref)) /\ F2 p = none /\ RPs K F2 H2 qs2 acc2 /\ (∀ w ∈ qs2, H1 w = none /\ F2 w = none) /\ (p :: qs2).Nodup /\ compP g elt (its.drop (i + 1)) ρ2 acc2 = some out, ?_, fun x H2 y => ?_⟩
   ·rintro σ2 H2 ⟨F2, ρ2, acc2, qs2, b1, b2, b3, b4, b5, b6, b7, b8⟩
    exact ⟨its.length - (i + 1), by omega, F2, ρ2, acc2, qs2, b1, b2, b3, b4, b5, b6, b7, hlt, rfl, b8⟩
   ·obtain ⟨F2, x2, r2⟩ := I.yld i F' H' x H2 _ rl'.ext.ff rl'.fh hd y
    rw [drop_get hd] at e'
    unfold compP at e'
    cases h2 : tgD g its[i] ρ' with
    | none => simp only [h2] at e'; cases e'
    | some ρ1 =>
     simp only [h2] at e'
     refine ⟨F1, H1, F2, ρ', _, ρ1, rl'.go x2, r2, h2, fun F3 H3 σ3 rl3 x3 => ?_⟩
     have no1 := no'.tg h2
     have x23 := x2.trans x3
     refine ⟨F1, H1, F3, ρ1, true, rl3, rfl, fun F4 H4 x4 => iteT ?_⟩
     have x24 := x23.trans x4
     cases h4 : elt ρ1 with
     | none => simp only [h4] at e'; cases e'
     | some ds =>
      simp only [h4] at e'
      split at e'
      ·rename_i hz
       refine ⟨F1, H1, F4, ρ1, ds, rl3.go x4, h4, fun w xs F5 H5 x5 hw hwF hwH r5 => ?_⟩
       have x25 := x24.trans x5
       have hp5 := x25.hh _ _ hH'
       have hwp : w ≠ p := fun z => by rw [z, x24.hh _ _ hH'] at hw; cases hw
       have ra5 : RPs K F5 H5 qs acc := ra.mono x25.ff x25.hh
       have hwq : w ∉ qs := fun z => by
        obtain ⟨o, ho⟩ := ra.some w z
        rw [x24.hh _ _ ho] at hw; cases hw
       refine ⟨qs.map V.ref, hp5, by rw [length_map, ra.length]; exact hz, F5, ρ1, acc ++ [ds], qs ++ [w], ((rl3.go x4).go x5).other no1 hp (x25.stays hF' hH'), no1, by rw [upd_same, map_append]; rfl, x25.stays hF' hH', ?_, fun z hz' => ?_, ?_, e'⟩
       ·refine ((ra5.snoc hwH r5)).keep (Same.refl _) fun z hz' o ho => ?_
        have : z ≠ p := by
         rcases List.mem_append.mp hz' with z1 | z1
         ·exact fun zz => (List.nodup_cons.mp hnd).1 (zz ▸ z1)
         ·rw [List.mem_singleton.mp z1]; exact hwp
        rw [upd_ne this]; exact ho
       ·rcases List.mem_append.mp hz' with z1 | z1
        ·obtain ⟨o, ho⟩ := ra.some z z1
         exact ⟨(hnew z z1).1, x25.stays (hnew z z1).2 ho⟩
        ·rw [List.mem_singleton.mp z1]
         exact ⟨(rl3.go x4).ext.hh.free hw, hwF⟩
       ·have hn := List.nodup_cons.mp hnd
        refine List.nodup_cons.mpr ⟨fun z => ?_, List.nodup_append.mpr ⟨hn.2, by simp, fun a ha b hb => ?_⟩⟩
        ·rcases List.mem_append.mp z with z1 | z1
         ·exact hn.1 z1
         ·exact hwp (List.mem_singleton.mp z1).symm
        ·rw [List.mem_singleton.mp hb]; exact fun zz => hwq (zz ▸ ha)
      ·cases e'
  ·left
   have hieq : i = its.length := by omega
   subst hieq
   rw [drop_length] at e'
   have e' : some acc = some out := e'
   cases e'
   exact ⟨I.stop F' H' rl'.ext.ff rl'.fh, q p qs F' H' (x1.trans rl'.ext) ⟨x1.hh.free hp, hF', hH', fun w hw => ⟨x1.hh.free (hnew w hw).1, (hnew w hw).2⟩, hnd, ra⟩⟩
end
end
section
section
variable {K : W.Frag} {F0 H0 H0' F H : Hp} {σ : St} {ρ : Ro}
end
section
variable {X : Cx} {a b c e : Expr} {pos : Pos} {st : Stmt}
variable {E : XK} {es : List Expr} {m : ML}
end
end
section
section
variable {K : W.Frag} {F0 H0 F H : Hp} {σ : St} {ρ : Ro}
end
end
section
section
variable {X : Cx} {a b : Expr} {ma mb : ME} {pos : Pos}
end
section
variable {X : Cx} {a b : Expr}
open PySem.SeqAt in
end
end
section
section
variable {X : Cx} {a b c e o : Expr} {ma mb mo : ME} {pos : Pos} {st : Stmt}
end
open Classical in
section
variable {X : Cx} {pos : Pos}
end
end
section
section
variable {X : Cx} {st : Stmt}
end
end
section
inductive Fl where
 | v (d : D) | l (ds : List D)
inductive Cell where
 | ins (c : Str) (ns : List Str) (fs : List Fl)
 | row (fs : List Fl)
 | tb (P : Addr) (mw : Str) (pos : Pos) (q : Str)
def CodeAt (c : Addr) (q : Str) : Heap -> Prop := fun h => h.CodeRec (.ref c) q
structure CodeT (K : W.Frag) (cdv : Value) (P : Addr) : Prop where
 hd : ∃ c, cdv = .ref c /\ ∀ h : Heap, K.In h -> W.CodeHd h c P
 ne : mainGlobals ≠ P
def TabF (K : W.Frag) (mw : Str) (P : Addr) : Prop := ∃ f oc od fd sl, W.nsIn K mainGlobals mw = some (some (.ref f)) /\ K.lookup f = some ⟨oc, od, .func fd, sl⟩ /\ CodeT K fd.code P
abbrev Bx := List (Addr × Cell)
inductive FlR (K : W.Frag) (F B : Hp) : List Addr -> List V -> List Fl -> Prop
 | nil : FlR K F B [] [] []
 | v {fp : List Addr} {x : V} {d : D} {xs : List V} {fs : List Fl} : Rep K F x d -> FlR K F B fp xs fs -> FlR K F B fp (x :: xs) (.v d :: fs)
 | l {fp : List Addr} {q : Addr} {ys : List V} {ds : List D} {xs : List V} {fs : List Fl} : B q = some (.lst ys) -> Reps K F ys ds -> FlR K F B fp xs fs -> FlR K F B (q :: fp) (.ref q :: xs) (.l ds :: fs)
inductive CellR (K : W.Frag) (F B : Hp) : List Addr -> Addr -> Cell -> Prop
 | ins {fp : List Addr} {p dx C : Addr} {c : Str} {ns : List Str} {xs : List V} {fs : List Fl} : W.nsIn K mainGlobals c = some (some (.ref C)) -> ns.length = xs.length -> B p = some (.ins C dx (ns.zip xs)) -> B dx = some (.own p) -> FlR K F B fp xs fs ->
   CellR K F B (p :: dx :: fp) p (.ins c ns fs)
 | row {fp : List Addr} {p : Addr} {xs : List V} {fs : List Fl} : B p = some (.lst xs) -> FlR K F B fp xs fs -> CellR K F B (p :: fp) p (.row fs)
 | tb {P : Addr} {mw : Str} {pos : Pos} {q : Str} {ps : Array Value} : TabF K mw P -> B P = some (.tbl ps) -> TriplesOk ps.toList -> (codeAmong pos ps.toList = none \/ ∃ c, codeAmong pos ps.toList = some (.ref c) /\ F c = some (.ext (CodeAt c q))) -> CellR K F B [P] P (.tb P mw pos q)
inductive BxR (K : W.Frag) (F B : Hp) : List Addr -> Bx -> Prop
 | nil : BxR K F B [] []
 | cons {fp fq : List Addr} {p : Addr} {c : Cell} {β : Bx} : CellR K F B fp p c -> BxR K F B fq β -> BxR K F B (fp ++ fq) ((p, c) :: β)
section
variable {K : W.Frag} {F F' B B' : Hp}
theorem FlR.mono (e : Same F F') {fp : List Addr} {xs : List V} {fs : List Fl} (h : FlR K F B fp xs fs) (k : ∀ a ∈ fp, B' a = B a) : FlR K F' B' fp xs fs := by
 induction h with
 | nil => exact .nil
 | v r _ ih => exact .v (r.mono e) (ih k)
 | l b r _ ih => exact .l (by rw [k _ (by simp)]; exact b) (r.mono e) (ih fun a ha => k a (mem_cons_of_mem _ ha))
theorem CellR.mono (e : Same F F') {fp : List Addr} {p : Addr} {c : Cell} (h : CellR K F B fp p c) (k : ∀ a ∈ fp, B' a = B a) : CellR K F' B' fp p c := by
 cases h with
 | ins a l b d r => exact .ins a l (by rw [k _ (by simp)]; exact b) (by rw [k _ (by simp)]; exact d) (r.mono e fun a ha => k a (by simp [ha]))
 | row b r => exact .row (by rw [k _ (by simp)]; exact b) (r.mono e fun a ha => k a (by simp [ha]))
 | tb a b t h => exact .tb a (by rw [k _ (by simp)]; exact b) t (h.imp id fun ⟨c, h1, h2⟩ => ⟨c, h1, e _ _ h2⟩)
theorem BxR.mono (e : Same F F') {fp : List Addr} {β : Bx} (h : BxR K F B fp β) (k : ∀ a ∈ fp, B' a = B a) : BxR K F' B' fp β := by
 induction h with
 | nil => exact .nil
 | cons c _ ih => exact .cons (c.mono e fun a ha => k a (by simp [ha])) (ih fun a ha => k a (by simp [ha]))
theorem FlR.mem {fp : List Addr} {xs : List V} {fs : List Fl} (h : FlR K F B fp xs fs) : ∀ a ∈ fp, B a ≠ none := by
 induction h with
 | nil => intro a ha; cases ha
 | v _ _ ih => exact ih
 | l b _ _ ih =>
  intro a ha
  rcases List.mem_cons.mp ha with rfl | ha
  ·rw [b]; simp
  ·exact ih a ha
theorem CellR.mem {fp : List Addr} {p : Addr} {c : Cell} (h : CellR K F B fp p c) : ∀ a ∈ fp, B a ≠ none := by
 intro a ha
 cases h with
 | ins _ _ b d r =>
  rcases List.mem_cons.mp ha with rfl | ha
  ·rw [b]; simp
  ·rcases List.mem_cons.mp ha with rfl | ha
   ·rw [d]; simp
   ·exact r.mem a ha
 | row b r =>
  rcases List.mem_cons.mp ha with rfl | ha
  ·rw [b]; simp
  ·exact r.mem a ha
 | tb _ b _ _ => rw [List.mem_singleton.mp ha, b]; simp
theorem BxR.mem {fp : List Addr} {β : Bx} (h : BxR K F B fp β) : ∀ a ∈ fp, B a ≠ none := by
 induction h with
 | nil => intro a ha; cases ha
 | cons c _ ih =>
  intro a ha
  rcases List.mem_append.mp ha with ha | ha
  ·exact c.mem a ha
  ·exact ih a ha
end
def jn (H0 B : Hp) : Hp := fun a => match B a with | some o => some o | none => H0 a
theorem jn_some {H0 B : Hp} {a : Addr} {o : HO} (h : B a = some o) : jn H0 B a = some o := by unfold jn; rw [h]
theorem jn_none {H0 B : Hp} {a : Addr} (h : B a = none) : jn H0 B a = H0 a := by unfold jn; rw [h]
theorem jn_free {H0 B : Hp} {a : Addr} (h : jn H0 B a = none) : B a = none /\ H0 a = none := by
 cases b : B a with
 | none => rw [jn_none b] at h; exact ⟨rfl, h⟩
 | some o => rw [jn_some b] at h; cases h
structure BxOk (K : W.Frag) (F0 H0 F B : Hp) (fp : List Addr) (β : Bx) : Prop where
 out : ∀ a, B a ≠ none -> H0 a = none /\ F0 a = none
 bx : BxR K F B fp β
 nd : fp.Nodup
 plain : ∀ a o u, B a ≠ some (.frz o u)
theorem BxOk.mono {K : W.Frag} {F0 H0 F F' B : Hp} {fp : List Addr} {β : Bx} (h : BxOk K F0 H0 F B fp β) (e : Same F F') : BxOk K F0 H0 F' B fp β := ⟨h.out, h.bx.mono e fun _ _ => rfl, h.nd, h.plain⟩
def RlW (K : W.Frag) (F0 H0 F H : Hp) (σ : St) (ρ : Ro) (β : Bx) : Prop := ∃ B fp, Rl K F0 (jn H0 B) F H σ ρ /\ BxOk K F0 H0 F B fp β
abbrev MW := Ro -> Bx -> Option (Out × Bx)
def okW (K : W.Frag) (F0 H0 Fb : Hp) (Dn : Ends) : Out -> Bx -> Prop
 | .nx ρ, β => ∀ F H σ, RlW K F0 H0 F H σ ρ β -> Same Fb F -> Dn.nx σ H
 | .bk ρ, β => ∀ F H σ, RlW K F0 H0 F H σ ρ β -> Same Fb F -> Dn.bk σ H
 | .ct ρ, β => ∀ F H σ, RlW K F0 H0 F H σ ρ β -> Same Fb F -> Dn.ct σ H
 | .rt d, β => ∀ v F H B fp, Ext F0 (jn H0 B) F H -> BxOk K F0 H0 F B fp β -> Rep K F v d -> Dn.rt v H
 | .rf ds, β => ∀ p xs F H B fp, Ext F0 (jn H0 B) F H -> BxOk K F0 H0 F B fp β -> jn H0 B p = none -> F p = none -> H p = some (.lst xs) -> Reps K F xs ds -> Dn.rt (.ref p) H
 | .rg d p r, β => ∀ v F H xs B fp, Ext F0 (jn H0 B) F H -> BxOk K F0 H0 F B fp β -> Rep K F v d -> jn H0 B p = none -> F p = none -> H p = some (.lst xs) -> Reps K F xs r -> Dn.rt v H
 | .rp _ _, _ => False
 | .rgf _ _ _, _ => False
theorem okW.mono {K : W.Frag} {F0 H0 Fb Fb' : Hp} {Dn : Ends} (s : Same Fb Fb') : ∀ {o : Out} {β : Bx}, okW K F0 H0 Fb Dn o β -> okW K F0 H0 Fb' Dn o β
 | .nx _, _, h => fun F H σ rl q => h F H σ rl (s.trans q)
 | .bk _, _, h => fun F H σ rl q => h F H σ rl (s.trans q)
 | .ct _, _, h => fun F H σ rl q => h F H σ rl (s.trans q)
 | .rt _, _, h => h
 | .rf _, _, h => h
 | .rp _ _, _, h => h
 | .rg _ _ _, _, h => h
 | .rgf _ _ _, _, h => h
def TSw (K : W.Frag) (m : MW) : TS := fun Dn σ H => ∃ F0 H0 F ρ β o β', RlW K F0 H0 F H σ ρ β /\ m ρ β = some (o, β') /\ okW K F0 H0 F Dn o β'
def TDw (K : W.Frag) (m : Ro -> Bx -> Option D) : TE := fun σ H Q => ∃ F0 H0 F ρ β d, RlW K F0 H0 F H σ ρ β /\ m ρ β = some d /\ ∀ v F' H', RlW K F0 H0 F' H' σ ρ β -> Same F F' -> Same H H' -> Rep K F' v d -> Q v H'
def TCw (K : W.Frag) (m : Ro -> Bx -> Option Bool) : TT := fun σ H Q => ∃ F0 H0 F ρ β b, RlW K F0 H0 F H σ ρ β /\ m ρ β = some b /\ ∀ F' H', RlW K F0 H0 F' H' σ ρ β -> Same F F' -> Q b H'
def PSw (X : Cx) (st : Stmt) (m : MW) : Prop := PS X st (TSw X.K m)
def PSsw (X : Cx) (st : List Stmt) (m : MW) : Prop := PSs X st (TSw X.K m)
def PDw (X : Cx) (e : Expr) (m : Ro -> Bx -> Option D) : Prop := PE X e (TDw X.K m)
def PCw' (X : Cx) (e : Expr) (m : Ro -> Bx -> Option Bool) : Prop := PT X e (TCw X.K m)
theorem RlW.go {K : W.Frag} {F0 H0 F H F' H' : Hp} {σ : St} {ρ : Ro} {β : Bx} (h : RlW K F0 H0 F H σ ρ β) (e : Ext F H F' H') : RlW K F0 H0 F' H' σ ρ β := let ⟨B, fp, rl, ok⟩ := h; ⟨B, fp, rl.go e, ok.mono e.ff⟩
theorem RlW.fh {K : W.Frag} {F0 H0 F H : Hp} {σ : St} {ρ : Ro} {β : Bx} (h : RlW K F0 H0 F H σ ρ β) : Same F H := let ⟨_, _, rl, _⟩ := h; rl.fh
section
variable {X : Cx} {a b c e : Expr} {pos : Pos} {st : Stmt} {rest : List Stmt}
def wS (m : MS) : MW := fun ρ β => match m ρ with | some (.nx ρ') => some (.nx ρ', β) | some (.bk ρ') => some (.bk ρ', β) | some (.ct ρ') => some (.ct ρ', β) | _ => none
def wE {α : Type} (m : Ro -> Option α) : Ro -> Bx -> Option α := fun ρ _ => m ρ
theorem psw {m : MS} (h : PSd X st m) : PSw X st (wS m) := PS.imp h fun Dn σ H ⟨F0, H0, F, ρ, β, o, β', ⟨B, fp, rl, ok⟩, e, k⟩ => by
 unfold wS at e
 split at e
 ·rename_i ρ' h1
  cases e
  exact ⟨F0, jn H0 B, F, ρ, _, rl, h1, fun F' H' σ' rl' sf => k F' H' σ' ⟨B, fp, rl', ok.mono sf⟩ sf⟩
 ·rename_i ρ' h1
  cases e
  exact ⟨F0, jn H0 B, F, ρ, _, rl, h1, fun F' H' σ' rl' sf => k F' H' σ' ⟨B, fp, rl', ok.mono sf⟩ sf⟩
 ·rename_i ρ' h1
  cases e
  exact ⟨F0, jn H0 B, F, ρ, _, rl, h1, fun F' H' σ' rl' sf => k F' H' σ' ⟨B, fp, rl', ok.mono sf⟩ sf⟩
 ·cases e
theorem pdw {m : ME} (h : PD X e m) : PDw X e (wE m) := PE.imp h fun σ H Q ⟨F0, H0, F, ρ, β, d, ⟨B, fp, rl, ok⟩, e, q⟩ =>
 ⟨F0, jn H0 B, F, ρ, d, rl, e, fun v F' H' x r => q v F' H' ⟨B, fp, rl.go x, ok.mono x.ff⟩ x.ff x.hh r⟩
theorem pcw {m : MB} (h : PC' X e m) : PCw' X e (wE m) := PT.imp h fun σ H Q ⟨F0, H0, F, ρ, β, d, ⟨B, fp, rl, ok⟩, e, q⟩ =>
 ⟨F0, jn H0 B, F, ρ, d, rl, e, fun F' H' x => q F' H' ⟨B, fp, rl.go x, ok.mono x.ff⟩ x.ff⟩
def mseqW (x y : MW) : MW := fun ρ β => match x ρ β with | some (.nx ρ', β') => y ρ' β' | o => o
theorem pssw_one {m : MW} (h : PSw X st m) : PSsw X [st] m := pss_one h
theorem pssw_nil : PSsw X [] (wS mnext) := PSs.imp pss_nil fun Dn σ H ⟨F0, H0, F, ρ, β, o, β', ⟨B, fp, rl, ok⟩, e, k⟩ => by
 cases e
 exact k F H σ ⟨B, fp, rl, ok⟩ (Same.refl _)
theorem pssw_cons {m1 m2' : MW} (h1 : PSw X st m1) (h2 : PSsw X rest m2') : PSsw X (st :: rest) (mseqW m1 m2') := PSs.imp (pss_cons h1 h2) fun D σ H hpat => by
 obtain ⟨F0, H0, F, ρ, β, o, β', rw', e, ok⟩ := hpat
 unfold mseqW at e
 cases h : m1 ρ β with
 | none => rw [h] at e; cases e
 | some ob =>
  obtain ⟨o1, β1⟩ := ob
  rw [h] at e
  cases o1 with
  | nx ρ1 => exact ⟨F0, H0, F, ρ, β, _, β1, rw', h, fun F' H' σ' rl' sf => ⟨F0, H0, F', ρ1, β1, o, β', rl', e, ok.mono sf⟩⟩
  | bk ρ1 => cases e; exact ⟨F0, H0, F, ρ, β, _, _, rw', h, ok⟩
  | ct ρ1 => cases e; exact ⟨F0, H0, F, ρ, β, _, _, rw', h, ok⟩
  | rt d => cases e; exact ⟨F0, H0, F, ρ, β, _, _, rw', h, ok⟩
  | rf d => cases e; exact ⟨F0, H0, F, ρ, β, _, _, rw', h, ok⟩
  | rp d ds => cases e; exact ⟨F0, H0, F, ρ, β, _, _, rw', h, ok⟩
  | rg d p r => cases e; exact ⟨F0, H0, F, ρ, β, _, _, rw', h, ok⟩
  | rgf d p r => cases e; exact ⟨F0, H0, F, ρ, β, _, _, rw', h, ok⟩
def mifW (c : Ro -> Bx -> Option Bool) (x y : MW) : MW := fun ρ β => match c ρ β with | some true => x ρ β | some false => y ρ β | none => none
theorem psw_if {ca : Ro -> Bx -> Option Bool} {x y : List Stmt} {mx my : MW} (hc : PCw' X c ca) (hx : PSsw X x mx) (hy : PSsw X y my) : PSw X (.If c x y pos) (mifW ca mx my) := PS.imp (ps_if hc hx hy) fun D σ H hpat => by
 obtain ⟨F0, H0, F, ρ, β, o, β', rw', e, ok⟩ := hpat
 unfold mifW at e
 split at e
 ·rename_i h1
  exact ⟨F0, H0, F, ρ, β, _, rw', h1, fun F1 H1 r1 x1 => iteT ⟨F0, H0, F1, ρ, β, o, β', r1, e, ok.mono x1⟩⟩
 ·rename_i h1
  exact ⟨F0, H0, F, ρ, β, _, rw', h1, fun F1 H1 r1 x1 => iteF ⟨F0, H0, F1, ρ, β, o, β', r1, e, ok.mono x1⟩⟩
 ·cases e
def mretW (x : Ro -> Bx -> Option D) : MW := fun ρ β => (x ρ β).map fun d => (.rt d, β)
theorem psw_ret {ma : Ro -> Bx -> Option D} (h : PS X st (tRet (TDw X.K ma))) : PSw X st (mretW ma) := PS.imp h fun D σ H hpat => by
 obtain ⟨F0, H0, F, ρ, β, o, β', rw', e, ok⟩ := hpat
 unfold mretW at e
 cases h1 : ma ρ β with
 | none => rw [h1] at e; cases e
 | some d =>
  rw [h1] at e; cases e
  refine ⟨F0, H0, F, ρ, β, d, rw', h1, fun v F1 H1 r1 x1 _ rp => ?_⟩
  obtain ⟨B, fp, rl, k⟩ := r1
  exact ok v F1 H1 B fp rl.ext k rp
def forW (g : Tg) (body : MW) : List D -> MW
 | [], ρ, β => some (.nx ρ, β)
 | d :: ds, ρ, β => match tgD g d ρ with
  | some ρ1 => match body ρ1 β with
   | some (.nx ρ2, β2) => forW g body ds ρ2 β2
   | some (.ct ρ2, β2) => forW g body ds ρ2 β2
   | some (.bk ρ2, β2) => some (.nx ρ2, β2)
   | o => o
  | none => none
def mforW (mi : ML) (g : Tg) (body : MW) : MW := fun ρ β => (mi ρ).bind fun its => forW g body its ρ β
theorem psw_for {tg iter : Expr} {body : List Stmt} {mi : ML} {g : Tg} {mb : MW} (hp : PassesOwn (model X.prog X.w) X.A X.env X.xe) (hc : X.calm = true) (hi : PId X tg iter mi) (hg : PGd X tg g) (hb : PSsw X body mb)
  (hs : ∀ x, foldedSetIterable iter X.env x = pure x := by intro _; rfl) : PSw X (.For tg iter body [] pos) (mforW mi g mb) := PS.imp (ps_for hp hc hi hg hb hs) fun Dn σ H ⟨F0, H0, F, ρ, β, o, β', ⟨B, fp, rl, ok⟩, e, k⟩ => by
 unfold mforW at e
 cases h1 : mi ρ with
 | none => rw [h1] at e; cases e
 | some its =>
  rw [h1] at e
  have e : forW g mb its ρ β = some (o, β') := e
  refine ⟨F0, jn H0 B, F, ρ, its, rl, h1, fun J F1 H1 x1 I => ?_⟩
  refine ⟨fun i m σ' H' => ∃ F' ρ' β1, RlW X.K F0 H0 F' H' σ' ρ' β1 /\ Same F1 F' /\ i <= its.length /\ m = its.length - i /\ forW g mb (its.drop i) ρ' β1 = some (o, β'), ⟨_, F1, ρ, β, ⟨B, fp, rl.go x1, ok.mono x1.ff⟩, Same.refl _, Nat.zero_le _, rfl, e⟩, ?_⟩
  rintro i m σ' H' ⟨F', ρ', β1, ⟨B1, fp1, rl', ok'⟩, sf, hi', rfl, e'⟩
  by_cases hlt : i < its.length
  ·right
   have hd := getElem?_eq_getElem hlt
   refine ⟨I.go i F' H' sf rl'.fh hlt, fun σ2 H2 => ∃ F2 ρ2 β2, RlW X.K F0 H0 F2 H2 σ2 ρ2 β2 /\ Same F1 F2 /\ forW g mb (its.drop (i + 1)) ρ2 β2 = some (o, β'), ?_, fun x H2 y => ?_⟩
   ·rintro σ2 H2 ⟨F2, ρ2, β2, rl2, sf2, e2⟩
    exact ⟨its.length - (i + 1), by omega, F2, ρ2, β2, rl2, sf2, hlt, rfl, e2⟩
   ·obtain ⟨F2, x2, r2⟩ := I.yld i F' H' x H2 _ sf rl'.fh hd y
    rw [drop_get hd] at e'
    unfold forW at e'
    cases h2 : tgD g its[i] ρ' with
    | none => simp only [h2] at e'; cases e'
    | some ρ1 =>
     simp only [h2] at e'
     refine ⟨F0, jn H0 B1, F2, ρ', _, ρ1, rl'.go x2, r2, h2, fun F3 H3 σ3 rl3 x3 => ?_⟩
     have s3 : Same F1 F3 := (sf.trans x2.ff).trans x3.ff
     cases h3 : mb ρ1 β1 with
     | none => simp only [h3] at e'; cases e'
     | some ob =>
      obtain ⟨o1, β2⟩ := ob
      simp only [h3] at e'
      refine ⟨F0, H0, F3, ρ1, β1, o1, β2, ⟨B1, fp1, rl3, ok'.mono (x2.ff.trans x3.ff)⟩, h3, ?_⟩
      cases o1 with
      | nx ρ2 => exact fun F5 H5 σ5 rl5 s5 => ⟨F5, ρ2, β2, rl5, s3.trans s5, e'⟩
      | ct ρ2 => exact fun F5 H5 σ5 rl5 s5 => ⟨F5, ρ2, β2, rl5, s3.trans s5, e'⟩
      | bk ρ2 =>
       cases e'
       exact fun F5 H5 σ5 rl5 s5 => k F5 H5 σ5 rl5 ((x1.ff.trans s3).trans s5)
      | rt d => cases e'; exact k.mono (x1.ff.trans s3)
      | rf d => cases e'; exact k.mono (x1.ff.trans s3)
      | rp d ds => cases e'; exact k.mono (x1.ff.trans s3)
      | rg d p r => cases e'; exact k.mono (x1.ff.trans s3)
      | rgf d p r => cases e'; exact k.mono (x1.ff.trans s3)
  ·left
   have hieq : i = its.length := by omega
   subst hieq
   rw [drop_length] at e'
   have e' : some (Out.nx ρ', β1) = some (o, β') := e'
   cases e'
   exact ⟨I.stop F' H' sf rl'.fh, k F' H' σ' ⟨B1, fp1, rl', ok'⟩ (x1.ff.trans sf)⟩
def flD : Fl -> D
 | .v d => d
 | .l ds => .lst ds
def cellD : Cell -> D
 | .ins c ns fs => .obj c ns (fs.map flD)
 | .row fs => .lst (fs.map flD)
 | .tb P _ _ _ => .ptr P
def thawS (β : Bx) : Option S -> Option S
 | some (.sh (.ptr p)) => match β.lookup p with | some c => some (.sh (cellD c)) | none => some (.sh (.ptr p))
 | x => x
def thaw (ρ : Ro) (β : Bx) : Ro := ρ.map (thawS β)
def lookE (m : ME) : Ro -> Bx -> Option D := fun ρ β => (m (thaw ρ β)).bind fun d => if isSc d = true then some d else none
def lookB (m : MB) : Ro -> Bx -> Option Bool := fun ρ β => m (thaw ρ β)
end
section
variable {K : W.Frag} {F0 H0 F H B : Hp} {σ : St} {ρ : Ro} {β : Bx} {fp : List Addr}
theorem FlR.rep {G : Hp} {xs : List V} {fs : List Fl} (hF : Same F G) (hB : Same B G) (h : FlR K F B fp xs fs) : Reps K G xs (fs.map flD) := by
 induction h with
 | nil => exact .nil
 | v r _ ih => exact .cons (r.mono hF) ih
 | l b r _ ih => exact .cons (.lst (SqL.of (hB _ _ b)) (r.mono hF)) ih
theorem CellR.rep {G : Hp} {p : Addr} {c : Cell} (hF : Same F G) (hB : Same B G) (h : CellR K F B fp p c) : Rep K G (.ref p) (cellD c) := by
 cases h with
 | ins a l b d r => exact .obj a l (hB _ _ b) (hB _ _ d) (r.rep hF hB)
 | row b r => exact .lst (SqL.of (hB _ _ b)) (r.rep hF hB)
 | tb _ _ _ _ => exact .ptr _
theorem BxR.at' {p : Addr} {c : Cell} : ∀ {fp : List Addr} {β : Bx}, BxR K F B fp β -> β.lookup p = some c -> ∃ fq, CellR K F B fq p c
 | _, _, .nil, e => by cases e
 | _, _, .cons (p := q) h r, e => by
  rw [lookup_cons] at e
  split at e
  ·rename_i z
   have z := beq_iff_eq.mp z
   subst z
   cases e
   exact ⟨_, h⟩
  ·exact r.at' e
theorem RlW.frozen (rl : Rl K F0 (jn H0 B) F H σ ρ) (ok : BxOk K F0 H0 F B fp β) : Rl K (jn F0 B) (jn H0 B) (jn F B) H σ (thaw ρ β) /\ Same F (jn F B) := by
 have bh : Same B H := fun a o e => rl.ext.hh a o (jn_some e)
 have fn : ∀ a, B a ≠ none -> F a = none := fun a h => by
  cases q : F a with
  | none => rfl
  | some o =>
   have := rl.ext.new a (ok.out a h).2 (by rw [q]; simp)
   exact absurd (jn_free this).1 h
 have fb : Same F (jn F B) := fun a o e => by
  cases q : B a with
  | none => rw [jn_none q]; exact e
  | some u => rw [fn a (by rw [q]; simp)] at e; cases e
 have bj : Same B (jn F B) := fun a o e => jn_some e
 have back : ∀ (i : Nat) x, (thaw ρ β)[i]? = some x -> ∃ y, ρ[i]? = some y /\ x = thawS β y := fun i x e => by
  unfold thaw at e
  rw [getElem?_map] at e
  cases q : ρ[i]? with
  | none => rw [q] at e; cases e
  | some y => rw [q] at e; cases e; exact ⟨y, rfl, rfl⟩
 have tO : ∀ {y : Option S} {ds : List D}, some (.own ds) = thawS β y -> y = some (.own ds) := fun {y ds} e => by
  unfold thawS at e
  split at e
  ·split at e <;> cases e
  ·exact e.symm
 have tB : ∀ {y : Option S} {p : Addr} {ds : List D}, some (.ob p ds) = thawS β y -> y = some (.ob p ds) := fun {y p ds} e => by
  unfold thawS at e
  split at e
  ·split at e <;> cases e
  ·exact e.symm
 have ownB : ∀ (i : Nat) ds, (thaw ρ β)[i]? = some (some (.own ds)) -> ρ[i]? = some (some (.own ds)) := fun i ds e => by
  obtain ⟨y, e1, e2⟩ := back i _ e
  rw [e1, tO e2]
 have obB : ∀ (i : Nat) p ds, (thaw ρ β)[i]? = some (some (.ob p ds)) -> ρ[i]? = some (some (.ob p ds)) := fun i p ds e => by
  obtain ⟨y, e1, e2⟩ := back i _ e
  rw [e1, tB e2]
 have jf : ∀ p, F p = none -> jn H0 B p = none -> jn F B p = none := fun p h h2 => by rw [jn_none (jn_free h2).1]; exact h
 refine ⟨⟨⟨fun a o e => ?_, rl.ext.hh, fun a o e => ?_, fun b e n => ?_, fun b o u e => ?_⟩, by unfold thaw; rw [length_map]; exact rl.len, fun i d e => ?_, fun i ds e => ?_, fun i j p ds es hij e1 e2 e3 e4 => rl.inj i j p ds es hij (ownB i ds e1) (ownB j es e2) e3 e4, fun i p ds e => ?_, fun i j p ds es e1 e2 e3 => rl.obn i j p ds es (obB i p ds e1) (ownB j es e2) e3, fun i j p q ds es e1 e2 => rl.ob1 i j p q ds es (obB i p ds e1) (obB j q es e2)⟩, fb⟩
 ·cases q : B a with
  | none => rw [jn_none q] at e; rw [jn_none q]; exact rl.ext.ff a o e
  | some u => rw [jn_some q] at e; rw [jn_some q]; exact e
 ·cases q : B a with
  | none => rw [jn_none q] at e; exact rl.ext.fh a o e
  | some u => rw [jn_some q] at e; cases e; exact bh a _ q
 ·obtain ⟨e1, e2⟩ := jn_free e
  rw [jn_none e1] at n
  exact rl.ext.new b e2 n
 ·cases q : B b with
  | none => rw [jn_none q] at e ⊢; exact rl.ext.nf b o u e
  | some w => rw [jn_some q] at e ⊢; exact e
 ·obtain ⟨y, e1, e2⟩ := back i _ e
  unfold thawS at e2
  split at e2
  ·rename_i p
   obtain ⟨v, a1, a2⟩ := rl.sh i _ e1
   cases a2
   split at e2
   ·rename_i c hc
    cases e2
    obtain ⟨fq, hq⟩ := ok.bx.at' hc
    exact ⟨_, a1, hq.rep fb bj⟩
   ·cases e2
    exact ⟨_, a1, .ptr p⟩
  ·subst e2
   obtain ⟨v, a1, a2⟩ := rl.sh i d e1
   exact ⟨v, a1, a2.mono fb⟩
 ·obtain ⟨p, xs, a1, a2, a3, a4, a5⟩ := rl.own i ds (ownB i ds e)
  exact ⟨p, xs, a1, jf p a2 a5, a3, a4.mono fb, a5⟩
 ·obtain ⟨a1, a2, a3, xs, a4, a5⟩ := rl.ob i p ds (obB i p ds e)
  exact ⟨a1, jf p a2 a3, a3, xs, a4, a5.mono fb⟩
theorem RlW.melt {F2 H2 : Hp} (rl : Rl K F0 (jn H0 B) F H σ ρ) (ok : BxOk K F0 H0 F B fp β) (x : Ext (jn F B) H F2 H2) (fb : Same F (jn F B)) : RlW K F0 H0 F H2 σ ρ β :=
 ⟨B, fp, rl.go ⟨Same.refl _, x.hh, rl.fh.trans x.hh, fun b e n => absurd e n, fun _ _ _ z => z⟩, ok⟩
end
section
variable {X : Cx} {a b c e : Expr} {pos : Pos}
theorem pdw_look {m : ME} (h : PD X e m) : PDw X e (lookE m) := PE.imp h fun σ H Q ⟨F0, H0, F, ρ, β, d, ⟨B, fp, rl, ok⟩, e, q⟩ => by
 unfold lookE at e
 cases h1 : m (thaw ρ β) with
 | none => rw [h1] at e; cases e
 | some d' =>
  rw [h1, Option.bind_some] at e
  split at e
  ·rename_i hs
   cases e
   obtain ⟨r1, fb⟩ := RlW.frozen rl ok
   exact ⟨_, _, _, _, _, r1, h1, fun v F' H' x r => q v F H' (RlW.melt rl ok x fb) (Same.refl _) x.hh (sc_rep hs r)⟩
  ·cases e
theorem pcw_look {m : MB} (h : PC' X e m) : PCw' X e (lookB m) := PT.imp h fun σ H Q ⟨F0, H0, F, ρ, β, d, ⟨B, fp, rl, ok⟩, e, q⟩ => by
 obtain ⟨r1, fb⟩ := RlW.frozen rl ok
 exact ⟨_, _, _, _, _, r1, e, fun F' H' x => q F H' (RlW.melt rl ok x fb) (Same.refl _)⟩
end
end
section
def cut (H B : Hp) : Hp := fun a => match B a with | some _ => none | none => H a
theorem cut_in {H B : Hp} {a : Addr} (h : B a ≠ none) : cut H B a = none := by
 unfold cut
 cases q : B a with
 | none => exact absurd q h
 | some o => rfl
theorem cut_out {H B : Hp} {a : Addr} (h : B a = none) : cut H B a = H a := by unfold cut; rw [h]
theorem jn_cut {H B : Hp} (h : Same B H) : jn (cut H B) B = H := by
 funext a
 cases q : B a with
 | none => rw [jn_none q, cut_out q]
 | some o => rw [jn_some q, h a o q]
abbrev MFW := List D -> Bx -> Option (Rt × Bx)
def okTW (K : W.Frag) (F H B : Hp) (Q : VK) : Rt -> Bx -> Prop
 | .sh d, β => ∀ v F' H' B' fp', Ext F (jn (cut H B) B') F' H' -> BxOk K F (cut H B) F' B' fp' β -> Rep K F' v d -> Q v H'
 | .fr ds, β => ∀ p xs F' H' B' fp', Ext F (jn (cut H B) B') F' H' -> BxOk K F (cut H B) F' B' fp' β -> jn (cut H B) B' p = none -> F' p = none -> H' p = some (.lst xs) -> Reps K F' xs ds -> Q (.ref p) H'
 | .pr _ _, _ => False
def spW (K : W.Frag) (n : Nat) (m : MFW) : Sp := fun vs H Q _ => vs.length = n /\ ∃ F B fp ds β r β', Same F H /\ Same B H /\ BxOk K F (cut H B) F B fp β /\ Reps K F vs ds /\ m ds β = some (r, β') /\ okTW K F H B Q r β'
def runW (n : Nat) (m : MW) : MFW := fun ds β => match m (startS n ds) β with
 | some (.nx _, β') => some (.sh .non, β'.drop (β'.length - β.length))
 | some (.rt d, β') => some (.sh d, β'.drop (β'.length - β.length))
 | some (.rf es, β') => some (.fr es, β'.drop (β'.length - β.length))
 | _ => none
theorem BxR.drop {K : W.Frag} {F B : Hp} : ∀ {fp : List Addr} {β : Bx} (k : Nat), BxR K F B fp β -> ∃ fq, BxR K F B fq (β.drop k) /\ fq.Sublist fp
 | _, _, 0, h => ⟨_, h, List.Sublist.refl _⟩
 | _, _, k + 1, .nil => ⟨_, .nil, List.Sublist.refl _⟩
 | _, _, k + 1, .cons c r => by
  obtain ⟨fq, h, s⟩ := BxR.drop k r
  exact ⟨fq, h, s.trans (sublist_append_right _ _)⟩
theorem BxOk.drop {K : W.Frag} {F0 H0 F B : Hp} {fp : List Addr} {β : Bx} (h : BxOk K F0 H0 F B fp β) (k : Nat) : ∃ fq, BxOk K F0 H0 F B fq (β.drop k) := by
 obtain ⟨fq, r, s⟩ := h.bx.drop k
 exact ⟨fq, h.out, r, h.nd.sublist s, h.plain⟩
theorem Fun.okW {P : Program} {w : World} {K : W.Frag} {mg : Str -> Option Value} {base : Heap} {x qual : Str} {st : Stmt} {f : Addr} {fd : FuncData} {N ps : List Str} {k : Nat} {m : MW} (Fn : Fun K x qual st f fd) (Sc : FnScope N ps (defScope st))
  (hbody : ∀ (cdv : Value) (A : Around) (outer : List Env) (s : Shared) (H : Hp) (E : XK), Room k (A.deeper (envOfC qual (defScope st) s.heap.objs.size f cdv)) -> PSsw (cxOf CX0 P w K mg base N qual (defScope st) f cdv A outer s H E).nox (defBody st) m) :
  FnOk P w K mg base CX0 (k + 1) f fd ps (spW K ps.length (runW N.length m)) := by
 refine Fn.ok Sc (fun vs H Q E h => h.1) fun cdv A outer s H vs Q E hr h => ?_
 obtain ⟨hl, F, B, fp, ds, β, r, β', sf, sb, bo, rs, e, ok⟩ := h
 unfold runW at e
 refine ⟨_, hbody cdv A outer s H E hr, F, cut H B, F, startS N.length ds, β, ?_⟩
 have start : RlW K F (cut H B) F H (start N vs) (startS N.length ds) β := ⟨B, fp, by rw [jn_cut sb]; exact rl_start sf rs, bo⟩
 split at e
 ·rename_i ρ β1 h1
  cases e
  refine ⟨_, _, start, h1, fun F' H' σ' rl _ => ?_⟩
  obtain ⟨B', fp', rl', k'⟩ := rl
  obtain ⟨fq, k2⟩ := k'.drop (β1.length - β.length)
  exact ok .non F' H' B' fq rl'.ext k2 .non
 ·rename_i d β1 h1
  cases e
  refine ⟨_, _, start, h1, fun v F' H' B' fp' x k' rp => ?_⟩
  obtain ⟨fq, k2⟩ := k'.drop (β1.length - β.length)
  exact ok v F' H' B' fq x k2 rp
 ·rename_i es β1 h1
  cases e
  refine ⟨_, _, start, h1, fun p xs F' H' B' fp' x k' a1 a2 a3 a4 => ?_⟩
  obtain ⟨fq, k2⟩ := k'.drop (β1.length - β.length)
  exact ok p xs F' H' B' fq x k2 a1 a2 a3 a4
 ·cases e
def TDx (K : W.Frag) (m : Ro -> Bx -> Option (D × Bx)) : TE := fun σ H Q => ∃ F0 H0 F ρ β d β', RlW K F0 H0 F H σ ρ β /\ m ρ β = some (d, β') /\ ∀ v F' H', RlW K F0 H0 F' H' σ ρ β' -> Same F F' -> Rep K F' v d -> Q v H'
def PDx (X : Cx) (e : Expr) (m : Ro -> Bx -> Option (D × Bx)) : Prop := PE X e (TDx X.K m)
section
variable {K : W.Frag} {F0 H0 F H B : Hp} {σ : St} {ρ : Ro} {β : Bx} {fp : List Addr}
theorem BxOk.call (rl : Rl K F0 (jn H0 B) F H σ ρ) (ok : BxOk K F0 H0 F B fp β) : Same B H /\ BxOk K F (cut H B) F B fp β := by
 have bh : Same B H := fun a o e => rl.ext.hh a o (jn_some e)
 refine ⟨bh, fun a h => ⟨cut_in h, ?_⟩, ok.bx, ok.nd, ok.plain⟩
 cases q : F a with
 | none => rfl
 | some o =>
  have := rl.ext.new a (ok.out a h).2 (by rw [q]; simp)
  exact absurd (jn_free this).1 h
theorem RlW.back' {F' H' B' : Hp} {fp' : List Addr} {β' : Bx} (rl : Rl K F0 (jn H0 B) F H σ ρ) (ok : BxOk K F0 H0 F B fp β) (x : Ext F (jn (cut H B) B') F' H') (ok' : BxOk K F (cut H B) F' B' fp' β') : Rl K F0 (jn H0 B') F' H' σ ρ /\ BxOk K F0 H0 F' B' fp' β' := by
 have h0 : ∀ a o, H0 a = some o -> B a = none /\ H a = some o /\ B' a = none := fun a o e => by
  have b : B a = none := by
   cases q : B a with
   | none => rfl
   | some u => have := (ok.out a (by rw [q]; simp)).1; rw [this] at e; cases e
  have h := rl.ext.hh a o (by rw [jn_none b]; exact e)
  refine ⟨b, h, ?_⟩
  cases q : B' a with
  | none => rfl
  | some u => have := (ok'.out a (by rw [q]; simp)).1; rw [cut_out b, h] at this; cases this
 have mine : ∀ p xs, jn H0 B p = none -> F p = none -> H p = some (.lst xs) -> F' p = none /\ jn H0 B' p = none /\ H' p = some (.lst xs) := fun p xs e1 e2 e3 => by
  obtain ⟨b, h⟩ := jn_free e1
  have c : cut H B p = some (.lst xs) := by rw [cut_out b]; exact e3
  have b' : B' p = none := by
   cases q : B' p with
   | none => rfl
   | some u => have := (ok'.out p (by rw [q]; simp)).1; rw [c] at this; cases this
  have j : jn (cut H B) B' p = some (.lst xs) := by rw [jn_none b']; exact c
  refine ⟨?_, by rw [jn_none b']; exact h, x.hh p _ j⟩
  cases q : F' p with
  | none => rfl
  | some u => have := x.new p e2 (by rw [q]; simp); rw [j] at this; cases this
 refine ⟨⟨⟨rl.ext.ff.trans x.ff, fun a o e => ?_, x.fh, fun b e n => ?_, fun b o u e => rl.ext.nf b o u (x.nf b o u e)⟩, rl.len, fun i d e => ?_, fun i ds e => ?_, rl.inj, fun i p ds e => ?_, rl.obn, rl.ob1⟩, fun a h => ⟨?_, ?_⟩, ok'.bx, ok'.nd, ok'.plain⟩
 ·cases q : B' a with
  | some u => rw [jn_some q] at e; cases e; exact x.hh a _ (jn_some q)
  | none =>
   rw [jn_none q] at e
   obtain ⟨b, h, _⟩ := h0 a o e
   exact x.hh a o (by rw [jn_none q, cut_out b]; exact h)
 ·cases q1 : F b with
  | none =>
   obtain ⟨b', c⟩ := jn_free (x.new b q1 n)
   rw [jn_none b']
   cases q : H0 b with
   | none => rfl
   | some o => obtain ⟨z, h, _⟩ := h0 b o q; rw [cut_out z, h] at c; cases c
  | some o =>
   have := rl.ext.new b e (by rw [q1]; simp)
   obtain ⟨_, h⟩ := jn_free this
   cases q : B' b with
   | none => rw [jn_none q]; exact h
   | some u => have := (ok'.out b (by rw [q]; simp)).2; rw [q1] at this; cases this
 ·obtain ⟨v, a1, a2⟩ := rl.sh i d e
  exact ⟨v, a1, a2.mono x.ff⟩
 ·obtain ⟨p, xs, a1, a2, a3, a4, a5⟩ := rl.own i ds e
  obtain ⟨b1, b2, b3⟩ := mine p xs a5 a2 a3
  exact ⟨p, xs, a1, b1, b3, a4.mono x.ff, b2⟩
 ·obtain ⟨a1, a2, a3, xs, a4, a5⟩ := rl.ob i p ds e
  obtain ⟨b1, b2, b3⟩ := mine p xs a3 a2 a4
  exact ⟨a1, b1, b2, xs, b3, a5.mono x.ff⟩
 ·cases q : H0 a with
  | none => rfl
  | some o => exact absurd (h0 a o q).2.2 h
 ·cases q : F0 a with
  | none => rfl
  | some o => have := (ok'.out a h).2; rw [rl.ext.ff a o q] at this; cases this
theorem RlW.back {F' H' B' : Hp} {fp' : List Addr} {β' : Bx} (rl : Rl K F0 (jn H0 B) F H σ ρ) (ok : BxOk K F0 H0 F B fp β) (x : Ext F (jn (cut H B) B') F' H') (ok' : BxOk K F (cut H B) F' B' fp' β') : RlW K F0 H0 F' H' σ ρ β' := let ⟨a, b⟩ := RlW.back' rl ok x ok'; ⟨B', fp', a, b⟩
end
section
variable {X : Cx} {a b c e o : Expr} {pos : Pos} {st : Stmt} {rest : List Stmt} {E : XK} {es : List Expr} {mf : MFW} {m : ML}
def rtW : Option (Rt × Bx) -> Option (D × Bx)
 | some (.sh d, β) => some (d, β)
 | some (.fr es, β) => some (.lst es, β)
 | _ => none
theorem call_back {K : W.Frag} {F0 H0 F H B : Hp} {σ : St} {ρ : Ro} {β β' : Bx} {fp : List Addr} {ds : List D} {d : D} {vs : List V} {n : Nat} {Q : VK} (rl : Rl K F0 (jn H0 B) F H σ ρ) (ok : BxOk K F0 H0 F B fp β) (hl : vs.length = n) (r : Reps K F vs ds) (e : rtW (mf ds β) = some (d, β'))
  (q : ∀ v F' H', RlW K F0 H0 F' H' σ ρ β' -> Same F F' -> Rep K F' v d -> Q v H') : spW K n mf vs H Q E := by
 obtain ⟨bh, k⟩ := ok.call rl
 refine ⟨hl, F, B, fp, ds, β, ?_⟩
 unfold rtW at e
 split at e
 ·rename_i d' β1 h2
  cases e
  exact ⟨_, _, rl.fh, bh, k, r, h2, fun v F' H' B' fp' x k' rp => q v F' H' (RlW.back rl ok x k') x.ff rp⟩
 ·rename_i es' β1 h2
  cases e
  refine ⟨_, _, rl.fh, bh, k, r, h2, fun p xs F' H' B' fp' x k' e1 e2 e3 rp => ?_⟩
  have s2 : Same F' (upd F' p (.lst xs)) := (Same.refl F').put e2
  exact q _ (upd F' p (.lst xs)) H' (RlW.back rl ok (x.freeze e2 e1 e3) (k'.mono s2)) (x.ff.trans s2) (.lst (SqL.of upd_same) (rp.mono s2))
 ·cases e
def mcallW (f : MFW) (m : ML) : Ro -> Bx -> Option (D × Bx) := fun ρ β => (m ρ).bind fun ds => rtW (f ds β)
theorem pdx_call {n : Nat} (h : ∀ t, PA X es t -> PE X e (tCall (spW X.K n mf) [] E t)) (hl : es.length = n) (ha : PAs X es m) (hm : ∀ ρ ds, m ρ = some ds -> ds.length = es.length) : PDx X e (mcallW mf m) := PE.imp (h _ ha) fun σ H Q ⟨F0, H0, F, ρ, β, d, β', ⟨B, fp, rl, ok⟩, e, q⟩ => by
 unfold mcallW at e
 cases h1 : m ρ with
 | none => rw [h1] at e; cases e
 | some ds =>
  rw [h1, Option.bind_some] at e
  refine ⟨F0, jn H0 B, F, ρ, ds, rl, h1, fun vs F1 H1 x1 r1 => ?_⟩
  show spW X.K n mf (vs ++ []) H1 Q E
  rw [append_nil]
  exact call_back (rl.go x1) (ok.mono x1.ff) (by rw [r1.length, hm ρ ds h1, hl]) r1 e fun v F' H' rw' sf rp => q v F' H' rw' (x1.ff.trans sf) rp
def msetX (i : Nat) (x : Ro -> Bx -> Option (D × Bx)) : MW := fun ρ β => (x ρ β).map fun r => (.nx (ρ.set i (some (.sh r.1))), r.2)
theorem psw_setX {i : Nat} {x : Str} {pos' : Pos} {ma : Ro -> Bx -> Option (D × Bx)} (hN : X.N.Nodup) (hi : X.N[i]? = some x) (hx : Loc X.env.scope x) (he : PDx X e ma) (hs : swapsWith e (some (.Name x pos')) pos.line X.env = pure false := by rfl) (hf : X.fn x = true \/ X.env.scope.names.lookup x = some .local := by first | exact .inl rfl | exact .inr rfl) :
  PSw X (.Assign [.Name x pos'] e pos) (msetX i ma) := PS.imp (ps_set hN hi hx he hs hf) fun D σ H hpat => by
 obtain ⟨F0, H0, F, ρ, β, o, β', rw', e, ok⟩ := hpat
 unfold msetX at e
 cases h1 : ma ρ β with
 | none => rw [h1] at e; cases e
 | some r =>
  rw [h1] at e; cases e
  refine ⟨F0, H0, F, ρ, β, r.1, r.2, rw', h1, fun v F1 H1 r1 x1 rp => ?_⟩
  obtain ⟨B, fp, rl, k⟩ := r1
  exact ok F1 H1 _ ⟨B, fp, rl.set rp, k⟩ x1
end
end
section
section
variable {X : Cx} {a b c e o : Expr} {pos apos : Pos} {E : XK} {es : List Expr} {m : ML} {mo : ME}
end
def updB (p : Addr) (c' : Cell) : Bx -> Bx
 | [] => []
 | (q, c) :: β => if q = p then (q, c') :: β else (q, c) :: updB p c' β
section
variable {K : W.Frag} {F0 H0 F H B : Hp} {σ : St} {ρ : Ro} {β : Bx} {fp : List Addr}
theorem BxR.upd {p : Addr} {c : Cell} : ∀ {fp : List Addr} {β : Bx}, BxR K F B fp β -> fp.Nodup -> β.lookup p = some c -> ∃ fq, CellR K F B fq p c /\ fq.Nodup /\ (∀ a ∈ fq, a ∈ fp) /\
  ∀ (c' : Cell) (fq' : List Addr) (B' F' : Hp), Same F F' -> CellR K F' B' fq' p c' -> fq'.Nodup -> (∀ a ∈ fp, a ∉ fq -> B' a = B a) -> (∀ a ∈ fq', a ∈ fq \/ a ∉ fp) -> ∃ fp', BxR K F' B' fp' (updB p c' β) /\ fp'.Nodup /\ ∀ a ∈ fp', a ∈ fp \/ a ∈ fq'
 | _, _, .nil, _, e => by cases e
 | _, _, .cons (fp := f0) (fq := f1) (p := q) (c := c0) (β := β) h r, nd, e => by
  obtain ⟨n0, n1, n2⟩ := List.nodup_append.mp nd
  have dj : ∀ a, a ∈ f0 -> a ∈ f1 -> False := fun a h1 h2 => n2 a h1 a h2 rfl
  rw [lookup_cons] at e
  cases z : p == q with
  | true =>
   rw [z] at e
   have z := beq_iff_eq.mp z
   subst z
   cases e
   refine ⟨f0, h, n0, fun a ha => mem_append_left _ ha, fun c' fq' B' F' sf hc nq ag fr => ?_⟩
   unfold updB
   rw [if_pos rfl]
   refine ⟨fq' ++ f1, .cons hc (r.mono sf fun a ha => ag a (mem_append_right _ ha) fun z => dj a z ha), List.nodup_append.mpr ⟨nq, n1, fun a h1 b h2 hab => ?_⟩, fun a ha => ?_⟩
   ·subst hab
    rcases fr a h1 with z | z
    ·exact dj a z h2
    ·exact z (mem_append_right _ h2)
   ·rcases List.mem_append.mp ha with z | z
    ·exact .inr z
    ·exact .inl (mem_append_right _ z)
  | false =>
   rw [z] at e
   have hne : ¬ q = p := fun y => by rw [y, beq_self_eq_true] at z; cases z
   obtain ⟨fq, h1, nq0, hin, hup⟩ := r.upd n1 e
   refine ⟨fq, h1, nq0, fun a ha => mem_append_right _ (hin a ha), fun c' fq' B' F' sf hc nq ag fr => ?_⟩
   obtain ⟨fp', r', nd', hm⟩ := hup c' fq' B' F' sf hc nq (fun a ha hn => ag a (mem_append_right _ ha) hn) fun a ha => (fr a ha).imp id fun z y => z (mem_append_right _ y)
   unfold updB
   rw [if_neg hne]
   refine ⟨f0 ++ fp', .cons (h.mono sf fun a ha => ag a (mem_append_left _ ha) fun y => dj a ha (hin a y)) r', List.nodup_append.mpr ⟨n0, nd', fun a h1 b h2 hab => ?_⟩, fun a ha => ?_⟩
   ·subst hab
    rcases hm a h2 with z | z
    ·exact dj a h1 z
    ·rcases fr a z with y | y
     ·exact dj a h1 (hin a y)
     ·exact y (mem_append_left _ h1)
   ·rcases List.mem_append.mp ha with z | z
    ·exact .inl (mem_append_left _ z)
    ·exact (hm a z).imp (mem_append_right _) id
theorem Rl.putB {a : Addr} {o : HO} (rl : Rl K F0 (jn H0 B) F H σ ρ) (out : ∀ b, B b ≠ none -> H0 b = none /\ F0 b = none) (ha : B a ≠ none \/ H a = none) : Rl K F0 (jn H0 (upd B a o)) F (upd H a o) σ ρ /\ F a = none /\ H0 a = none /\ F0 a = none := by
 have fa : F a = none /\ H0 a = none /\ F0 a = none := by
  rcases ha with h | h
  ·refine ⟨?_, out a h⟩
   cases q : F a with
   | none => rfl
   | some u => exact absurd (jn_free (rl.ext.new a (out a h).2 (by rw [q]; simp))).1 h
  ·have f : F a = none := rl.fh.free h
   exact ⟨f, (jn_free (rl.ext.hh.free h)).2, rl.ext.ff.free f⟩
 have jo : ∀ b, b ≠ a -> jn H0 (upd B a o) b = jn H0 B b := fun b hb => by unfold jn; rw [upd_ne hb]
 have ne : ∀ p xs, jn H0 B p = none -> H p = some (.lst xs) -> p ≠ a := fun p xs e1 e2 e3 => by
  subst e3
  rcases ha with h | h
  ·exact h (jn_free e1).1
  ·rw [h] at e2; cases e2
 refine ⟨⟨⟨rl.ext.ff, fun b u e => ?_, rl.ext.fh.put fa.1, fun b e n => ?_, rl.ext.nf⟩, rl.len, rl.sh, fun i ds e => ?_, rl.inj, fun i p ds e => ?_, rl.obn, rl.ob1⟩, fa⟩
 ·by_cases hb : b = a
  ·subst hb
   rw [jn_some upd_same] at e
   rw [upd_same]; exact e
  ·rw [jo b hb] at e
   rw [upd_ne hb]
   exact rl.ext.hh b u e
 ·have hb : b ≠ a := fun z => by subst z; exact n fa.1
  rw [jo b hb]
  exact rl.ext.new b e n
 ·obtain ⟨p, xs, a1, a2, a3, a4, a5⟩ := rl.own i ds e
  have hp := ne p xs a5 a3
  exact ⟨p, xs, a1, a2, by rw [upd_ne hp]; exact a3, a4, by rw [jo p hp]; exact a5⟩
 ·obtain ⟨a1, a2, a3, xs, a4, a5⟩ := rl.ob i p ds e
  have hp := ne p xs a3 a4
  exact ⟨a1, a2, by rw [jo p hp]; exact a3, xs, by rw [upd_ne hp]; exact a4, a5⟩
end
end
section
def putN (f : Str) (w : Fl) : List Str -> List Fl -> List Str × List Fl
 | n :: ns, g :: gs => if n = f then (n :: ns, w :: gs) else (n :: (putN f w ns gs).1, g :: (putN f w ns gs).2)
 | _, _ => ([f], [w])
section
variable {K : W.Frag} {F0 H0 F H B : Hp} {σ : St} {ρ : Ro} {β : Bx} {fp : List Addr}
theorem FlR.length {xs : List V} {fs : List Fl} (h : FlR K F B fp xs fs) : xs.length = fs.length := by
 induction h with
 | nil => rfl
 | v _ _ ih => simp [ih]
 | l _ _ _ ih => simp [ih]
theorem FlR.one_cons {fw : List Addr} {y : V} {w : Fl} (h : FlR K F B fw [y] [w]) {fq : List Addr} {xs : List V} {fs : List Fl} (r : FlR K F B fq xs fs) : FlR K F B (fw ++ fq) (y :: xs) (w :: fs) := by
 cases h with
 | v a b => cases b; exact .v a r
 | l a b c => cases c; exact .l a b r
theorem FlR.put {f : Str} {y : V} {w : Fl} {fw : List Addr} (hw : FlR K F B fw [y] [w]) (nw : fw.Nodup) : ∀ {fq : List Addr} {ns : List Str} {xs : List V} {fs : List Fl}, FlR K F B fq xs fs -> ns.length = xs.length -> fq.Nodup -> (∀ a ∈ fw, a ∉ fq) ->
  ∃ xs' fq', putF f y (ns.zip xs) = (putN f w ns fs).1.zip xs' /\ (putN f w ns fs).1.length = xs'.length /\ FlR K F B fq' xs' (putN f w ns fs).2 /\ fq'.Nodup /\ ∀ a ∈ fq', a ∈ fq \/ a ∈ fw
 | _, [], _, _, .nil, _, _, _ => ⟨[y], fw, rfl, rfl, hw, nw, fun a h => .inr h⟩
 | _, _ :: _, _, _, .nil, hl, _, _ => by cases hl
 | _, [], _, _, .v _ _, hl, _, _ => by cases hl
 | _, [], _, _, .l _ _ _, hl, _, _ => by cases hl
 | fq, n :: ns, x :: xs, _ :: fs, .v r rr, hl, nd, dj => by
  have l' : ns.length = xs.length := by simpa using hl
  by_cases hn : n = f
  ·refine ⟨y :: xs, fw ++ fq, ?_, ?_, ?_, ?_, ?_⟩
   ·rw [zip_cons_cons]; unfold putF putN; rw [if_pos hn, if_pos hn]; rfl
   ·unfold putN; rw [if_pos hn]; simpa using hl
   ·unfold putN; rw [if_pos hn]; exact hw.one_cons rr
   ·exact List.nodup_append.mpr ⟨nw, nd, fun a h1 b h2 e => by subst e; exact dj a h1 h2⟩
   ·intro a ha; exact (List.mem_append.mp ha).symm
  ·obtain ⟨xs', fq', e1, e2, e3, e4, e5⟩ := FlR.put (f := f) hw nw rr l' nd dj
   refine ⟨x :: xs', fq', ?_, ?_, ?_, e4, e5⟩
   ·rw [zip_cons_cons]; unfold putF putN; rw [if_neg hn, if_neg hn, e1]; rfl
   ·unfold putN; rw [if_neg hn]; simp [e2]
   ·unfold putN; rw [if_neg hn]; exact .v r e3
 | _, n :: ns, _ :: xs, _ :: fs, .l (fp := fq) (q := q) b r rr, hl, nd, dj => by
  have l' : ns.length = xs.length := by simpa using hl
  have nd' := List.nodup_cons.mp nd
  have dj' : ∀ a ∈ fw, a ∉ fq := fun a h1 h2 => dj a h1 (mem_cons_of_mem _ h2)
  by_cases hn : n = f
  ·refine ⟨y :: xs, fw ++ fq, ?_, ?_, ?_, ?_, ?_⟩
   ·rw [zip_cons_cons]; unfold putF putN; rw [if_pos hn, if_pos hn]; rfl
   ·unfold putN; rw [if_pos hn]; simpa using hl
   ·unfold putN; rw [if_pos hn]; exact hw.one_cons rr
   ·exact List.nodup_append.mpr ⟨nw, nd'.2, fun a h1 b h2 e => by subst e; exact dj' a h1 h2⟩
   ·intro a ha
    rcases List.mem_append.mp ha with z | z
    ·exact .inr z
    ·exact .inl (mem_cons_of_mem _ z)
  ·obtain ⟨xs', fq', e1, e2, e3, e4, e5⟩ := FlR.put (f := f) hw nw rr l' nd'.2 dj'
   refine ⟨.ref q :: xs', q :: fq', ?_, ?_, ?_, ?_, ?_⟩
   ·rw [zip_cons_cons]; unfold putF putN; rw [if_neg hn, if_neg hn, e1]; rfl
   ·unfold putN; rw [if_neg hn]; simp [e2]
   ·unfold putN; rw [if_neg hn]; exact .l b r e3
   ·refine List.nodup_cons.mpr ⟨fun h => ?_, e4⟩
    rcases e5 q h with z | z
    ·exact nd'.1 z
    ·exact dj q z (by simp)
   ·intro a ha
    rcases List.mem_cons.mp ha with rfl | z
    ·exact .inl (by simp)
    ·exact (e5 a z).imp (mem_cons_of_mem _) id
theorem upd_out {a : Addr} {o : HO} (out : ∀ b, B b ≠ none -> H0 b = none /\ F0 b = none) (h : H0 a = none /\ F0 a = none) : ∀ b, upd B a o b ≠ none -> H0 b = none /\ F0 b = none := fun b hb => by
 by_cases z : b = a
 ·subst z; exact h
 ·rw [upd_ne z] at hb; exact out b hb
theorem upd_plain {a : Addr} {o : HO} (pl : ∀ b o u, B b ≠ some (.frz o u)) (h : ∀ p u, o ≠ .frz p u) : ∀ b p u, upd B a o b ≠ some (.frz p u) := fun b p u hb => by
 by_cases z : b = a
 ·subst z; rw [upd_same] at hb; exact h p u (Option.some.inj hb)
 ·rw [upd_ne z] at hb; exact pl b p u hb
end
section
variable {X : Cx} {value o : Expr} {pos pos' : Pos} {f : Str}
end
end
section
section
variable {X : Cx} {value e o : Expr} {pos pos' apos cpos : Pos} {f : Str} {st : Stmt} {rest : List Stmt}
def getN (f : Str) : List Str -> List Fl -> Option Fl
 | n :: ns, g :: gs => if n = f then some g else getN f ns gs
 | _, _ => none
theorem FlR.get {K : W.Frag} {F B : Hp} {f : Str} {ds : List D} : ∀ {fq : List Addr} {ns : List Str} {xs : List V} {fs : List Fl}, FlR K F B fq xs fs -> ns.length = xs.length -> fq.Nodup -> getN f ns fs = some (.l ds) ->
  ∃ q ys, (ns.zip xs).lookup f = some (.ref q) /\ q ∈ fq /\ B q = some (.lst ys) /\ Reps K F ys ds /\ ∀ (B' F' : Hp) ys' ds', Same F F' -> B' q = some (.lst ys') -> Reps K F' ys' ds' -> (∀ a ∈ fq, a ≠ q -> B' a = B a) -> FlR K F' B' fq xs (putN f (.l ds') ns fs).2 /\ (putN f (.l ds') ns fs).1 = ns
 | _, [], _, _, .nil, _, _, e => by cases e
 | _, _ :: _, _, _, .nil, hl, _, _ => by cases hl
 | _, [], _, _, .v _ _, hl, _, _ => by cases hl
 | _, [], _, _, .l _ _ _, hl, _, _ => by cases hl
 | fq, n :: ns, x :: xs, _ :: fs, .v r rr, hl, nd, e => by
  have l' : ns.length = xs.length := by simpa using hl
  unfold getN at e
  by_cases hn : n = f
  ·rw [if_pos hn] at e; cases e
  ·rw [if_neg hn] at e
   obtain ⟨q, ys, a1, a2, a3, a4, a5⟩ := FlR.get rr l' nd e
   have hb : (f == n) = false := by
    cases z : f == n with
    | false => rfl
    | true => exact absurd (beq_iff_eq.mp z).symm hn
   refine ⟨q, ys, by rw [zip_cons_cons, lookup_cons, hb]; exact a1, a2, a3, a4, fun B' F' ys' ds' sf b1 b2 b3 => ?_⟩
   obtain ⟨c1, c2⟩ := a5 B' F' ys' ds' sf b1 b2 b3
   unfold putN
   rw [if_neg hn]
   exact ⟨.v (r.mono sf) c1, by simp [c2]⟩
 | _, n :: ns, _ :: xs, _ :: fs, .l (fp := fq) (q := q0) b r rr, hl, nd, e => by
  have l' : ns.length = xs.length := by simpa using hl
  have nd' := List.nodup_cons.mp nd
  unfold getN at e
  by_cases hn : n = f
  ·rw [if_pos hn] at e; cases e
   have hb : (f == n) = true := beq_iff_eq.mpr hn.symm
   refine ⟨q0, _, by rw [zip_cons_cons, lookup_cons, hb], by simp, b, r, fun B' F' ys' ds' sf b1 b2 b3 => ?_⟩
   unfold putN
   rw [if_pos hn]
   exact ⟨.l b1 b2 (rr.mono sf fun a ha => b3 a (by simp [ha]) fun z => nd'.1 (z ▸ ha)), rfl⟩
  ·rw [if_neg hn] at e
   obtain ⟨q, ys, a1, a2, a3, a4, a5⟩ := FlR.get rr l' nd'.2 e
   have hb : (f == n) = false := by
    cases z : f == n with
    | false => rfl
    | true => exact absurd (beq_iff_eq.mp z).symm hn
   refine ⟨q, ys, by rw [zip_cons_cons, lookup_cons, hb]; exact a1, by simp [a2], a3, a4, fun B' F' ys' ds' sf b1 b2 b3 => ?_⟩
   obtain ⟨c1, c2⟩ := a5 B' F' ys' ds' sf b1 b2 fun a ha hq => b3 a (by simp [ha]) hq
   unfold putN
   rw [if_neg hn]
   exact ⟨.l (by rw [b3 q0 (by simp) fun z => nd'.1 (z ▸ a2)]; exact b) (r.mono sf) c1, by simp [c2]⟩
end
end
section
theorem Rl.forget {K : W.Frag} {F0 H0 F H : Hp} {σ : St} {ρ : Ro} (r : Rl K F0 H0 F H σ ρ) (i : Nat) : Rl K F0 H0 F H σ (ρ.set i none) := by
 have back : ∀ (j : Nat) x, (ρ.set i none)[j]? = some (some x) -> ρ[j]? = some (some x) := fun j x e => by
  by_cases hj : i = j
  ·subst hj
   rcases Nat.lt_or_ge i ρ.length with z | z
   ·rw [getElem?_set_self z] at e; cases e
   ·rw [getElem?_eq_none (by simpa using z)] at e; cases e
  ·rw [getElem?_set_ne hj] at e; exact e
 exact ⟨r.ext, by simp [r.len], fun j d e => r.sh j d (back j _ e), fun j ds e => r.own j ds (back j _ e), fun j k p ds es hjk e1 e2 => r.inj j k p ds es hjk (back j _ e1) (back k _ e2), fun j p ds e => r.ob j p ds (back j _ e), fun j k p ds es e1 e2 => r.obn j k p ds es (back j _ e1) (back k _ e2), fun j k p q ds es e1 e2 => r.ob1 j k p q ds es (back j _ e1) (back k _ e2)⟩
open Classical in
noncomputable def anyN {α : Type} (β : Bx) (f : Addr -> Option α) : Option α := if h : ∃ r, ∀ x, x ∉ β.map Prod.fst -> f x = some r then some (Classical.choose h) else none
theorem anyN_some {α : Type} {β : Bx} {f : Addr -> Option α} {r : α} (h : anyN β f = some r) : ∀ x, x ∉ β.map Prod.fst -> f x = some r := by
 unfold anyN at h
 split at h
 ·rename_i hx
  cases h
  exact Classical.choose_spec hx
 ·cases h
theorem fresh_addr (l : List Addr) : ∃ x, x ∉ l := by
 have aux : ∀ l : List Addr, ∃ b, ∀ a ∈ l, a < b := by
  intro l
  induction l with
  | nil => exact ⟨0, fun a h => by cases h⟩
  | cons a l ih =>
   obtain ⟨b, hb⟩ := ih
   refine ⟨max b (a + 1), fun c hc => ?_⟩
   rcases List.mem_cons.mp hc with rfl | hc
   ·have := Nat.le_max_right b (c + 1); exact Nat.lt_of_lt_of_le (Nat.lt_succ_self c) this
   ·exact Nat.lt_of_lt_of_le (hb c hc) (Nat.le_max_left _ _)
 obtain ⟨b, hb⟩ := aux l
 exact ⟨b, fun h => Nat.lt_irrefl _ (hb b h)⟩
theorem anyN_of {α : Type} {β : Bx} {f : Addr -> Option α} {r : α} (h : ∀ x, x ∉ β.map Prod.fst -> f x = some r) : anyN β f = some r := by
 unfold anyN
 have hx : ∃ r, ∀ x, x ∉ β.map Prod.fst -> f x = some r := ⟨r, h⟩
 rw [dif_pos hx]
 obtain ⟨x, hn⟩ := fresh_addr (β.map Prod.fst)
 have := Classical.choose_spec hx x hn
 rw [h x hn] at this
 exact this.symm
def letGo (i : Nat) (k : Nat) : Out × Bx -> Out × Bx
 | (.nx ρ, β) => (.nx (ρ.set i none), β.drop (β.length - k))
 | (.bk ρ, β) => (.bk (ρ.set i none), β.drop (β.length - k))
 | (.ct ρ, β) => (.ct (ρ.set i none), β.drop (β.length - k))
 | (o, β) => (o, β.drop (β.length - k))
theorem okW.letGo {K : W.Frag} {F0 H0 Fb : Hp} {Dn : Ends} {i k : Nat} : ∀ {o : Out} {β : Bx}, okW K F0 H0 Fb Dn (letGo i k (o, β)).1 (letGo i k (o, β)).2 -> okW K F0 H0 Fb Dn o β
 | .nx ρ, β, h => fun F H σ ⟨B, fp, rl, ok⟩ s => let ⟨fq, ok'⟩ := ok.drop (β.length - k); h F H σ ⟨B, fq, rl.forget i, ok'⟩ s
 | .bk ρ, β, h => fun F H σ ⟨B, fp, rl, ok⟩ s => let ⟨fq, ok'⟩ := ok.drop (β.length - k); h F H σ ⟨B, fq, rl.forget i, ok'⟩ s
 | .ct ρ, β, h => fun F H σ ⟨B, fp, rl, ok⟩ s => let ⟨fq, ok'⟩ := ok.drop (β.length - k); h F H σ ⟨B, fq, rl.forget i, ok'⟩ s
 | .rt d, β, h => fun v F H B fp x ok r => let ⟨fq, ok'⟩ := ok.drop (β.length - k); h v F H B fq x ok' r
 | .rf ds, β, h => fun p xs F H B fp x ok a b c r => let ⟨fq, ok'⟩ := ok.drop (β.length - k); h p xs F H B fq x ok' a b c r
 | .rg d p r, β, h => fun v F H xs B fp x ok a j b c e => let ⟨fq, ok'⟩ := ok.drop (β.length - k); h v F H xs B fq x ok' a j b c e
 | .rp _ _, _, h => h
 | .rgf _ _ _, _, h => h
section
variable {X : Cx} {e : Expr} {es : List Expr} {st : Stmt} {rest : List Stmt} {E : XK} {mf : MFW} {m : ML}
theorem BxR.keys {K : W.Frag} {F B : Hp} : ∀ {fp : List Addr} {β : Bx}, BxR K F B fp β -> ∀ p ∈ β.map Prod.fst, B p ≠ none
 | _, _, .nil, p, h => by cases h
 | _, _, .cons (p := q) c r, p, h => by
  rw [map_cons] at h
  rcases List.mem_cons.mp h with z | z
  ·subst z
   cases c with
   | ins _ _ b _ _ => rw [b]; simp
   | row b _ => rw [b]; simp
   | tb _ b _ _ => rw [b]; simp
  ·exact r.keys p z
end
def plainW (mf : MFW) : MF := fun ds => match mf ds [] with | some (.sh d, _) => some (.sh d) | some (.fr es, _) => some (.fr es) | _ => none
theorem Ext.unjn {F H B F' H' : Hp} (d : ∀ a, B a ≠ none -> H a = none) (x : Ext F (jn H B) F' H') : Ext F H F' H' :=
 ⟨x.ff, fun a o e => x.hh a o (by
  cases q : B a with
  | none => rw [jn_none q]; exact e
  | some u => rw [d a (by rw [q]; simp)] at e; cases e), x.fh, fun b e n => (jn_free (x.new b e n)).2, x.nf⟩
theorem FnOk.plainW {P : Program} {w : World} {K : W.Frag} {mg : Str -> Option Value} {base : Heap} {CX : CXT} {k : Nat} {f : Addr} {fd : FuncData} {ps : List Str} {n : Nat} {mf : MFW} (G : FnOk P w K mg base CX k f fd ps (spW K n mf)) : FnOk P w K mg base CX k f fd ps (spR K n (plainW mf)) := G.imp fun vs H Q E hpat => by
 obtain ⟨hl, F, ds, r, sf, rs, e, ok⟩ := hpat
 have hc : cut H (fun _ => none) = H := funext fun a => cut_out rfl
 have b0 : BxOk K F (cut H fun _ => none) F (fun _ => none) [] [] := ⟨fun a h => absurd rfl h, .nil, nodup_nil, fun a o u h => by cases h⟩
 refine ⟨hl, F, fun _ => none, [], ds, [], ?_⟩
 unfold L2.plainW at e
 split at e
 ·rename_i d β h1
  cases e
  refine ⟨_, _, sf, fun a o h => (by cases h), b0, rs, h1, fun v F' H' B' fp' x k' r => ?_⟩
  rw [hc] at x k'
  exact ok v F' H' (x.unjn fun a h => (k'.out a h).1) r
 ·rename_i es β h1
  cases e
  refine ⟨_, _, sf, fun a o h => (by cases h), b0, rs, h1, fun p xs F' H' B' fp' x k' a1 a2 a3 a4 => ?_⟩
  rw [hc] at x k' a1
  exact ok p xs F' H' (x.unjn fun a h => (k'.out a h).1) (jn_free a1).2 a2 a3 a4
 ·cases e
end
section
section
variable {X : Cx} {a b c e o : Expr} {pos : Pos} {st : Stmt} {rest : List Stmt} {E : XK} {es : List Expr} {mf : MFW}
end
end
section
theorem TD.mono {K : W.Frag} {m : ME} {σ : St} {H : Hp} {Q Q' : VK} (h : TD K m σ H Q) (i : ∀ v H', Q v H' -> Q' v H') : TD K m σ H Q' := let ⟨F0, H0, F, ρ, d, rl, e, q⟩ := h; ⟨F0, H0, F, ρ, d, rl, e, fun v F' H' x r => i _ _ (q v F' H' x r)⟩
section
variable {X : Cx} {e o : Expr} {E : XK}
end
end
section
section
variable {X : Cx} {e : Expr} {pos : Pos}
end
end
section
section
variable {K : W.Frag} {F0 H0 F H B : Hp} {σ : St} {ρ : Ro} {β : Bx} {fp : List Addr}
end
abbrev MGW := Addr -> List D -> List D -> Bx -> Option (D × List D × Bx)
section
variable {X : Cx} {e : Expr} {pos : Pos} {st : Stmt} {es : List Expr} {E : XK} {mf : MGW} {m : ML}
end
end
section
end
section
def qfnD (K : W.Frag) (nm ql : Str) (st : Stmt) (x : Addr) : Prop := ∃ (oc : Value) (o1 : Option Addr) (kV dc pm : Value) (o2 : Option Addr) (cd ct : Value) (sl : Array (Option Value)), K.lookup x = some ⟨oc, o1, .func (W.fnOf nm ql (defArgs st) (defBody st) (defScope st) .none kV dc pm o2 cd ct), sl⟩ /\ W.codeIn K cd ql = true /\ W.keepIn K (.ref x) = true
def QDn (K : W.Frag) (nm : Str) (st : Stmt) : Prop := ∃ x : Addr, W.nsIn K mainGlobals nm = some (some (.ref x)) /\ qfnD K nm nm st x
def QMn (K : W.Frag) (C : Addr) (nm ql : Str) (st : Stmt) : Prop := ∃ x : Addr, W.findIn K (.ref C) nm = some (some (.ref x)) /\ W.isFn K (.ref x) = true /\ qfnD K nm ql st x
theorem QDn.of {K : W.Frag} {nm : Str} {st : Stmt} {x : Addr} {oc : Value} {o1 : Option Addr} {kV dc pm : Value} {o2 : Option Addr} {cd ct : Value} {sl : Array (Option Value)} (e : W.nsIn K mainGlobals nm = some (some (.ref x))) (l : K.lookup x = some ⟨oc, o1, .func (W.fnOf nm nm (defArgs st) (defBody st) (defScope st) .none kV dc pm o2 cd ct), sl⟩) (c : W.codeIn K cd nm = true) (k : W.keepIn K (.ref x) = true) : QDn K nm st := ⟨x, e, oc, o1, kV, dc, pm, o2, cd, ct, sl, l, c, k⟩
theorem QMn.of {K : W.Frag} {C : Addr} {nm ql : Str} {st : Stmt} {x : Addr} {oc : Value} {o1 : Option Addr} {kV dc pm : Value} {o2 : Option Addr} {cd ct : Value} {sl : Array (Option Value)} (e : W.findIn K (.ref C) nm = some (some (.ref x))) (i : W.isFn K (.ref x) = true) (l : K.lookup x = some ⟨oc, o1, .func (W.fnOf nm ql (defArgs st) (defBody st) (defScope st) .none kV dc pm o2 cd ct), sl⟩) (c : W.codeIn K cd ql = true) (k : W.keepIn K (.ref x) = true) : QMn K C nm ql st := ⟨x, e, i, oc, o1, kV, dc, pm, o2, cd, ct, sl, l, c, k⟩
abbrev QBdD (nm ql : Str) (st : Stmt) (ps : List Str) (us : List Value) : Prop := ∀ (kV doc pm : Value) (an : Option Addr) (cdv ct : Value), bindArgs (W.fnOf nm ql (defArgs st) (defBody st) (defScope st) .none kV doc pm an cdv ct) ⟨us, []⟩ = pure (ps.zip us)
section
variable {P : Program} {w : World} {K : W.Frag} {mg : Str -> Option Value} {base h : Heap} {nm ql cn : Str} {st : Stmt} {ps : List Str} {sp : Sp} {n : Nat} {C : Addr}
def QDf (K : W.Frag) (mg : Str -> Option Value) (nm : Str) (st : Stmt) (ps : List Str) : Prop := ∃ f fd, Fun K nm nm st f fd /\ Binds K fd ps [] /\ mg nm = some (.ref f)
def QHd (P : Program) (w : World) (K : W.Frag) (mg : Str -> Option Value) (base : Heap) (n : Nat) (nm : Str) (ps : List Str) (sp : Sp) : Prop := ∃ f fd, FnOk P w K mg base CX0 n f fd ps sp /\ Binds K fd ps [] /\ W.keepIn K (.ref f) = true /\ mg nm = some (.ref f)
def QMf (K : W.Frag) (C : Addr) (nm ql : Str) (st : Stmt) (ps : List Str) : Prop := ∃ f fd, Fun K nm ql st f fd /\ Binds K fd ps [] /\ Meth K C nm f
def QHm (P : Program) (w : World) (K : W.Frag) (mg : Str -> Option Value) (base : Heap) (n : Nat) (C : Addr) (nm : Str) (ps : List Str) (sp : Sp) : Prop := ∃ f fd, FnOk P w K mg base CX0 n f fd ps sp /\ Binds K fd ps [] /\ Meth K C nm f
def QHi (P : Program) (w : World) (K : W.Frag) (mg : Str -> Option Value) (base : Heap) (n : Nat) (C : Addr) (cn : Str) (ps : List Str) (sp : Sp) : Prop := ∃ f fd, FnOk P w K mg base CX0 n f fd ps sp /\ Binds K fd ps [] /\ Mk K C f /\ mg cn = some (.ref C)
theorem qfnD.mk {x : Addr} (D : qfnD K nm ql st x) (hb : ∀ us : List Value, us.length = ps.length -> QBdD nm ql st ps us) : ∃ fd, Fun K nm ql st x fd /\ Binds K fd ps [] := by
 obtain ⟨oc, o1, kV, dc, pm, o2, cd, ct, sl, l, c, k⟩ := D
 exact ⟨_, fun_mk l c k, (fun_mk l c k).binds fun _ _ _ _ _ _ us hl => hb us hl _ _ _ _ _ _⟩
theorem QDn.df (D : QDn K nm st) (X : K.In h) (G : h.Ns mainGlobals mg) (hb : ∀ us : List Value, us.length = ps.length -> QBdD nm nm st ps us) : QDf K mg nm st ps := by
 obtain ⟨x, e, D⟩ := D
 obtain ⟨fd, F, b⟩ := D.mk hb
 exact ⟨x, fd, F, b, W.mg_of X G e⟩
theorem QMn.mf (D : QMn K C nm ql st) (hb : ∀ us : List Value, us.length = ps.length -> QBdD nm ql st ps us) : QMf K C nm ql st ps := by
 obtain ⟨x, e, i, D⟩ := D
 obtain ⟨fd, F, b⟩ := D.mk hb
 exact ⟨x, fd, F, b, e, i, F.kp⟩
theorem QDf.mk (D : QDf K mg nm st ps) (h : ∀ f fd, Fun K nm nm st f fd -> FnOk P w K mg base CX0 n f fd ps sp) : QHd P w K mg base n nm ps sp := by
 obtain ⟨f, fd, F, b, a⟩ := D
 exact ⟨f, fd, h f fd F, b, F.kp, a⟩
theorem QMf.mk (D : QMf K C nm ql st ps) (h : ∀ f fd, Fun K nm ql st f fd -> FnOk P w K mg base CX0 n f fd ps sp) : QHm P w K mg base n C nm ps sp := by
 obtain ⟨f, fd, F, b, m⟩ := D
 exact ⟨f, fd, h f fd F, b, m⟩
theorem QHm.hi (H : QHm P w K mg base n C "__init__" ps sp) (m1 : W.makesIn K C = true) (m2 : W.keepIn K (.ref C) = true) (a : mg cn = some (.ref C)) : QHi P w K mg base n C cn ps sp := by
 obtain ⟨f, fd, F, b, m⟩ := H
 exact ⟨f, fd, F, b, ⟨m1, m.at_, m.fn, m2⟩, a⟩
theorem qbd1 {P : List Value -> Prop} (h : ∀ a, P [a]) : ∀ us : List Value, us.length = 1 -> P us
 | [a], _ => h a
theorem qbd2 {P : List Value -> Prop} (h : ∀ a b, P [a, b]) : ∀ us : List Value, us.length = 2 -> P us
 | [a, b], _ => h a b
theorem qbd3 {P : List Value -> Prop} (h : ∀ a b c, P [a, b, c]) : ∀ us : List Value, us.length = 3 -> P us
 | [a, b, c], _ => h a b c
theorem qbd4 {P : List Value -> Prop} (h : ∀ a b c d, P [a, b, c, d]) : ∀ us : List Value, us.length = 4 -> P us
 | [a, b, c, d], _ => h a b c d
end
section
variable {X : Cx} {n k : Nat} {nm cn : Str} {ps : List Str} {sp : Sp} {e o : Expr} {es : List Expr} {ta : TE} {t : TA} {p pos apos : Pos} {C : Addr} {pl : Sem Bool}
theorem qcl (H : QHd X.prog X.w X.K X.mg X.base n nm ps sp) (hr : Room k X.A) (ha : PA X (e :: es) t) (hn : n <= k := by decide) (hg : Gl X nm := by rfl) (hdb : (nm == ("__debug__" : Str)) = false := by decide) (he : starEach (e :: es) X.env = (false, eval e X.env) :: starEach es X.env := by rfl) (hpl : (backTo pos (starEach es X.env)).any (·.1) = false := by rfl) :
  PE X (.Call (.Name nm p) (e :: es) [] pos) (tCall sp [] E0 t) := by
 obtain ⟨f, fd, F, b, kk, a⟩ := H
 exact pe_call (F.mono hn) hr hg a kk b .nil pass0 ha hdb he hpl
end
theorem qap {X : Cx} {o e : Expr} {es : List Expr} {to : TE} {t : TA} {apos cpos : Pos} (ho : PE X o to) (ha : PA X (e :: es) t)
  (hbase : attributeBase o "append" X.env (eval o X.env) = eval o X.env := by rfl)
  (hfew : ((backTo cpos (starEach (e :: es) X.env)).all (fun x => !x.1) && (backToKw cpos (keywordEach [] X.env)).all (fun x => x.1.isSome)
   && decide ((e :: es).length + ([] : List Keyword).length + (if ([] : List Keyword).isEmpty then 0 else 1) < 30)) = true := by rfl)
  (hline : (apos.endLine == cpos.line) = true := by rfl) (hs : starEach (e :: es) X.env = (false, eval e X.env) :: starEach es X.env := by rfl) (hplain : (backTo cpos (starEach es X.env)).any (·.1) = false := by rfl) :
  PE X (.Call (.Attribute o "append" apos) (e :: es) [] cpos) (tBM X.K "list" rAppend to t) := pe_bm PySem.F.plainAttrs_list PySem.F.slot_list_append PySem.F.type_list_append mt_append ho ha hbase hfew hline hs hplain
section
variable {a b c d e f : ME} (ρ : Ro) (ds : List D)
theorem qal1 : acons a anil ρ = some ds -> ds.length = 0 + 1 := acons_len anil_len ρ ds
theorem qal2 : acons a (acons b anil) ρ = some ds -> ds.length = 0 + 1 + 1 := acons_len qal1 ρ ds
theorem qal3 : acons a (acons b (acons c anil)) ρ = some ds -> ds.length = 0 + 1 + 1 + 1 := acons_len qal2 ρ ds
theorem qal4 : acons a (acons b (acons c (acons d anil))) ρ = some ds -> ds.length = 0 + 1 + 1 + 1 + 1 := acons_len qal3 ρ ds
end
theorem qsc {N P : List Str} {sc : Scope} (a : sc.kind = .function := by rfl) (b : sc.isCoroutine = false := by rfl) (c : sc.isGenerator = false := by rfl) (d : N.Nodup := by decide +kernel) (e : N.take P.length = P := by rfl) (f : ∀ x ∈ P, sc.names.lookup x = some .local \/ sc.names.lookup x = some .cell := by decide +kernel) (g : ∀ y ∈ sc.names, y.2 ≠ .free := by decide +kernel) : FnScope N P sc := ⟨a, b, c, d, e, f, g⟩
end
section
section
variable {X : Cx} {a b c e : Expr} {pos : Pos} {st : Stmt}
def mretOW (i : Nat) : MW := fun ρ β => match ρ[i]? with | some (some (.own ds)) => some (.rf ds, β) | _ => none
theorem psw_retO (i : Nat) {x : Str} {pos' : Pos} (h : PE X (.Name x pos') (tVar i)) : PSw X (.Return (some (.Name x pos')) pos) (mretOW i) := PS.imp (ps_ret h) fun D σ H ⟨F0, H0, F, ρ, β, o, β', ⟨B, fp, rl, k⟩, e, ok⟩ => by
 unfold mretOW at e
 split at e
 ·rename_i ds h1
  cases e
  obtain ⟨p, xs, e1, e2, e3, e4, e5⟩ := rl.own i _ h1
  exact ⟨_, e1, ok p xs F H B fp rl.ext k e5 e2 e3 e4⟩
 ·cases e
end
end
section
def low (m : MW) : MS := fun ρ => match m ρ [] with | some (o, _) => some o | none => none
section
variable {X : Cx} {st : Stmt} {sts : List Stmt}
end
end
section
section
variable {X : Cx} {a b c e k : Expr} {te : TE} {ma mb : ME} {la lb : ML} {pos p2 : Pos} {st : Stmt}
def pickJ {α : Type} (xs : List α) (js : List Nat) : List α := js.filterMap (xs[·]?)
def pickL {α : Type} (xs : List α) (lo hi st : Option Int) : List α := pickJ xs (sliceRange (sliceBounds lo hi st xs.length).1 (sliceBounds lo hi st xs.length).2.1 (sliceBounds lo hi st xs.length).2.2)
theorem Reps.pick {K : W.Frag} {F : Hp} {vs : List V} {ds : List D} (r : Reps K F vs ds) : ∀ js : List Nat, Reps K F (pickJ vs js) (pickJ ds js)
 | [] => .nil
 | j :: js => by
  unfold pickJ
  rw [filterMap_cons, filterMap_cons]
  cases h : ds[j]? with
  | none =>
   have : vs[j]? = none := by rw [getElem?_eq_none_iff] at h ⊢; rw [r.length]; exact h
   rw [this]; exact Reps.pick r js
  | some d =>
   obtain ⟨v, h1, h2⟩ := r.get h
   rw [h1]; exact .cons h2 (Reps.pick r js)
theorem Vals.pick {vs : List V} {us : List Value} (r : Vals vs us) : ∀ js : List Nat, Vals (pickJ vs js) (pickJ us js)
 | [] => .nil
 | j :: js => by
  unfold pickJ
  rw [filterMap_cons, filterMap_cons]
  cases h : vs[j]? with
  | none =>
   have : us[j]? = none := by rw [getElem?_eq_none_iff] at h ⊢; rw [<- r.length]; exact h
   rw [this]; exact Vals.pick r js
  | some d =>
   obtain ⟨v, h1, h2⟩ := r.get h
   rw [h1]; exact .cons h2 (Vals.pick r js)
theorem slicePick_pick (its : List Value) (lo hi st : Option Int) : slicePick its.toArray lo hi st = (pickL its lo hi st).toArray := by
 unfold slicePick pickL pickJ
 simp
def tPick (K : W.Frag) (te : TE) (tl th tk : TO) : TE := fun σ H Q => te σ H fun x H1 => tl σ H1 fun lo H2 => th σ H2 fun hi H3 => tk σ H3 fun st H4 => st ≠ some 0 /\ ∃ a xs, x = .ref a /\ SqL K H4 a xs /\ (pickL xs lo hi st).length <= sizeLine /\ ∀ p, H4 p = none -> Q (.ref p) (upd H4 p (.lst (pickL xs lo hi st)))
theorem pe_pick {lo hi ko : Option Expr} {tl th tk : TO} (he : PE X e te) (hl : PO X lo tl) (hh : PO X hi th) (hk : PO X ko tk) (hsub : ∀ v i : Value, subscripted (.Slice lo hi ko p2) false v i = operate [v, i] (getItem v i)) : PE X (.Subscript e (.Slice lo hi ko p2) pos) (tPick X.K te tl th tk) := by
 intro pins s σ H Q I h
 refine Subscript_ (thn (he pins s σ H _ I h) fun v s1 hpat => ?_)
 obtain ⟨x, H1, I1, r1, q1⟩ := hpat
 refine wpAny_Slice (thn (hl pins s1 σ H1 _ I1 q1) fun vl s2 ⟨l, H2, I2, pl, q2⟩ => (thn (hh pins s2 σ H2 _ I2 q2) fun vh s3 ⟨hh', H3, I3, ph, q3⟩ => (thn (hk pins s3 σ H3 _ I3 q3) fun vk s4 hpat => ?_)))
 obtain ⟨o, H4, I4, pk, ne, a, xs, ex, hx, hz, q⟩ := hpat
 subst ex
 cases r1
 have I5 : Inv X pins σ H4 { s4 with heap := s4.heap.push { cls := .type "slice", data := .fields #[vl, vh, vk] } } := I4.kept (t' := s4.toks) fun b ob q => Heap.get?_push_of_some _ q
 obtain ⟨its, r, ht, hz'⟩ := I5.list hx
 have hlen := r.length
 show wpAny (model X.prog X.w) X.A (subscriptTail e (.Slice lo hi ko p2) (.ref a) (.ref s4.heap.objs.size)) (EP X pins σ Q) X.xe { s4 with heap := s4.heap.push { cls := .type "slice", data := .fields #[vl, vh, vk] } }
 refine tail_any (ops := [.ref a, .ref s4.heap.objs.size]) ht.isList.typeIs slot_list_getitem.lookup ?_ (hsub _ _)
 refine wpAny_getItem_list_slice ht.isList (Heap.IsSliceOf.new ..) pl ph pk ne ?_ (by rw [size_toArray] <;> omega)
 rw [slicePick_pick]
 refine ⟨.ref _, _, I5.laid (t' := s4.toks) (o := .lst (pickL xs l hh' o)) (fun b ob q => Heap.get?_push_of_some _ q) (Nat.le_refl _) ?_, rfl, q _ (I5.hok.fresh (Nat.le_refl _))⟩
 refine ⟨hz, _, 0, ?_, Heap.get?_push_size _ rfl⟩
 unfold pickL
 rw [hlen]
 exact r.pick _
@[irreducible] def mpick (m : ML) (lo hi k : MO) : ML := fun ρ => (m ρ).bind fun ds => (lo ρ).bind fun l => (hi ρ).bind fun h => (k ρ).bind fun s => if s ≠ some 0 /\ (pickL ds l h s).length <= sizeLine then some (pickL ds l h s) else none
theorem pf_pick {lo hi ko : Option Expr} {ml mh mk : MO} (ha : PB X a la) (hl : POs X lo ml) (hh : POs X hi mh) (hk : POs X ko mk) (hsub : ∀ v i : Value, subscripted (.Slice lo hi ko p2) false v i = operate [v, i] (getItem v i) := by intro _ _; with_unfolding_all rfl) : PF X (.Subscript a (.Slice lo hi ko p2) pos) (mpick la ml mh mk) := (pe_pick ha hl hh hk hsub).imp fun σ H Q hpat => by
 obtain ⟨F0, H0, F, ρ, g, rl, e, q⟩ := hpat
 unfold mpick at e
 cases h1 : la ρ with
 | none => rw [h1] at e; cases e
 | some ds =>
  cases h2 : ml ρ with
  | none => rw [h1, h2] at e; cases e
  | some l =>
   cases h3 : mh ρ with
   | none => rw [h1, h2, h3] at e; cases e
   | some h =>
    cases h4 : mk ρ with
    | none => rw [h1, h2, h3, h4] at e; cases e
    | some k =>
     rw [h1, h2, h3, h4] at e
     have e : (if k ≠ some 0 /\ (pickL ds l h k).length <= sizeLine then some (pickL ds l h k) else none) = some g := e
     split at e
     ·rename_i hz
      cases e
      refine ⟨F0, H0, F, ρ, ds, rl, h1, fun p xs F1 H1 x1 s1 r1 => ⟨F0, H0, F1, ρ, _, rl.go x1, h2, fun F2 H2 x2 => ⟨F0, H0, F2, ρ, _, (rl.go x1).go x2, h3, fun F3 H3 x3 => ⟨F0, H0, F3, ρ, _, ((rl.go x1).go x2).go x3, h4, fun F4 H4 x4 => ⟨hz.1, p, xs, rfl, x4.hh.seq (x3.hh.seq (x2.hh.seq s1)), ?_, fun w hw => ?_⟩⟩⟩⟩⟩
      ·have := hz.2
       have hr := ((r1.mono ((x2.ff.trans x3.ff).trans x4.ff)).pick (sliceRange (sliceBounds l h k ds.length).1 (sliceBounds l h k ds.length).2.1 (sliceBounds l h k ds.length).2.2)).length
       unfold pickL at this ⊢
       rw [r1.length, hr]; exact this
      ·have xx := ((x1.trans x2).trans x3).trans x4
       refine q w _ F4 _ (xx.trans (Ext.own x4.fh hw)) (xx.hh.free hw) (x4.fh.free hw) upd_same ?_
       unfold pickL
       rw [r1.length]
       exact (r1.mono ((x2.ff.trans x3.ff).trans x4.ff)).pick _
     ·cases e
def KTup (K : W.Frag) (a : Addr) (xs : List Str) : Prop := ∃ (o : Obj) (its : Array Value) (n : Nat), K.lookup a = some o /\ o.cls = .type "tuple" /\ o.data = .seq its n /\ its.size <= sizeLine /\ Vals (xs.map V.str) its.toList /\ o.dict = none
theorem KTup.rep {K : W.Frag} {F : Hp} {a : Addr} {xs : List Str} (h : KTup K a xs) : Rep K F (.ref a) (.tup (xs.map .str)) := let ⟨o, its, n, h1, h2, h3, h4, h5, _⟩ := h; .tup (.inr ⟨o, its, n, h1, h2, h3, h4, h5⟩) (reps_strs xs)
theorem pd_globT {x : Str} {xs : List Str} {q : Addr} {p : Pos} (ht : KTup X.K q xs) (hg : Gl X x) (hm : X.mg x = some (.ref q)) (hd : (x == ("__debug__" : Str)) = false := by decide) : PD X (.Name x p) (mc (.tup (xs.map .str))) := (pe_glob (v := .ref q) hg hm rfl hd).imp fun σ H Q hpat => by
 obtain ⟨F0, H0, F, ρ, d, r, e, q⟩ := hpat
 cases e; exact q _ F H (.refl r.fh) ht.rep
def idxS (x : Str) : List Str -> Option Nat
 | [] => none
 | y :: r => if y = x then some 0 else (idxS x r).map (· + 1)
theorem tuple_index2 {l : Addr} {a b x : Str} {ta tb tx : Tok} {j : Nat} (hj : idxS x [a, b] = some j) : Meets (Builtin.«tuple.index» { pos := [.ref l, .str x tx] }) fun A R s => (∃ o n, s.heap.get? l = some o /\ o.data = .seq #[.str a ta, .str b tb] n) /\ R (.ok (.ret (.int j s.toks))) { s with toks := s.toks + 1 } := by
 intro prog w A R s ⟨⟨o, n, ho, hd⟩, h⟩
 show wpAny _ A.in1 (Builtin.Tuple.tupleItemsOf (.ref l) >>= _) _ _ s
 refine wpAny_bind (wpAny_tupleItemsOf ho hd ?_)
 have hr : ∀ (f : Nat -> Option PySem.Fin × Unit -> Sem (ForInStep (Option PySem.Fin × Unit))) (z : Option PySem.Fin × Unit), (forIn [0:min (#[Value.str a ta, Value.str b tb] : Array Value).size (#[Value.str a ta, Value.str b tb] : Array Value).size] z f : Sem _) = forIn [0, 1] z f := fun f z => by
  rw [Std.Legacy.Range.forIn_eq_forIn_range']
  have e : List.range' [:min (#[Value.str a ta, Value.str b tb] : Array Value).size (#[Value.str a ta, Value.str b tb] : Array Value).size].start [:min (#[Value.str a ta, Value.str b tb] : Array Value).size (#[Value.str a ta, Value.str b tb] : Array Value).size].size [:min (#[Value.str a ta, Value.str b tb] : Array Value).size (#[Value.str a ta, Value.str b tb] : Array Value).size].step = [0, 1] := by
   show List.range' 0 ((2 - 0 + 1 - 1) / 1) 1 = [0, 1]
   decide
  rw [e]
 show wpAny _ A.in1 ((forIn [0:min (#[Value.str a ta, Value.str b tb] : Array Value).size (#[Value.str a ta, Value.str b tb] : Array Value).size] (none, ()) _) >>= _) _ _ s
 rw [hr, forIn_cons]
 unfold idxS at hj
 refine wpAny_bind (wpAny_bind ?_)
 show wpAny _ A.in1 (eqBool (.str a ta) (.str x tx) >>= _) _ _ s
 refine wpAny_bind (PySem.SeqAt.EqAt.str_str a ta x tx prog w _ _ ?_)
 by_cases ha : a = x
 ·rw [if_pos ha] at hj
  cases hj
  have hb : (a == x) = true := by simpa using ha
  rw [hb, if_pos rfl]
  refine wpAny_bind ?_
  unfold retInt
  refine wpAny_bind (wpAny_mkInt ?_)
  exact wpAny_pure (wpAny_pure (wpAny_pure (wpAny_pure h)))
 ·rw [if_neg ha] at hj
  have hb : (a == x) = false := by simpa using ha
  rw [hb, if_neg Bool.false_ne_true]
  refine wpAny_pure ?_
  dsimp only
  rw [forIn_cons]
  refine wpAny_bind ?_
  show wpAny _ A.in1 (eqBool (.str b tb) (.str x tx) >>= _) _ _ s
  refine wpAny_bind (PySem.SeqAt.EqAt.str_str b tb x tx prog w _ _ ?_)
  unfold idxS at hj
  by_cases hb : b = x
  ·rw [if_pos hb] at hj
   cases hj
   have hb' : (b == x) = true := by simpa using hb
   rw [hb', if_pos rfl]
   refine wpAny_bind ?_
   unfold retInt
   refine wpAny_bind (wpAny_mkInt ?_)
   exact wpAny_pure (wpAny_pure (wpAny_pure (wpAny_pure h)))
  ·rw [if_neg hb] at hj
   cases hj
theorem mt_indexS2 {a b : Str} : MtR X "tuple.index" (fun t vs H Q => ∃ l x j, t = .ref l /\ vs = [.str x] /\ SqT X.K H l [.str a, .str b] /\ idxS x [a, b] = some j /\ Q (.int (j : Int)) H) := by
 intro pins s σ H t vs v us Q I rx rv h
 obtain ⟨l, x, j, rfl, rfl, hl, hj, q⟩ := h
 cases rx
 obtain ⟨u, rfl, ru⟩ := rv.one
 obtain ⟨tk, rfl⟩ := ru
 obtain ⟨its, r, ⟨o, e, hc, n, hd⟩, z⟩ := I.tuple hl
 cases r with
 | cons r1 r =>
  cases r with
  | cons r2 r =>
   cases r
   obtain ⟨ta, rfl⟩ := r1
   obtain ⟨tb, rfl⟩ := r2
   exact call_meets F.slot_tuple_index ⟨_, e, hc⟩ F.entry_tuple_index (F.args_tuple_index_2 _ _) (tuple_index2 hj) ⟨⟨o, n, e, hd⟩, .int j, H, I.tok _, ⟨_, rfl⟩, q⟩
@[irreducible] def midxS (a b : Str) (x : ME) : ME := fun ρ => match x ρ with
 | some (.str y) => (idxS y [a, b]).map fun j => .int (j : Int)
 | _ => none
theorem pd_indexS {n a b : Str} {q : Addr} {x : ME} {p apos cpos : Pos} (ht : KTup X.K q [a, b]) (hb : PD X e x)
  (hE : ∀ ta, PA X [e] ta -> PE X (.Call (.Attribute (.Name n p) "index" apos) [e] [] cpos) (tBM X.K "tuple" (fun t vs H Q => ∃ l x j, t = .ref l /\ vs = [.str x] /\ SqT X.K H l [.str a, .str b] /\ idxS x [a, b] = some j /\ Q (.int (j : Int)) H) (tC (.ref q)) ta)) (hs : starEach (e :: []) X.env = (false, eval e X.env) :: starEach [] X.env := by rfl) : PD X (.Call (.Attribute (.Name n p) "index" apos) [e] [] cpos) (midxS a b x) :=
 (hE _ (pa_cons hb pa_nil hs)).imp fun σ H Q hpat => by
  obtain ⟨F0, H0, F, ρ, g, rl, e, q⟩ := hpat
  unfold midxS at e
  split at e
  ·rename_i y h1
   cases h2 : idxS y [a, b] with
   | none => rw [h2] at e; cases e
   | some j =>
    rw [h2] at e; cases e
    obtain ⟨o, its, n, k1, k2, k3, k4, k5, k6⟩ := ht
    refine ⟨.inr (.inl ⟨rfl, o, k1, k2, k6⟩), F0, H0, F, ρ, _, rl, h1, fun w F2 H2 x2 r2 => ?_⟩
    cases r2
    exact ⟨_, y, j, rfl, rfl, .inr ⟨o, its, n, k1, k2, k3, k4, k5⟩, h2, q _ F2 H2 x2 (.int _)⟩
  ·cases e
def astup (m : ME) : ML := fun ρ => match m ρ with | some (.tup ds) => some ds | _ => none
theorem itd_tup {K : W.Frag} {F : Hp} {p : Addr} {xs : List V} {ds : List D} (s : SqT K F p xs) (r : Reps K F xs ds) : ItD K F (Itt K p) ds where
 go := fun i F1 H1 a b hi => by
  obtain ⟨v, e, _⟩ := r.get (getElem?_eq_getElem hi)
  exact ⟨xs, v, b.seqT (a.seqT s), e⟩
 yld := fun i F1 H1 x H2 d a b e y => by
  obtain ⟨rfl, y⟩ := y
  obtain ⟨v, e1, e2⟩ := r.get e
  have := y xs (b.seqT (a.seqT s))
  rw [e1] at this; cases this
  exact ⟨F1, .refl b, e2.mono a⟩
 stop := fun F1 H1 a b => ⟨xs, b.seqT (a.seqT s), by rw [r.length]; exact Nat.le_refl _⟩
theorem pid_tup {tg : Expr} (hd : PD X e ma) : PId X tg e (astup ma) := PI.imp (pi_tup hd) fun σ H R hpat => by
 obtain ⟨F0, H0, F, ρ, its, rl, e, q⟩ := hpat
 unfold astup at e
 split at e
 ·rename_i ds h1
  cases e
  refine ⟨F0, H0, F, ρ, _, rl, h1, fun v F1 H1 x1 r1 => ?_⟩
  cases r1 with
  | tup s t => exact ⟨_, rfl, ⟨_, x1.fh.seqT s⟩, q _ F1 H1 x1 (itd_tup s t)⟩
 ·cases e
end
end
section
def ObjAt (a : Addr) (o : Obj) : Heap -> Prop := fun h => h.get? a = some o
abbrev lamO (X : Cx) (q : Str) (params : Arguments) (body : Expr) (sc : Scope) (pm : Value) (c : Addr) (ctv : Value) : Obj := W.kla_obj (Str.ofString "<lambda>") q params body sc (clOf X.env.cells sc.names []) pm c ctv
def tLam (X : Cx) (P : Addr) (pos : Pos) (q : Str) (params : Arguments) (body : Expr) (sc : Scope) : TE := fun σ H Q => ∃ ps, H P = some (.tbl ps) /\ TriplesOk ps.toList /\
 ((codeAmong pos ps.toList = none /\ ∀ c f pm ctv ps', c ≠ f -> H c = none -> H f = none -> TriplesOk ps'.toList -> codeAmong pos ps'.toList = some (.ref c) ->
   Q (.ref f) (upd (upd (upd H P (.tbl ps')) c (.ext (CodeAt c q))) f (.ext (ObjAt f (lamO X q params body sc pm c ctv))))) \/
  ∃ c, codeAmong pos ps.toList = some (.ref c) /\ H c = some (.ext (CodeAt c q)) /\ ∀ f pm ctv, H f = none -> Q (.ref f) (upd H f (.ext (ObjAt f (lamO X q params body sc pm c ctv)))))
theorem objAt_ok {P : Program} {w : World} {H : Hp} {h : Heap} {f : Addr} {o : Obj} (e : h.get? f = some o) : ObjOk P w H h f (.ext (ObjAt f o)) := ⟨e, ⟨o, e⟩, fun _ _ p k => k _ p⟩
theorem codeAt_ok {P : Program} {w : World} {H : Hp} {h : Heap} {c : Addr} {q : Str} (e : h.CodeRec (.ref c) q) : ObjOk P w H h c (.ext (CodeAt c q)) := by
 refine ⟨e, ?_, fun h1 h2 p k => ?_⟩
 ·obtain ⟨c', o, vs, t, e1, e2, _⟩ := e
  cases e1; exact ⟨o, e2⟩
 ·obtain ⟨c', o, vs, t, e1, e2, e3, e4⟩ := p
  cases e1
  exact ⟨c, o, vs, t, rfl, k o e2, e3, e4⟩
section
variable {X : Cx} {P : Addr} {pos : Pos} {q : Str} {params : Arguments} {body : Expr} {sc : Scope}
theorem pe_lam (ct : CodeT X.K X.env.code P) (bt0 : X.base.BuiltinsAt X.mg P) (hcl : ∀ x ∈ sc.names, x.2 = .free -> X.env.kindOf x.1 = some .cell \/ X.env.kindOf x.1 = some .free) (hd : defaultsOf params X.env = ([], []) := by rfl) (hq : X.env.qual ++ Str.ofString "<lambda>" = q := by rfl) :
  PE X (.Lambda params body sc pos) (tLam X P pos q params body sc) := by
 intro pins s σ H Q I ⟨ps, hP, tr, h⟩
 refine W.kla_eval hd ?_
 rw [hq]
 obtain ⟨c0, e0, hc0⟩ := ct.hd
 have hc0 := hc0 _ I.kIn
 have bt : s.heap.BuiltinsAt X.mg P := bt0.keeps I.bk
 have hPh : s.heap.get? P = some (W.tabObj ps) := I.hok P _ hP
 have cl := closureFor_clOf (env := X.env) (scope := sc) fun x hx hk => I.ok.has x.1 (hcl x hx hk)
 have hns : s.heap.Ns mainGlobals X.mg := by
  obtain ⟨o, es, ep, e, r⟩ := I.mod.glob
  exact ⟨o, es, ep, I.bk _ _ e, r⟩
 have hPl := Heap.lt_size hPh
 rcases h with ⟨hn, h⟩ | ⟨c, hc, hF, h⟩
 ·refine W.kla_makeFunction cl I.ok.glob hns e0 hc0 hPh tr hn ct.ne bt fun c ctv h' tk hx hle hlt hrec hP' => ?_
  generalize hps : (ps ++ #[rawInt pos.line, rawInt pos.col, Value.ref c]) = ps2 at hP'
  generalize hob : W.kla_obj (Str.ofString "<lambda>") q params body sc (clOf X.env.cells sc.names []) ((X.mg (Str.ofString "__name__")).getD Value.none) c ctv = ob
  have hold : ∀ b o, b ≠ P -> s.heap.get? b = some o -> (h'.push ob).get? b = some o := fun b o hb e => Heap.get?_push_of_some _ (hx b o hb e)
  have hP2 : (h'.push ob).get? P = some (W.tabObj ps2) := Heap.get?_push_of_some _ hP'
  have hf : (h'.push ob).get? h'.objs.size = some ob := Heap.get?_push_size _ (by rw [<- hob]; rfl)
  have Hc : H c = none := I.hok.fresh hle
  have Hf : H h'.objs.size = none := I.hok.fresh (Nat.le_trans hle (Nat.le_of_lt hlt))
  have cf : c ≠ h'.objs.size := Nat.ne_of_lt hlt
  have cP : c ≠ P := fun z => absurd hPl (by rw [<- z]; exact Nat.not_lt.mpr hle)
  have fP : h'.objs.size ≠ P := fun z => absurd hPl (by rw [<- z]; exact Nat.not_lt.mpr (Nat.le_trans hle (Nat.le_of_lt hlt)))
  have ne3 : ∀ b, b ≠ P -> b ≠ c -> b ≠ h'.objs.size -> upd (upd (upd H P (.tbl ps2)) c (.ext (CodeAt c q))) h'.objs.size (.ext (ObjAt h'.objs.size ob)) b = H b := fun b h1 h2 h3 => by rw [upd_ne h3, upd_ne h2, upd_ne h1]
  have nP : ∀ b, H b = none -> b ≠ P := fun b n z => by rw [z, hP] at n; cases n
  refine ⟨.ref h'.objs.size, _, I.un (H' := upd (upd (upd H P (.tbl ps2)) c (.ext (CodeAt c q))) h'.objs.size (.ext (ObjAt h'.objs.size ob))) (t' := tk) ⟨fun b o e n _ _ => hold b o (nP b n) e, fun b o e n _ _ => ⟨o.slots, hold b o (nP b n) e⟩, fun b o e n _ => ?_, fun b o e _ => ?_, fun b xs e => ?_, fun b o u e => ?_, fun b qs e => ?_⟩ ?_, rfl, ?_⟩
  ·have hb := Heap.lt_size e
   rw [ne3 b (nP b n) (fun z => absurd hb (by rw [z]; exact Nat.not_lt.mpr hle)) fun z => absurd hb (by rw [z]; exact Nat.not_lt.mpr (Nat.le_trans hle (Nat.le_of_lt hlt)))]
   exact n
  ·by_cases hb : b = P
   ·subst hb; exact ⟨_, hP2⟩
   ·exact ⟨o, hold b o hb e⟩
  ·rw [ne3 b (fun z => by rw [z, hP] at e; cases e) (fun z => by rw [z, Hc] at e; cases e) fun z => by rw [z, Hf] at e; cases e]; exact e
  ·rw [ne3 b (fun z => by rw [z, hP] at e; cases e) (fun z => by rw [z, Hc] at e; cases e) fun z => by rw [z, Hf] at e; cases e]; exact e
  ·by_cases hb : b = P
   ·subst hb
    rw [hP] at e; cases e
    exact ⟨#[rawInt pos.line, rawInt pos.col, Value.ref c], by rw [upd_ne (Ne.symm fP), upd_ne (Ne.symm cP), upd_same, hps]⟩
   ·exact ⟨#[], by rw [ne3 b hb (fun z => by rw [z, Hc] at e; cases e) (fun z => by rw [z, Hf] at e; cases e), e]; simp⟩
  ·intro a o e
   by_cases h1 : a = h'.objs.size
   ·subst h1; rw [upd_same] at e; cases e
    exact objAt_ok hf
   ·rw [upd_ne h1] at e
    by_cases h2 : a = c
    ·subst h2; rw [upd_same] at e; cases e
     obtain ⟨c', o', vs, t, z1, z2, z3, z4⟩ := hrec
     cases z1
     exact codeAt_ok ⟨_, o', vs, t, rfl, Heap.get?_push_of_some _ z2, z3, z4⟩
    ·rw [upd_ne h2] at e
     by_cases h3 : a = P
     ·subst h3; rw [upd_same] at e; cases e
      exact hP2
     ·rw [upd_ne h3] at e
      refine (I.hok a o e).stay (fun b u hb k => hold b u ?_ k) (fun b k => ?_) fun b xs k => ?_
      ·rcases hb with rfl | hb
       ·exact h3
       ·exact fun z => by rw [z, hP] at hb; cases hb
      ·rw [ne3 b (fun z => by rw [z, hP] at k; cases k) (fun z => by rw [z, Hc] at k; cases k) fun z => by rw [z, Hf] at k; cases k]; exact k
      ·rw [ne3 b (fun z => by rw [z, hP] at k; cases k) (fun z => by rw [z, Hc] at k; cases k) fun z => by rw [z, Hf] at k; cases k]; exact k
  ·rw [<- hob]
   refine h c _ _ ctv ps2 cf Hc Hf ?_ ?_
   ·rw [<- hps, Array.toList_append]; exact TriplesOk_snoc _ _ _ _ tr
   ·rw [<- hps, Array.toList_append]; exact codeAmong_snoc _ tr hn
 ·refine W.kla_makeFunctionHit cl I.ok.glob hns e0 hc0 hPh tr hc bt fun ctv h' tk hk hle => ?_
  have Hf : H h'.objs.size = none := I.hok.fresh hle
  generalize hob : ({ cls := .type "function", data := .func (W.kla_fn (Str.ofString "<lambda>") q params body sc (clOf X.env.cells sc.names []) ((X.mg (Str.ofString "__name__")).getD Value.none) (.ref c) ctv) } : Obj) = ob
  have hf : (h'.push ob).get? h'.objs.size = some ob := Heap.get?_push_size _ (by rw [<- hob]; rfl)
  have hk2 : ∀ b o, s.heap.get? b = some o -> (h'.push ob).get? b = some o := fun b o e => Heap.get?_push_of_some _ (hk b o e)
  refine ⟨.ref h'.objs.size, _, I.un (t' := tk) (Un.laid hk2 hle Hf) (I.hok.laid hk2 hle (objAt_ok hf)), rfl, ?_⟩
  rw [<- hob]
  exact h _ _ ctv Hf
end
end
section
def lamEnv (X : Cx) (sc : Scope) (q : Str) (L f c : Addr) : Env := newEnv sc L mainGlobals (clOf X.env.cells sc.names []) (q ++ Str.ofString ".<locals>.") (some f) (.ref c) none builtinsNs
def lamCx (X : Cx) (N : List Str) (sc : Scope) (q : Str) (f c : Addr) (A : Around) (s : Shared) (H : Hp) : Cx where
 prog := X.prog
 w := X.w
 K := X.K
 mg := X.mg
 base := X.base
 A := A.deeper (lamEnv X sc q s.heap.objs.size f c)
 N := N
 s₀ := s
 H₀ := H
 env := lamEnv X sc q s.heap.objs.size f c
 outer := X.stack
 stack := lamEnv X sc q s.heap.objs.size f c :: X.stack
 ex := []
 fn := fun _ => false
 calm := true
 pn := []
 xe := fun _ _ => False
section
variable {X : Cx} {pins : List (Addr × Obj)} {σ : St} {H : Hp} {s : Shared}
theorem lam_start {sc : Scope} {N : List Str} {src : List (Option Nat)} {q x : Str} {f c : Addr} {A : Around} {h' : Heap} {t : Nat} {v : V} {u : Value} (B : Blk X sc N src) (I : Inv X pins σ H s) (hA : A.handled = none) (hfr : A.frames = some X.stack)
  (h0 : N[0]? = some x) (hs0 : src[0]? = some none) (hl : sc.names.lookup x = some .local) (rv : RelV v u) (hn : h'.Ns s.heap.objs.size fun y => List.lookup y [(x, u)])
  (hk : ∀ b o, s.heap.get? b = some o -> h'.get? b = some o) : Inv (lamCx X N sc q f c A s H) [] ((blk0 src σ).set 0 (some v)) H { s with heap := h', toks := t } := by
 have e0 := I.env0
 have noA : ∀ b : Addr, b ∉ (lamCx X N sc q f c A s H).ex := fun b z => absurd (show b ∈ ([] : List Addr) from z) (by simp)
 refine ⟨⟨e0.mod, B.kind, rfl, rfl, Nat.le_refl _, fun x y c h1 h2 => I.ok.inj x y c (cl_sub h1) (cl_sub h2), fun x hx => ?_, fun y c h _ => (by cases h), fun _ => hA, Around.frames_deeper hfr, .inr ⟨rfl, rfl⟩, fun b z => absurd z (noA b), e0.bs, e0.bsz, fun b _ _ => noA b, fun b z => absurd z (noA b), e0.funs, e0.frf⟩,
  rfl, I.bare, Un.kept hk, ⟨_, hn, fun i y v' e1 e2 e3 => ?_⟩, fun y c e => ?_, I.hok.fresh (Nat.le_refl _), fun y c e => I.freeC y c (cl_sub e), fun p hp => absurd (show p ∈ ([] : List (Addr × Obj)) from hp) (by simp), I.hok.kept hk, ?_⟩
 ·have hx' : ∃ k, sc.names.lookup x = some k /\ (k = .cell \/ k = .free) := by
   rcases hx with hx | hx
   ·exact ⟨_, hx, .inl rfl⟩
   ·exact ⟨_, hx, .inr rfl⟩
  obtain ⟨k, e, hk'⟩ := hx'
  have hm := PySem.mem_of_lookup e
  rcases hk' with rfl | rfl
  ·exact absurd rfl (B.nocell _ hm)
  ·obtain ⟨c', hc'⟩ := I.ok.has x (B.free _ hm rfl)
   exact Option.isSome_iff_exists.mp (clOf_has hc' sc.names [] hm)
 ·cases i with
  | zero =>
   have e1 : N[0]? = some y := e1
   rw [h0] at e1; cases e1
   have hl0 : 0 < (blk0 src σ).length := by
    rcases Nat.eq_zero_or_pos (blk0 src σ).length with z | z
    ·rw [getElem?_eq_none (by simp [z])] at e2; cases e2
    ·exact z
   rw [getElem?_set_self hl0] at e2; cases e2
   exact ⟨u, rv, .inl ⟨hl, by show List.lookup x [(x, u)] = some u; simp [lookup_cons]⟩⟩
  | succ i =>
   rw [getElem?_set_ne (by omega)] at e2
   have e2' : ∃ k, src[i + 1]? = some (some k) /\ σ[k]? = some (some v') := by
    unfold blk0 at e2
    rw [getElem?_map] at e2
    cases q : src[i + 1]? with
    | none => rw [q] at e2; cases e2
    | some o =>
     rw [q] at e2
     cases o with
     | none => cases e2
     | some k =>
      refine ⟨k, rfl, ?_⟩
      have e2 : (σ[k]?).join = some v' := Option.some.inj e2
      cases qq : σ[k]? with
      | none => rw [qq] at e2; cases e2
      | some z => rw [qq] at e2; exact congrArg some e2
   obtain ⟨k, ek, ev⟩ := e2'
   obtain ⟨x', n1, n2, n3⟩ := B.fv (i + 1) k ek
   have : x' = y := by
    have e1 : N[i + 1]? = some y := e1
    rw [n1] at e1; exact Option.some.inj e1
   subst this
   obtain ⟨m0, hn0, hl0⟩ := I.loc
   have hfk := B.free (x', .free) (PySem.mem_of_lookup n3) rfl
   obtain ⟨u', r, l⟩ := hl0 k x' v' n2 ev (by rcases hfk with z | z; exact .inr (.inl z); exact .inr (.inr z))
   refine ⟨u', r, .inr ⟨.inr n3, ?_⟩⟩
   rcases l with ⟨l, _⟩ | ⟨_, c', ec, z⟩
   ·rcases hfk with q | q <;> (rw [q] at l; cases l)
   ·obtain ⟨c2, ec'⟩ := Option.isSome_iff_exists.mp (clOf_has ec sc.names [] (PySem.mem_of_lookup n3))
    have := cl_sub ec'
    rw [ec] at this; cases this
    obtain ⟨o, ho, hd⟩ := z
    exact ⟨c', ec', o, hk c' o ho, hd⟩
 ·obtain ⟨v', o, ho, hd⟩ := I.cell y c (cl_sub e)
  exact ⟨v', o, hk c o ho, hd⟩
 ·show ((blk0 src σ).set 0 (some v)).length = N.length
  unfold blk0; rw [length_set, length_map]; exact B.len
def KeyR (X : Cx) (σ : St) (Pr : Hp -> Hp -> Prop) (kv : Value) (mk : D -> Option D) : Prop := ∀ (pins : List (Addr × Obj)) (H F : Hp) (s : Shared) (x : V) (u : Value) (d kd : D), Inv X pins σ H s -> Pr F H -> Same F H -> Rep X.K F x d -> RelV x u -> mk d = some kd ->
 wpAny (model X.prog X.w) X.A.in1 (call kv [u]) (fun w s' => ∃ y F' H', Inv X pins σ H' s' /\ RelV y w /\ Ext F H F' H' /\ Rep X.K F' y kd) (fun _ _ => False) s
def LamP (X : Cx) (σ : St) (ρ : Ro) (q : Str) (c f : Addr) (o : Obj) (F H : Hp) : Prop := (∃ F0 H0, Rl X.K F0 H0 F H σ ρ) /\ F c = some (.ext (CodeAt c q)) /\ F f = some (.ext (ObjAt f o))
theorem LamP.go {ρ : Ro} {q : Str} {c f : Addr} {o : Obj} {F H F' H' : Hp} (h : LamP X σ ρ q c f o F H) (x : Ext F H F' H') : LamP X σ ρ q c f o F' H' :=
 let ⟨⟨F0, H0, rl⟩, h1, h2⟩ := h; ⟨⟨F0, H0, rl.go x⟩, x.ff _ _ h1, x.ff _ _ h2⟩
theorem keyR_lam {sc : Scope} {N : List Str} {src : List (Option Nat)} {q x : Str} {f c : Addr} {params : Arguments} {body : Expr} {pm ctv : Value} {ρ : Ro} {mb : ME} (B : Blk X sc N src) (h0 : N[0]? = some x) (hs0 : src[0]? = some none) (hl : sc.names.lookup x = some .local)
  (hb : ∀ cl pm cdv ctv u, bindArgs (W.kla_fn (Str.ofString "<lambda>") q params body sc cl pm cdv ctv) ⟨[u], []⟩ = pure [(x, u)]) (hbody : ∀ f c s H, PD (lamCx X N sc q f c X.A.in1 s H) body mb) (hco : sc.isCoroutine = false) (hgen : sc.isGenerator = false) (hr : X.A.in1.depth < recursionLimit) (hd : X.A.in1.handled = none) :
  KeyR X σ (LamP X σ ρ q c f (lamO X q params body sc pm c ctv)) (.ref f) (fun d => mb ((blkRo src ρ).set 0 (some (.sh d)))) := by
 intro pins H F s x0 u d kd I pr sf r rx hm
 obtain ⟨⟨F0, H0, rl⟩, hc, hf⟩ := pr
 have gf : s.heap.get? f = some (lamO X q params body sc pm c ctv) := (I.hok f _ (sf _ _ hf)).1
 have gc : s.heap.CodeRec (.ref c) q := (I.hok c _ (sf _ _ hc)).1
 refine wpAny_call (W.kla_callFunE hr gf rfl hco hgen rfl gc ?_)
 rw [hb]
 refine wpAny_pure ?_
 refine wpAny_newFunctionEnv B.nocell (by intro y hy; rw [List.mem_singleton.mp hy]; exact hl) (fun h' hns hsb => ?_) B.kind
 have hk : ∀ b o, s.heap.get? b = some o -> h'.get? b = some o := fun b o e => hsb.extBut b o (Nat.ne_of_lt (Heap.lt_size e)) (Heap.get?_push_of_some _ e)
 refine ⟨I.nolimit.keeps hk, W.kla_codeExpr ?_⟩
 have I1 := lam_start (q := q) (f := f) (c := c) (A := X.A.in1) (t := s.toks + [(x, u)].length) B I hd I.env0.in1.frames h0 hs0 hl rx hns hk
 have rl1 := (rl.blk src).1.set (i := 0) r
 refine wpAny_mono (hbody f c s H [] _ _ H (fun v H' => ∃ F', Ext F H F' H' /\ Rep X.K F' v kd) I1 ⟨F, H, F, _, kd, rl1, hm, fun v F' H' x r => ⟨F', x, r⟩⟩) (fun w s' hw => ?_) fun _ _ z => z.elim
 obtain ⟨v, H', J, rv, q'⟩ := hw
 have hq : CE X.stack X.prog X.w H s (fun v H' => ∃ F', Ext F H F' H' /\ Rep X.K F' v kd) w s' := ⟨v, H', J.os, J.bare, J.base, J.hok, rv, q'⟩
 obtain ⟨y, H2, I2, ry, F2, x2, r2⟩ := I.after hq
 exact ⟨y, F2, H2, I2, ry, x2, r2⟩
end
end
section
section
variable {X : Cx} {pins : List (Addr × Obj)} {σ : St}
set_option maxHeartbeats 8000000 in
theorem min_loopR {q : Addr} {mk : D -> Option D} {Pr : Hp -> Hp -> Prop} (hk : KeyR X σ Pr (.ref q) mk) (hP : ∀ F H F' H', Pr F H -> Ext F H F' H' -> Pr F' H') (hc : X.calm = true) (hu : X.A.units + 64 < cLine) {l I S : Addr} {xs : List V} {ds : List D} {kw : List (Str × Value)} {dm : D} (hIS : I ≠ S) (hlI : l ≠ I) (hlS : l ≠ S) :
  ∀ (r j : Nat) (H F H0 F0 : Hp) (s : Shared) (xb yb : V) (vb kb : Value) (db kdb : D) (c : Nat) (R : Result -> Shared -> Prop),
   ds.length - (j + 1) = r -> j + 1 <= ds.length -> Inv X pins σ H s -> Pr F H -> Ext F0 H0 F H -> SqT X.K H l xs -> Reps X.K F xs ds -> s.heap.IsTupleIter I l (j + 1) -> s.heap.get? S = some (seqObj "list" #[vb, kb] c) -> FpOk X pins H I -> FpOk X pins H S ->
   RelV xb vb -> Rep X.K F xb db -> RelV yb kb -> Rep X.K F yb kdb -> minF mk (ds.drop (j + 1)) db kdb = some dm ->
   (∀ x v F' H' s', Inv X pins σ H' s' -> RelV x v -> Ext F0 H0 F' H' -> Rep X.K F' x dm -> R (.ok (.ret v)) s') ->
   codeAny (model X.prog X.w) X.A (.builtin "min.loop" ⟨[.ref I, .ref q, .ref S], kw⟩) R s := by
 have hname : (toString "min" ++ toString ".loop" : String) = "min.loop" := by decide
 intro r
 induction r with
 | zero =>
  intro j H F H0 F0 s xb yb vb kb db kdb c R hr hj I' pr ext sq rs hit hS fI fS rb pb ry py hm hR
  have hin : j + 1 = ds.length := by omega
  obtain ⟨its, vr, pl, _⟩ := I'.tuple sq
  have zl : its.length = ds.length := by rw [<- vr.length, rs.length]
  rw [hin, drop_length] at hm
  have hm : some db = some dm := hm
  cases hm
  refine codeAny_builtin PySem.F.entry_min_loop ?_
  rw [Around.under_plainId PySem.F.plain_min_loop _]
  show wpAny _ X.A.in1 (seqItems? (.ref S) >>= _) _ _ _
  refine wpAny_bind (wpAny_seqItems hS rfl ?_)
  show wpAny _ X.A.in1 (tryCatch (pyNext (.ref I)) _ >>= _) _ _ _
  refine wpAny_bind (wpAny_tryCatch (wpAny_pyNext_tuple_end (I'.ok.hd hc) hit pl (by simp; omega) fun h' hk' => ?_))
  have hS' : h'.get? S = some (seqObj "list" #[vb, kb] c) := hk' S _ (Ne.symm hIS) hS
  have s1 := Heap.SameBut.update h' S (Obj.mapSeq fun _ => (#[] : Array Value))
  show wpAny _ X.A.in1 (updateSeq S (fun _ => #[]) >>= _) _ _ _
  refine wpAny_bind ?_
  refine wpAny_updateSeq hS' rfl (wpAny_bind (wpAny_letGo (wpAny_pure ?_)))
  have I9 : Inv X pins σ H { s with heap := h'.update S (Obj.mapSeq fun _ => (#[] : Array Value)), toks := s.toks } := I'.turnedL (fp := [I, S]) (t' := s.toks) (fun b o hb e => by
   simp only [mem_cons, not_mem_nil, or_false, not_or] at hb
   exact (s1.2 b hb.2).trans (hk' b o hb.1 e)) (fun b hb => by
   simp only [mem_cons, not_mem_nil, or_false] at hb
   rcases hb with rfl | rfl <;> assumption)
  exact hR xb vb F H _ I9 rb ext pb
 | succ r ih =>
  intro j H F H0 F0 s xb yb vb kb db kdb c R hr hj I' pr ext sq rs hit hS fI fS rb pb ry py hm hR
  have hlt : j + 1 < ds.length := by omega
  obtain ⟨its, vr, pl, _⟩ := I'.tuple sq
  have zl : its.length = ds.length := by rw [<- vr.length, rs.length]
  obtain ⟨d, hd⟩ : ∃ d, ds[j + 1]? = some d := ⟨_, getElem?_eq_getElem hlt⟩
  obtain ⟨x, hx, px⟩ := rs.get hd
  obtain ⟨v, hv, rx⟩ := vr.get hx
  rw [drop_get hd] at hm
  unfold minF at hm
  cases hkd : mk d with
  | none => rw [hkd] at hm; cases hm
  | some kd =>
   rw [hkd] at hm
   dsimp only at hm
   refine codeAny_builtin PySem.F.entry_min_loop ?_
   rw [Around.under_plainId PySem.F.plain_min_loop _]
   show wpAny _ X.A.in1 (seqItems? (.ref S) >>= _) _ _ _
   refine wpAny_bind (wpAny_seqItems hS rfl ?_)
   show wpAny _ X.A.in1 (tryCatch (pyNext (.ref I)) _ >>= _) _ _ _
   refine wpAny_bind (wpAny_tryCatch (wpAny_pyNext_tuple_item hit pl (by simpa using hv) fun h1 hit1 s1 => ?_))
   have I1 : Inv X pins σ H { s with heap := h1, toks := s.toks } := I'.turnedL (fp := [I]) (fun b o hb e => s1.extBut b o (by simpa using hb) e) (fun b hb => by rw [List.mem_singleton.mp hb]; exact fI)
   have hS1 : h1.get? S = some (seqObj "list" #[vb, kb] c) := s1.extBut _ _ (Ne.symm hIS) hS
   obtain ⟨oI, eI, cI, dI⟩ := id hit1
   have Ip := I1.pin2 fI fS eI hS1 (fun v z => by rw [dI] at z; cases z) (fun v z => by cases z)
   show wpAny _ X.A.in1 (tryCatch (holding [v] (call (.ref q) [v])) _ >>= _) _ _ _
   refine wpAny_bind (wpAny_tryCatch (wpAny_holding (wpAny_mono (hk (pins ++ [(I, oI), (S, seqObj "list" #[vb, kb] c)]) H F _ x v d kd Ip pr ext.fh px rx hkd) (fun w s2 hw => ?_) fun _ _ z => z.elim)))
   obtain ⟨y, F2, H2, I2, rw2, x2, py2⟩ := hw
   have pI := I2.pin (I, oI) (by simp)
   have pS := I2.pin (S, seqObj "list" #[vb, kb] c) (by simp)
   have I2' : Inv X pins σ H2 s2 := I2.unpinned
   have fI2 : FpOk X pins H2 I := fI.now pI.2.1
   have fS2 : FpOk X pins H2 S := fS.now pS.2.1
   have hit2 : s2.heap.IsTupleIter I l (j + 1 + 1) := ⟨oI, pI.1, cI, dI⟩
   cases hlt8 : ltF 8 kd kdb with
   | none => rw [hlt8] at hm; cases hm
   | some bt =>
    rw [hlt8] at hm
    have hcmp := lt_at I2' 8 (A := X.A.in1) (by show X.A.units + 1 + 8 < cLine; omega) (py2.mono x2.fh) ((py.mono x2.ff).mono x2.fh) rw2 ry hlt8
    show wpAny _ X.A.in1 (tryCatch (holding [v, w] (richCompare .Lt w kb >>= _)) _ >>= _) _ _ _
    refine wpAny_bind (wpAny_tryCatch (wpAny_holding (wpAny_bind (hcmp X.prog X.w _ _ ?_))))
    refine wpAny_bind (wpAny_holding (wpAny_truthy_bool ?_))
    refine wpAny_bind (wpAny_letGo (wpAny_pure ?_))
    cases bt with
    | true =>
     have s3 := Heap.SameBut.update s2.heap S (Obj.mapSeq fun _ => #[v, w])
     obtain ⟨c2, hc2⟩ : ∃ c2, (s2.heap.update S (Obj.mapSeq fun _ => #[v, w])).get? S = some (seqObj "list" #[v, w] c2) := ⟨_, get?_update_seq pS.1 fun _ => #[v, w]⟩
     simp only [if_true]
     refine wpAny_bind ?_
     refine wpAny_updateSeq pS.1 rfl (wpAny_bind (wpAny_letGo ?_))
     rw [hname]
     have I3 : Inv X pins σ H2 { s2 with heap := s2.heap.update S (Obj.mapSeq fun _ => #[v, w]), toks := s2.toks } := I2'.turnedL (fp := [S]) (fun b o hb e => (s3.2 b (by simpa using hb)).trans e) (fun b hb => by rw [List.mem_singleton.mp hb]; exact fS2)
     refine wpAny_pure ⟨plainId_quiet PySem.F.plain_min_loop _, ih (j + 1) H2 F2 H0 F0 _ x y v w d kd c2 R (by omega) hlt I3 (hP _ _ _ _ pr x2) (ext.trans x2) (x2.hh.seqT sq) (rs.mono x2.ff) ⟨oI, (s3.2 I hIS).trans pI.1, cI, dI⟩ hc2 fI2 fS2 rx (px.mono x2.ff) rw2 py2 hm hR⟩
    | false =>
     simp only [Bool.false_eq_true, if_false]
     refine wpAny_bind (wpAny_letGo ?_)
     rw [hname]
     refine wpAny_pure ⟨plainId_quiet PySem.F.plain_min_loop _, ih (j + 1) H2 F2 H0 F0 _ xb yb vb kb db kdb c R (by omega) hlt I2' (hP _ _ _ _ pr x2) (ext.trans x2) (x2.hh.seqT sq) (rs.mono x2.ff) hit2 pS.1 fI2 fS2 rb (pb.mono x2.ff) ry (py.mono x2.ff) hm hR⟩
set_option maxHeartbeats 8000000 in
theorem min_topR {q : Addr} {mk : D -> Option D} {Pr : Hp -> Hp -> Prop} (hk : KeyR X σ Pr (.ref q) mk) (hP : ∀ F H F' H', Pr F H -> Ext F H F' H' -> Pr F' H') (hc : X.calm = true) (hu : X.A.units + 64 < cLine) {l : Addr} {xs : List V} {ds : List D} {dm : D} {H F : Hp} {s : Shared} {E : Value -> Shared -> Prop} {Q : Value -> Shared -> Prop}
  (I : Inv X pins σ H s) (pr : Pr F H) (sf : Same F H) (sq : SqT X.K H l xs) (rs : Reps X.K F xs ds) (hm : minN mk ds = some dm)
  (hQ : ∀ x v F' H' s', Inv X pins σ H' s' -> RelV x v -> Ext F H F' H' -> Rep X.K F' x dm -> Q v s') :
  wpAny (model X.prog X.w) X.A (call (.builtin "min") [.ref l] [(Str.ofString "key", .ref q)]) Q E s := by
 have hname : (toString "min" ++ toString ".loop" : String) = "min.loop" := by decide
 obtain ⟨its, vr, pl, _⟩ := I.tuple sq
 have hls := pl
 obtain ⟨ol, hol, _⟩ := id hls
 have hll : l < s.heap.objs.size := Heap.lt_size hol
 refine kmk_tree PySem.F.kind_min PySem.F.plain_min PySem.F.entry_min (kmk_min_key _ _) ?_
 show wpAny _ X.A.in1 (Builtin.Builtins.bindParams "min" ["key", "default"] 0 ⟨[], [(Str.ofString "key", .ref q)]⟩ >>= _) _ _ s
 refine wpAny_bind (wpAny_of_eq (show Builtin.Builtins.bindParams "min" ["key", "default"] 0 ⟨[], [(Str.ofString "key", .ref q)]⟩ = pure [some (.ref q), none] from rfl) ?_)
 refine wpAny_bind (wpAny_pure ?_)
 refine wpAny_bind (wpAny_pyIter_tuple hls ?_)
 refine wpAny_bind (wpAny_newList ?_ (Nat.zero_le _))
 rw [hname]
 refine wpAny_pure ⟨plainId_quiet PySem.F.plain_min_loop _, ?_⟩
 generalize hIo : ({ cls := .type "tuple_iterator", data := .fields #[.ref l, .int 0 0] } : Obj) = oI0
 have hS : (s.heap.push oI0).objs.size = s.heap.objs.size + 1 := size_push' ..
 have hlI : l ≠ s.heap.objs.size := Nat.ne_of_lt hll
 have hlS : l ≠ (s.heap.push oI0).objs.size := by rw [hS]; exact Nat.ne_of_lt (Nat.lt_succ_of_lt hll)
 have hIS : s.heap.objs.size ≠ (s.heap.push oI0).objs.size := by rw [hS]; exact Nat.ne_of_lt (Nat.lt_succ_self _)
 have gI : ((s.heap.push oI0).push (seqObj "list" #[] 0)).get? s.heap.objs.size = some oI0 := Heap.get?_push_of_some _ (Heap.get?_push_size _ (by rw [<- hIo]; rfl))
 have gS : ((s.heap.push oI0).push (seqObj "list" #[] 0)).get? (s.heap.push oI0).objs.size = some (seqObj "list" #[] 0) := Heap.get?_push_size _ rfl
 have fI : FpOk X pins H s.heap.objs.size := I.fpOk (Nat.le_refl _) (I.hok.fresh (Nat.le_refl _))
 have fS : FpOk X pins H (s.heap.push oI0).objs.size := I.fpOk (by rw [hS]; exact Nat.le_succ _) (I.hok.fresh (by rw [hS]; exact Nat.le_succ _))
 have I0 : Inv X pins σ H { s with heap := (s.heap.push oI0).push (seqObj "list" #[] 0), toks := s.toks } := I.turnedL (fp := []) (fun b o _ e => Heap.get?_push_of_some _ (Heap.get?_push_of_some _ e)) (fun b hb => by cases hb)
 generalize (s.heap.push oI0).objs.size = S at *
 generalize hI : s.heap.objs.size = J at *
 generalize (s.heap.push oI0).push (seqObj "list" #[] 0) = h0 at *
 have hit : h0.IsTupleIter J l 0 := ⟨_, gI, by rw [<- hIo], by rw [<- hIo]; rfl⟩
 have zl : its.length = ds.length := by rw [<- vr.length, rs.length]
 obtain ⟨its', vr', pl', _⟩ := I0.tuple sq
 have zl' : its'.length = ds.length := by rw [<- vr'.length, rs.length]
 refine codeAny_builtin PySem.F.entry_min_loop ?_
 rw [Around.under_plainId PySem.F.plain_min_loop _]
 show wpAny _ X.A.in1 (seqItems? (.ref S) >>= _) _ _ _
 refine wpAny_bind (wpAny_seqItems gS rfl ?_)
 show wpAny _ X.A.in1 (tryCatch (pyNext (.ref J)) _ >>= _) _ _ _
 cases ds with
 | nil => cases hm
 | cons d ds =>
  obtain ⟨x, hx, px⟩ := rs.get (i := 0) (d := d) rfl
  obtain ⟨v, hv, rx⟩ := vr'.get hx
  unfold minN at hm
  dsimp only at hm
  cases hkd : mk d with
  | none => rw [hkd] at hm; cases hm
  | some kd =>
   rw [hkd] at hm
   dsimp only at hm
   refine wpAny_bind (wpAny_tryCatch (wpAny_pyNext_tuple_item hit pl' (by simpa using hv) fun h1 hit1 s1 => ?_))
   have I1 := I0.turnedL (h' := h1) (t' := s.toks) (fp := [J]) (fun b o hb e => s1.extBut b o (by simpa using hb) e) (fun b hb => by rw [List.mem_singleton.mp hb]; exact fI)
   have hS1 : h1.get? S = some (seqObj "list" #[] 0) := s1.extBut _ _ (Ne.symm hIS) gS
   obtain ⟨oI, eI, cI, dI⟩ := id hit1
   have Ip := I1.pin2 fI fS eI hS1 (fun v z => by rw [dI] at z; cases z) (fun v z => by cases z)
   show wpAny _ X.A.in1 (tryCatch (holding [v] (call (.ref q) [v])) _ >>= _) _ _ _
   refine wpAny_bind (wpAny_tryCatch (wpAny_holding (wpAny_mono (hk (pins ++ [(J, oI), (S, seqObj "list" #[] 0)]) H F _ x v d kd Ip pr sf px rx hkd) (fun w s2 hw => ?_) fun _ _ z => z.elim)))
   obtain ⟨y, F2, H2, I2, rw2, x2, py2⟩ := hw
   have pI := I2.pin (J, oI) (by simp)
   have pS := I2.pin (S, seqObj "list" #[] 0) (by simp)
   have I2' : Inv X pins σ H2 s2 := I2.unpinned
   have fI2 : FpOk X pins H2 J := fI.now pI.2.1
   have fS2 : FpOk X pins H2 S := fS.now pS.2.1
   have s3 := Heap.SameBut.update s2.heap S (Obj.mapSeq fun _ => #[v, w])
   obtain ⟨c2, hc2⟩ : ∃ c2, (s2.heap.update S (Obj.mapSeq fun _ => #[v, w])).get? S = some (seqObj "list" #[v, w] c2) := ⟨_, get?_update_seq pS.1 fun _ => #[v, w]⟩
   show wpAny _ X.A.in1 (updateSeq S (fun _ => #[v, w]) >>= _) _ _ _
   refine wpAny_bind (wpAny_updateSeq pS.1 rfl ?_)
   rw [hname]
   have I3 : Inv X pins σ H2 { s2 with heap := s2.heap.update S (Obj.mapSeq fun _ => #[v, w]), toks := s2.toks } := I2'.turnedL (fp := [S]) (fun b o hb e => (s3.2 b (by simpa using hb)).trans e) (fun b hb => by rw [List.mem_singleton.mp hb]; exact fS2)
   refine wpAny_pure ⟨plainId_quiet PySem.F.plain_min_loop _, min_loopR hk hP hc hu (ds := d :: ds) (dm := dm) hIS hlI hlS _ 0 H2 F2 H F _ x y v w d kd c2 _ rfl (by simp) I3 (hP _ _ _ _ pr x2) x2 (x2.hh.seqT sq) (rs.mono x2.ff) ⟨oI, (s3.2 J hIS).trans pI.1, cI, dI⟩ hc2 fI2 fS2 rx (px.mono x2.ff) rw2 py2 hm fun x v F' H' s' a b c d => hQ x v F' H' s' a b c d⟩
end
end
section
theorem updB_same {p : Addr} {c : Cell} : ∀ {β : Bx}, β.lookup p = some c -> updB p c β = β
 | [], e => rfl
 | (q, c') :: β, e => by
  rw [lookup_cons] at e
  unfold updB
  cases z : p == q with
  | true =>
   rw [z] at e; cases e
   rw [if_pos (beq_iff_eq.mp z).symm]
  | false =>
   rw [z] at e
   have hne : ¬ q = p := fun y => by rw [y, beq_self_eq_true] at z; cases z
   rw [if_neg hne, updB_same e]
open Classical in
@[irreducible] noncomputable def mlamX (mw : Str) (pos : Pos) (q : Str) (ds : List D) (src : List (Option Nat)) (mb : ME) : Ro -> Bx -> Option (D × Bx) := fun ρ β =>
 if ∃ P, β.lookup P = some (.tb P mw pos q) then (minN (fun d => mb ((blkRo src ρ).set 0 (some (.sh d)))) ds).map fun d => (d, β) else none
section
variable {X : Cx}
theorem pdx_lam {x tn mw q : Str} {T : Addr} {xs : List Str} {N : List Str} {src : List (Option Nat)} {params : Arguments} {body : Expr} {sc : Scope} {mb : ME} {pm pt lpos kp cpos : Pos}
  (ht : KTup X.K T xs) (hgt : Gl X tn) (hmt : X.mg tn = some (.ref T)) (hg : Gl X "min") (hm : X.mg "min" = none) (hct : ∀ P, TabF X.K mw P -> Mod X.K X.mg X.base -> CodeT X.K X.env.code P /\ X.base.BuiltinsAt X.mg P)
  (B : Blk X sc N src) (h0 : N[0]? = some x) (hs0 : src[0]? = some none) (hl : sc.names.lookup x = some .local) (hb : ∀ cl pm cdv ctv u, bindArgs (W.kla_fn (Str.ofString "<lambda>") q params body sc cl pm cdv ctv) ⟨[u], []⟩ = pure [(x, u)])
  (hbody : ∀ f c s H, PD (lamCx X N sc q f c X.A.in1 s H) body mb) (hco : sc.isCoroutine = false) (hgen : sc.isGenerator = false) (hr : X.A.in1.depth < recursionLimit) (hh : X.A.in1.handled = none) (hc : X.calm = true) (hu : X.A.units + 64 < cLine)
  (hd : defaultsOf params X.env = ([], []) := by rfl) (hq : X.env.qual ++ Str.ofString "<lambda>" = q := by rfl) (hdb : (tn == ("__debug__" : Str)) = false := by decide) (hs : starEach (.Name tn pt :: []) X.env = (false, eval (.Name tn pt) X.env) :: starEach [] X.env := by rfl) :
  PDx X (.Call (.Name "min" pm) [.Name tn pt] [⟨some "key", .Lambda params body sc lpos, kp⟩] cpos) (mlamX mw lpos q (xs.map .str) src mb) := by
 intro pins s σ H Q I ⟨F0, H0, F, ρ, β, d, β', ⟨Bh, fp, rl, ok⟩, e, k⟩
 unfold mlamX at e
 split at e
 ·rename_i hP
  obtain ⟨P, hP⟩ := hP
  cases h1 : minN (fun d => mb ((blkRo src ρ).set 0 (some (.sh d)))) (xs.map .str) with
  | none => rw [h1] at e; cases e
  | some d1 =>
   rw [h1] at e
   have e : some (d1, β) = some (d, β') := e
   cases e
   obtain ⟨fq, hcell, nq, hin, up⟩ := ok.bx.upd ok.nd hP
   cases hcell with
   | @tb _ _ _ _ ps T1 b1 tr hcd =>
    obtain ⟨ct, bt⟩ := hct P T1 I.mod
    have hHP : H P = some (.tbl ps) := rl.ext.hh _ _ (jn_some b1)
    refine wpAny_Call_Name_kw (ld_blt I hg hm PyProof.Rows.boot_min ?_ (by decide) (by decide))
    have A := pa_cons (pe_glob (v := .ref T) (pos := pt) hgt hmt rfl hdb) pa_nil hs cpos pins s σ H (fun vs H1 => vs = [.ref T] /\ H1 = H) I ⟨rfl, rfl⟩
    refine callWith_kw (thn A fun us s1 hpat => ?_) (by rw [hs]; rfl) (by rw [hs]; rfl)
    obtain ⟨vs, H1, I1, r1, ev, eH⟩ := hpat
    subst ev eH
    obtain ⟨u, rfl, ru⟩ := vals1 r1
    cases ru
    have post := pk_cons (nm := some "key") (kpos := kp) (pe_lam (pos := lpos) (body := body) ct bt B.free hd hq) pk_nil cpos pins s1 σ H1 (fun vs H2 => ∃ f c pv ctv F2 B2 fp2, vs = [.ref f] /\ Rl X.K F0 (jn H0 B2) F2 H2 σ ρ /\ BxOk X.K F0 H0 F2 B2 fp2 β /\ Same F F2 /\ F2 c = some (.ext (CodeAt c q)) /\ F2 f = some (.ext (ObjAt f (lamO X q params body sc pv c ctv)))) I1 ?_
    ·refine thn post fun us s2 ⟨vs, H2, I2, r2, f, c, pv, ctv, F2, B2, fp2, ev, rl2, ok2, sf, hFc, hFf⟩ => ?_
     subst ev
     obtain ⟨u1, rfl, ru1⟩ := vals1 r2
     cases ru1
     obtain ⟨o, its, n, k1, k2, k3, k4, k5, k6⟩ := ht
     exact min_topR (keyR_lam B h0 hs0 hl hb hbody hco hgen hr hh (pm := pv) (ctv := ctv) (ρ := ρ)) (fun _ _ _ _ p x => p.go x) hc hu I2 ⟨⟨_, _, rl2⟩, hFc, hFf⟩ rl2.fh (.inr ⟨o, its, n, k1, k2, k3, k4, k5⟩) (reps_strs xs) h1 fun x v F' H' s' I' rx x3 px => ⟨x, H', I', rx, k x F' H' ⟨B2, fp2, rl2.go x3, ok2.mono x3.ff⟩ (sf.trans x3.ff) px⟩
    ·refine ⟨ps, hHP, tr, ?_⟩
     rcases hcd with hn | ⟨c, hc1, hc2⟩
     ·refine .inl ⟨hn, fun c f pv ctv ps' cf Hc Hf tr' cm => ?_⟩
      obtain ⟨rl1, fP, h0P, f0P⟩ := rl.putB (a := P) (o := .tbl ps') ok.out (.inl (by rw [b1]; simp))
      have cP : c ≠ P := fun z => by rw [z, hHP] at Hc; cases Hc
      have fP' : f ≠ P := fun z => by rw [z, hHP] at Hf; cases Hf
      have Hc' : upd H1 P (.tbl ps') c = none := by rw [upd_ne cP]; exact Hc
      have Hf' : upd (upd H1 P (.tbl ps')) c (.ext (CodeAt c q)) f = none := by rw [upd_ne (Ne.symm cf), upd_ne fP']; exact Hf
      have x1 : Ext F (upd H1 P (.tbl ps')) (upd F c (.ext (CodeAt c q))) (upd (upd H1 P (.tbl ps')) c (.ext (CodeAt c q))) := Ext.laid rl1.fh Hc'
      have x2 := Ext.laid (o := .ext (ObjAt f (lamO X q params body sc pv c ctv))) x1.fh Hf'
      have sf : Same F (upd (upd F c (.ext (CodeAt c q))) f (.ext (ObjAt f (lamO X q params body sc pv c ctv)))) := x1.ff.trans x2.ff
      have hFc : upd (upd F c (.ext (CodeAt c q))) f (.ext (ObjAt f (lamO X q params body sc pv c ctv))) c = some (.ext (CodeAt c q)) := by rw [upd_ne cf, upd_same]
      obtain ⟨fp', bx', nd', hm'⟩ := up (.tb P mw lpos q) [P] (upd Bh P (.tbl ps')) _ sf (.tb T1 upd_same tr' (.inr ⟨c, cm, hFc⟩)) (by simp) (fun a ha hn => upd_ne fun z => hn (by rw [z]; simp)) fun a ha => .inl ha
      rw [updB_same hP] at bx'
      exact ⟨f, c, pv, ctv, _, upd Bh P (.tbl ps'), fp', rfl, (rl1.go x1).go x2, ⟨upd_out ok.out ⟨h0P, f0P⟩, bx', nd', upd_plain ok.plain fun _ _ z => by cases z⟩, sf, hFc, upd_same⟩
     ·refine .inr ⟨c, hc1, rl.fh _ _ hc2, fun f pv ctv Hf => ?_⟩
      have x2 := Ext.laid (o := .ext (ObjAt f (lamO X q params body sc pv c ctv))) rl.fh Hf
      exact ⟨f, c, pv, ctv, _, Bh, fp, rfl, rl.go x2, ok.mono x2.ff, x2.ff, x2.ff _ _ hc2, upd_same⟩
 ·cases e
end
section
variable {P : Program} {w : World} {K : W.Frag} {mg : Str -> Option Value} {base : Heap} {nm : Str} {st : Stmt} {ps : List Str} {sp : Sp} {n : Nat}
theorem Fun.okC {x qual : Str} {f : Addr} {fd : FuncData} {N : List Str} {k : Nat} (F : Fun K x qual st f fd) (S : FnScope N ps (defScope st)) (len : ∀ vs H Q E, sp vs H Q E -> vs.length = ps.length)
  (hbody : ∀ (cdv : Value) (A : Around) (outer : List Env) (s : Shared) (H : Hp) (vs : List V) (Q : VK) (E : XK), fd.code = cdv -> Room k (A.deeper (envOfC qual (defScope st) s.heap.objs.size f cdv)) -> sp vs H Q E ->
   ∃ t, PSs (cxOf CX0 P w K mg base N qual (defScope st) f cdv A outer s H E).nox (defBody st) t /\ t { nx := fun _ H' => Q .non H', rt := Q } (start N vs) H) : FnOk P w K mg base CX0 (k + 1) f fd ps sp := by
 obtain ⟨oc, od, kV, doc, pm, an, cdv, ct, osl, rfl, lk, hcd⟩ := F.ex
 refine fn_of lk hcd S len fun A outer s H vs Q E hr hsp => ?_
 obtain ⟨t, h, q⟩ := hbody cdv A outer s H vs Q E rfl hr hsp
 exact ⟨t, h.nox, q⟩
theorem Fun.okWT {x qual : Str} {f : Addr} {fd : FuncData} {N : List Str} {k : Nat} {m : MW} (Fn : Fun K x qual st f fd) (Sc : FnScope N ps (defScope st))
  (hbody : ∀ (cdv : Value) (A : Around) (outer : List Env) (s : Shared) (H : Hp) (E : XK), fd.code = cdv -> Room k (A.deeper (envOfC qual (defScope st) s.heap.objs.size f cdv)) -> PSsw (cxOf CX0 P w K mg base N qual (defScope st) f cdv A outer s H E).nox (defBody st) m) :
  FnOk P w K mg base CX0 (k + 1) f fd ps (spW K ps.length (runW N.length m)) := by
 refine Fn.okC Sc (fun vs H Q E h => h.1) fun cdv A outer s H vs Q E hcv hr h => ?_
 obtain ⟨hl, F, B, fp, ds, β, r, β', sf, sb, bo, rs, e, ok⟩ := h
 unfold runW at e
 refine ⟨_, hbody cdv A outer s H E hcv hr, F, cut H B, F, startS N.length ds, β, ?_⟩
 have start : RlW K F (cut H B) F H (start N vs) (startS N.length ds) β := ⟨B, fp, by rw [jn_cut sb]; exact rl_start sf rs, bo⟩
 split at e
 ·rename_i ρ β1 h1
  cases e
  refine ⟨_, _, start, h1, fun F' H' σ' rl _ => ?_⟩
  obtain ⟨B', fp', rl', k'⟩ := rl
  obtain ⟨fq, k2⟩ := k'.drop (β1.length - β.length)
  exact ok .non F' H' B' fq rl'.ext k2 .non
 ·rename_i d β1 h1
  cases e
  refine ⟨_, _, start, h1, fun v F' H' B' fp' x k' rp => ?_⟩
  obtain ⟨fq, k2⟩ := k'.drop (β1.length - β.length)
  exact ok v F' H' B' fq x k2 rp
 ·rename_i es β1 h1
  cases e
  refine ⟨_, _, start, h1, fun p xs F' H' B' fp' x k' a1 a2 a3 a4 => ?_⟩
  obtain ⟨fq, k2⟩ := k'.drop (β1.length - β.length)
  exact ok p xs F' H' B' fq x k2 a1 a2 a3 a4
 ·cases e
theorem QDf.mkT (D : QDf K mg nm st ps) (h : ∀ f fd, Fun K nm nm st f fd -> mg nm = some (.ref f) -> FnOk P w K mg base CX0 n f fd ps sp) : QHd P w K mg base n nm ps sp := by
 obtain ⟨f, fd, F, b, a⟩ := D
 exact ⟨f, fd, h f fd F a, b, F.kp, a⟩
theorem codeT_of {f T T0 : Addr} {fd : FuncData} {cdv : Value} (Fn : Fun K nm nm st f fd) (a : mg nm = some (.ref f)) (hc : fd.code = cdv) (t0 : TabF K nm T0) (b0 : base.BuiltinsAt mg T0) (h : TabF K nm T) (M : Mod K mg base) : CodeT K cdv T /\ base.BuiltinsAt mg T := by
 have one : ∀ {T}, TabF K nm T -> CodeT K cdv T := fun {T} h => by
  obtain ⟨f', oc, od, fd', sl, e1, e2, ct⟩ := h
  have e3 := W.mg_of M.kin M.glob e1
  rw [a] at e3
  cases e3
  obtain ⟨oc, od, kV, doc, pm, an, cdv', ct', osl, e4, lk, hcd⟩ := Fn.ex
  rw [e2] at lk
  cases lk
  rw [<- hc]
  exact ct
 have c1 := one h
 have c0 := one t0
 have e : T = T0 := by
  obtain ⟨c, e1, h1⟩ := c1.hd
  obtain ⟨c', e2, h2⟩ := c0.hd
  rw [e1] at e2; cases e2
  obtain ⟨o, vs, _, _, _, _, _, _, _, a1, _, a3, a4, _⟩ := h1 _ M.kin
  obtain ⟨o', vs', _, _, _, _, _, _, _, b1, _, b3, b4, _⟩ := h2 _ M.kin
  rw [a1] at b1; cases b1
  rw [a3] at b3; cases b3
  rw [a4] at b4; cases b4; rfl
 subst e
 exact ⟨c1, b0⟩
end
end
section
theorem TabF.of {K : W.Frag} {mw : Str} {P f c : Addr} {oc : Value} {od o1 : Option Addr} {fd : FuncData} {sl sl1 : Array (Option Value)} {vs : Array Value} (e : W.nsIn K mainGlobals mw = some (some (.ref f))) (l : K.lookup f = some ⟨oc, od, .func fd, sl⟩) (hc : fd.code = .ref c) (lc : K.lookup c = some ⟨.type "code", o1, .fields vs, sl1⟩)
  (hv : ∃ file tf flags tg inF text tt, vs[11]? = some (.ref P) /\ vs.getD 11 .none = .ref P /\ vs.getD 18 .none = .str file tf /\ vs.getD 7 .none = .int flags tg /\ vs.getD 9 .none = .bool inF /\ vs.getD 10 .none = .int text tt) (hcP : c ≠ P)
  (n4 : mainGlobals ≠ P) : TabF K mw P := by
 obtain ⟨file, tf, flags, tg, inF, text, tt, v1, v2, v3, v4, v5, v6⟩ := hv
 exact ⟨f, oc, od, fd, sl, e, l, ⟨c, hc, fun h X => ⟨_, vs, file, tf, flags, tg, inF, text, tt, X _ _ lc, rfl, rfl, v1, v2, v3, v4, v5, v6, hcP⟩⟩, n4⟩
theorem law_callT {P : Program} {w : World} {K : W.Frag} {mg mb : Str -> Option Value} {k : Nat} {fa a T : Addr} {fd : FuncData} {x mw q : Str} {pos : Pos} {m : MFW} {s₁ : Shared} {vs : List Value} {ns : List Int}
  (KX : K.In s₁.heap) (hns : s₁.heap.Ns mainGlobals mg) (hb : s₁.heap.Ns builtinsNs mb) (hbb : ∀ x : Str, x ≠ "__name__" -> mb x = bootBuiltins x) (hlim : s₁.heap.NoLimit) (hg : s₁.gens = #[])
  (ha : s₁.heap.get? a = some { cls := .type "list", data := .seq vs.toArray }) (hi : IntsAre vs ns) (hl : ns.length <= sizeLine) (hr : Room k callerA)
  (bm : ∃ bm ob, mg "__builtins__" = some (.ref bm) /\ bm ≠ builtinsNs /\ s₁.heap.get? bm = some ob /\ ob.cls = .type "module" /\ ob.dict = some builtinsNs /\ ob.data = .plain) (F : ∀ base : Heap, K.In base -> base.Ns mainGlobals mg -> base.BuiltinsAt mg T -> FnOk P w K mg base CX0 k fa fd [x] (spW K 1 m)) (hbind : ∀ (s : Shared) (u : Value), BindsTo s fd ⟨[u], []⟩ [(x, u)])
  (hT : s₁.heap.get? T = some (W.tabObj #[])) (hKT : K.lookup T = none) (tf : TabF K mw T) (law : ∃ β, m [.lst (ns.map .int)] [(T, .tb T mw pos q)] = some (.sh (.bl true), β)) :
  codeAny (model P w) callerA (.call (.ref fa) ⟨[.ref a], []⟩) (fun r s' => r = .ok (.ret (.bool true)) /\ OldK s₁.heap s'.heap /\ s'.os = s₁.os /\ AllBare s'.gens) s₁ := by
 have rv := vals_ints hi
 have lenV := hi.length
 have Ta : T ≠ a := fun z => by rw [z, ha] at hT; cases hT
 have core : ∀ Hs : Hp, Only Hs -> SqL K Hs a (ns.map V.int) -> HOk P w Hs s₁.heap -> (∀ b, Hs b ≠ none -> b = a) -> (Hs a ≠ none -> K.lookup a = none) ->
   codeAny (model P w) callerA (.call (.ref fa) ⟨[.ref a], []⟩) (fun r s' => r = .ok (.ret (.bool true)) /\ OldK s₁.heap s'.heap /\ s'.os = s₁.os /\ AllBare s'.gens) s₁ := by
  intro Hs hO hS hok0 hA0 hK
  have HsT : Hs T = none := by
   cases z : Hs T with
   | none => rfl
   | some u => exact absurd (hA0 T (by rw [z]; simp)) Ta
  have sH : Same Hs (upd Hs T (.tbl #[])) := (Same.refl Hs).put HsT
  have hok : HOk P w (upd Hs T (.tbl #[])) s₁.heap := fun b u e => by
   by_cases z : b = T
   ·subst z; rw [upd_same] at e; cases e; exact hT
   ·rw [upd_ne z] at e
    exact (hok0 b u e).stay (fun _ _ _ q => q) (fun c q => sH _ _ q) fun c xs q => sH _ _ q
  have hA : ∀ b, upd Hs T (.tbl #[]) b ≠ none -> b = a \/ b = T := fun b h => by
   by_cases z : b = T
   ·exact .inr z
   ·rw [upd_ne z] at h; exact .inl (hA0 b h)
  generalize hH : upd Hs T (.tbl #[]) = H at *
  have HT : H T = some (.tbl #[]) := by rw [<- hH, upd_same]
  have base_of : ∀ {b : Addr} {o : Obj}, s₁.heap.get? b = some o -> H b = none -> (hidT s₁.heap H).get? b = some o := fun e n => hidT_get e n
  have noA : ∀ {b : Addr} {o : Obj} {es : Array DictEntry} {ep : Nat}, s₁.heap.get? b = some o -> o.data = .dict es ep -> H b = none := fun {b o es ep} e d => by
   cases q : H b with
   | none => rfl
   | some u =>
    rcases hA b (by rw [q]; simp) with z | z
    ·subst z
     rw [ha] at e; cases e
     have d' : Data.seq vs.toArray _ = Data.dict es ep := d
     cases d'
    ·subst z
     rw [hT] at e; cases e
     have d' : Data.fields #[] = Data.dict es ep := d
     cases d'
  have nsK : ∀ {b : Addr} {m : Str -> Option Value}, s₁.heap.Ns b m -> (hidT s₁.heap H).Ns b m := fun {b m} ⟨o, es, ep, e, d, r⟩ => ⟨o, es, ep, base_of e (noA e d), d, r⟩
  have hKb : K.In (hidT s₁.heap H) := fun b o e => base_of (KX b o e) (by
   cases q : H b with
   | none => rfl
   | some u =>
    rcases hA b (by rw [q]; simp) with z | z
    ·subst z
     rw [hK (by rw [<- hH, upd_ne (Ne.symm Ta)] at q; rw [q]; simp)] at e; cases e
    ·subst z; rw [hKT] at e; cases e)
  have hM : Mod K mg (hidT s₁.heap H) := ⟨hKb, nsK hns, ⟨mb, nsK hb, hbb⟩, let ⟨mc, h1, h2⟩ := hlim; ⟨mc, nsK h1, h2⟩⟩
  have e0 : Env0 P w K mg (hidT s₁.heap H) callerA [] s₁ H := ⟨rfl, hM, fun b o e => of_hidT e, Nat.le_of_eq (hidT_size _ _), trivial, fun b hb => absurd (show b ∈ ([] : List Addr) from hb) (by simp), hok, .of_eq hg⟩
  obtain ⟨β, law⟩ := law
  have hBt : (hidT s₁.heap H).BuiltinsAt mg T := by
   obtain ⟨bm, ob, b1, b2, b3, b4, b5, b6⟩ := bm
   have nT : bm ≠ T := fun z => by rw [z, hT] at b3; cases b3; cases b4
   have na : bm ≠ a := fun z => by rw [z, ha] at b3; cases b3; cases b6
   have ng : bm ≠ mainGlobals := fun z => by
    obtain ⟨o, es, ep, e, d, _⟩ := hns
    rw [z, e] at b3; cases b3; rw [d] at b6; cases b6
   refine ⟨bm, ob, b1, b2, ng, nT, base_of b3 ?_, b4, b5, b6⟩
   cases q : H bm with
   | none => rfl
   | some u =>
    rcases hA bm (by rw [q]; simp) with z | z
    ·exact absurd z na
    ·exact absurd z nT
  have hsp : spW K 1 m [.ref a] H (fun v _ => v = .bl true) (fun _ _ _ => False) := by
   refine ⟨rfl, Hs, fun b => if b = T then some (.tbl #[]) else none, [T], [.lst (ns.map .int)], [(T, .tb T mw pos q)], .sh (.bl true), β, sH, fun b o e => ?_, ⟨fun b h => ?_, .cons (fp := [T]) (.tb tf (if_pos rfl) (by trivial) (.inl rfl)) .nil, by simp, fun b o u h => ?_⟩, .cons (.lst hS (reps_ints ns)) .nil, law, fun v F' H' B' fp' _ _ r => ?_⟩
   ·have e : (if b = T then some (HO.tbl #[]) else none) = some o := e
    by_cases z : b = T
    ·rw [if_pos z] at e; rw [z, HT]; exact e
    ·rw [if_neg z] at e; cases e
   ·have h : (if b = T then some (HO.tbl #[]) else none) ≠ none := h
    split at h
    ·rename_i z
     subst z
     exact ⟨cut_in (by show (if b = b then some (HO.tbl #[]) else none) ≠ none; rw [if_pos rfl]; simp), HsT⟩
    ·exact absurd rfl h
   ·have h : (if b = T then some (HO.tbl #[]) else none) = some (.frz o u) := h
    split at h <;> cases h
   ·cases r; rfl
  refine codeAny_mono ((F _ hKb (nsK hns) hBt).run callerA [] s₁ H ⟨[.ref a], []⟩ [.ref a] [.ref a] _ _ hr e0 (hbind s₁ (.ref a)) (.cons rfl .nil) hsp) fun r s' h => ?_
  cases r with
  | error e => exact h.elim
  | ok fl =>
   cases fl with
   | next => exact False.elim h
   | brk => exact False.elim h
   | cont => exact False.elim h
   | ret u =>
    obtain ⟨v, H', os, bare, un, hok', r', q⟩ := h
    have q' : v = .bl true := q
    subst q'
    obtain rfl : u = Value.bool true := r'
    have old : ∀ b o, b ≠ T -> s₁.heap.get? b = some o -> s'.heap.get? b = some o := fun b o bT e => by
     cases q : H b with
     | none => exact un.keep b o e q (by intro z; exact absurd (show b ∈ ([] : List Addr) from z) (by simp)) (by simp)
     | some u =>
      rcases hO b with z | ⟨ob, xs, z⟩
      ·rw [<- hH, upd_ne bT, z] at q; cases q
      ·have z1 : H b = some (.frz ob (.lst xs)) := by rw [<- hH, upd_ne bT]; exact z
       have z2 := un.frzs b ob _ z1
       obtain ⟨e1, _⟩ := hok b _ z1
       obtain ⟨e2, _⟩ := hok' b _ z2
       rw [e] at e1; cases e1
       exact e2
    obtain ⟨more, hmore⟩ := un.tbls T #[] HT
    have newT : s'.heap.get? T = some (W.tabObj (#[] ++ more)) := hok' T _ hmore
    refine ⟨rfl, ⟨fun b o e => ?_, fun b o e => ?_⟩, os, bare⟩
    ·by_cases bT : b = T
     ·subst bT
      rw [hT] at e; cases e
      obtain ⟨_, _, _, _, _, _, _, ct⟩ := tf
      obtain ⟨c, _, hc⟩ := ct.hd
      obtain ⟨o, cs, _, _, _, _, _, _, _, c1, c2, c3, c4, _⟩ := hc _ KX
      exact .inr (.inl ⟨⟨c, o, cs, c1, c2, c3, c4⟩, rfl, #[], more, rfl, newT⟩)
     ·exact .inl (old b o bT e)
    ·by_cases bT : b = T
     ·subst bT; exact ⟨_, newT⟩
     ·exact ⟨o, old b o bT e⟩
 cases hk : K.lookup a with
 | some o =>
  have e := KX a o hk
  rw [ha] at e
  cases e
  refine core (fun _ => none) (fun _ => .inl rfl) (.inr ⟨_, vs.toArray, _, hk, rfl, rfl, rfl, by rw [size_toArray, lenV]; exact hl, by simpa using rv⟩) (fun b u z => by have z' : (none : Option HO) = some u := z; cases z') (fun b z => absurd rfl z) fun z => absurd rfl z
 | none =>
  refine core (fun b => if b = a then some (.frz { cls := .type "list", data := .seq vs.toArray } (.lst (ns.map V.int))) else none) (fun b => ?_) (.inl (.inr ⟨{ cls := .type "list", data := .seq vs.toArray }, if_pos rfl⟩)) (fun b u z => ?_) (fun b z => ?_) fun _ => hk
  ·by_cases hb : b = a
   ·exact .inr ⟨_, _, if_pos hb⟩
   ·exact .inl (if_neg hb)
  ·by_cases hb : b = a
   ·have z' := (if_pos hb).symm.trans z
    cases z'
    subst hb
    exact ⟨ha, by rw [length_map]; exact hl, vs, _, rv, ha⟩
   ·have z' := (if_neg hb).symm.trans z
    cases z'
  ·by_cases hb : b = a
   ·exact hb
   ·exact absurd (if_neg hb) z
theorem lookup_none {K : W.Frag} {T : Addr} (h : T ∉ K.map (·.1)) : K.lookup T = none := by
 induction K with
 | nil => rfl
 | cons e K ih =>
  rw [map_cons] at h
  rw [lookup_cons]
  have hn : (T == e.1) = false := by
   cases z : T == e.1 with
   | false => rfl
   | true => exact absurd (by rw [beq_iff_eq.mp z]; simp) h
  rw [hn]
  exact ih fun z => h (mem_cons_of_mem _ z)
theorem walk_ofT {l : W.OpenLaw} {n k : Nat} {q : Program} {loose : List Str} {XP : (Str -> Option Value) -> Heap -> Prop} {d : DefRec} {K : Params -> W.Frag} {as : List Addr} {e : ∀ P : Params, as = (K P).map (·.1)} {T : Addr} {x mw ql : Str} {pos : Pos} {m : MFW}
  (hn : l.most = some n) (hn2 : n <= sizeLine) (hdf : d.params.defaults = []) (hr : Room k callerA) (hT : T ∉ as)
  (F : ∀ (w : World) (mg : Str -> Option Value) (fa : Addr) (h : Heap), (K w.params).In h -> h.Ns mainGlobals mg -> mg d.name = some (.ref fa) ->
   TabF (K w.params) mw T /\ ∃ fd : FuncData, (∀ (s : Shared) (u : Value), BindsTo s fd ⟨[u], []⟩ [(x, u)]) /\
    ∀ base : Heap, (K w.params).In base -> base.Ns mainGlobals mg -> base.BuiltinsAt mg T -> FnOk l.prog w (K w.params) mg base CX0 k fa fd [x] (spW (K w.params) 1 m))
  (law : ∀ (T : Addr) (ns : List Int), ns.length <= n -> ∃ β, m [.lst (ns.map .int)] [(T, .tb T mw pos ql)] = some (.sh (.bl true), β)) :
  W.WalkO q loose XP (W.kmHook K as e [T]).says l.row.toRowW d [] (fun f vs => PySem.call f vs) := by
 refine Att.attach_call hn hdf fun w s₀ s₁ mg mb fa o pm cd doc a vs ns G Y ho hd hcd hmg hobj hints hlen hg => ?_
 have KX := W.km_in_of Y
 obtain ⟨tf, fd, hb, hF⟩ := F w mg fa _ KX G.T.g hmg
 exact law_callT KX G.T.g G.T.b G.T.builtins G.T.nolimit hg hobj hints (Nat.le_trans hlen hn2) hr G.T.bmain hF hb (W.km_tabs_of Y T (by simp)) (lookup_none (by rw [<- e]; exact hT)) tf (law T ns hlen)
theorem and_dep {a b : Prop} (h : a) (k : a -> b) : a /\ b := ⟨h, k h⟩
theorem lam_room {X : Cx} {N : List Str} {sc : Scope} {q : Str} {f c : Addr} {A : Around} {s : Shared} {H : Hp} {k : Nat} (hr : Room (k + 1) A) : Room k (lamCx X N sc q f c A s H).A := hr.deeper _
end
section
def insB (B H : Hp) (L : List Addr) : Hp := fun a => if a ∈ L then H a else B a
theorem insB_in {B H : Hp} {L : List Addr} {a : Addr} (h : a ∈ L) : insB B H L a = H a := by unfold insB; rw [if_pos h]
theorem insB_out {B H : Hp} {L : List Addr} {a : Addr} (h : a ∉ L) : insB B H L a = B a := by unfold insB; rw [if_neg h]
section
variable {K : W.Frag} {F0 H0 F H B : Hp} {σ : St} {ρ : Ro} {β : Bx} {fp : List Addr}
theorem Rl.takeBs {L : List Addr} (rl : Rl K F0 (jn H0 B) F H σ ρ) (hH : ∀ q ∈ L, H q ≠ none) (hF : ∀ q ∈ L, F q = none) (hj : ∀ q ∈ L, jn H0 B q = none) (hn : ∀ q ∈ L, ∀ (i : Nat) ds, ρ[i]? = some (some (.own ds)) -> σ[i]? ≠ some (some (.ref q))) (hb : ∀ q ∈ L, ∀ (i : Nat) p ds, ρ[i]? = some (some (.ob p ds)) -> p ≠ q) : Rl K F0 (jn H0 (insB B H L)) F H σ ρ := by
 have jo : ∀ b, b ∉ L -> jn H0 (insB B H L) b = jn H0 B b := fun b hb => by unfold jn; rw [insB_out hb]
 refine ⟨⟨rl.ext.ff, fun b u e => ?_, rl.ext.fh, fun b e n => ?_, rl.ext.nf⟩, rl.len, rl.sh, fun i ds e => ?_, rl.inj, fun i p ds e => ?_, rl.obn, rl.ob1⟩
 ·by_cases hq : b ∈ L
  ·have := hH b hq
   unfold jn at e
   rw [insB_in hq] at e
   cases z : H b with
   | none => exact absurd z this
   | some o => rw [z] at e; exact e
  ·rw [jo b hq] at e; exact rl.ext.hh b u e
 ·have hq : b ∉ L := fun z => n (hF b z)
  rw [jo b hq]; exact rl.ext.new b e n
 ·obtain ⟨p, xs, a1, a2, a3, a4, a5⟩ := rl.own i ds e
  exact ⟨p, xs, a1, a2, a3, a4, by rw [jo p (fun z => hn p z i ds e a1)]; exact a5⟩
 ·obtain ⟨a1, a2, a3, xs, a4, a5⟩ := rl.ob i p ds e
  exact ⟨a1, a2, by rw [jo p (fun z => hb p z i p ds e rfl)]; exact a3, xs, a4, a5⟩
theorem flR_pots {B' : Hp} : ∀ {qs : List Addr} {dss : List (List D)}, RPs K F H qs dss -> (∀ q ∈ qs, B' q = H q) -> FlR K F B' qs (qs.map V.ref) (dss.map .l)
 | _, _, .nil, _ => .nil
 | _, _, .cons h r t, k => .l (by rw [k _ (by simp)]; exact h) r (flR_pots t fun q hq => k q (mem_cons_of_mem _ hq))
theorem RlW.pots {F' H' : Hp} {p : Addr} {qs : List Addr} {dss : List (List D)} (rl : Rl K F0 (jn H0 B) F H σ ρ) (ok : BxOk K F0 H0 F B fp β) (x : Ext F H F' H') (P : Pots K H F' H' p qs dss) : RlW K F0 H0 F' H' σ ρ ((p, .row (dss.map .l)) :: β) /\ B p = none := by
 have new : ∀ q ∈ p :: qs, H q = none /\ F' q = none /\ H' q ≠ none := fun q hq => by
  rcases List.mem_cons.mp hq with e | hq
  ·subst e; exact ⟨P.hp, P.fp, by rw [P.at']; simp⟩
  ·obtain ⟨o, ho⟩ := P.rep.some q hq
   exact ⟨(P.new q hq).1, (P.new q hq).2, by rw [ho]; simp⟩
 have hj : ∀ q ∈ p :: qs, jn H0 B q = none := fun q hq => rl.ext.hh.free (new q hq).1
 have hB : ∀ q ∈ p :: qs, B q = none := fun q hq => (jn_free (hj q hq)).1
 have rl1 := (rl.go x).takeBs (L := p :: qs) (fun q hq => (new q hq).2.2) (fun q hq => (new q hq).2.1) hj (fun q hq i ds e z => by
  obtain ⟨p', xs, a1, _, a3, _⟩ := rl.own i ds e
  rw [z] at a1; cases a1
  rw [(new q hq).1] at a3; cases a3) (fun q hq i p' ds e z => by
  obtain ⟨_, _, _, xs, a4, _⟩ := rl.ob i p' ds e
  rw [z, (new q hq).1] at a4; cases a4)
 have notin : ∀ a ∈ fp, a ∉ p :: qs := fun a ha z => ok.bx.mem a ha (hB a z)
 refine ⟨⟨insB B H' (p :: qs), (p :: qs) ++ fp, rl1, fun a h => ?_, .cons (.row (by rw [insB_in (by simp)]; exact P.at') (flR_pots P.rep fun q hq => insB_in (mem_cons_of_mem _ hq))) (ok.bx.mono x.ff fun a ha => insB_out (notin a ha)), List.nodup_append.mpr ⟨P.nd, ok.nd, fun a h1 b h2 z => by subst z; exact notin a h2 h1⟩, fun a o u h => ?_⟩, hB p (by simp)⟩
 ·by_cases hq : a ∈ p :: qs
  ·exact ⟨(jn_free (hj a hq)).2, rl.ext.ff.free (rl.fh.free (new a hq).1)⟩
  ·rw [insB_out hq] at h; exact ok.out a h
 ·by_cases hq : a ∈ p :: qs
  ·rw [insB_in hq] at h
   rcases List.mem_cons.mp hq with e | hq
   ·subst e; rw [P.at'] at h; cases h
   ·obtain ⟨i, hi, hiq⟩ := getElem_of_mem hq
    have hr := P.rep
    have : ∃ xs, H' a = some (.lst xs) := by
     clear h
     have aux : ∀ {qs : List Addr} {dss : List (List D)}, RPs K F' H' qs dss -> a ∈ qs -> ∃ xs, H' a = some (.lst xs) := by
      intro qs dss r
      induction r with
      | nil => intro h; cases h
      | cons h1 _ _ ih =>
       intro h
       rcases List.mem_cons.mp h with e | h
       ·subst e; exact ⟨_, h1⟩
       ·exact ih h
     exact aux hr hq
    obtain ⟨xs, e⟩ := this
    rw [e] at h; cases h
  ·rw [insB_out hq] at h; exact ok.plain a o u h
theorem FlR.at' {n : Nat} {ds : List D} : ∀ {n : Nat} {fp : List Addr} {xs : List V} {fs : List Fl}, FlR K F B fp xs fs -> fp.Nodup -> fs[n]? = some (.l ds) -> ∃ q ys, xs[n]? = some (.ref q) /\ q ∈ fp /\ B q = some (.lst ys) /\ Reps K F ys ds /\
  ∀ (B' F' : Hp) ys' ds', Same F F' -> B' q = some (.lst ys') -> Reps K F' ys' ds' -> (∀ a ∈ fp, a ≠ q -> B' a = B a) -> FlR K F' B' fp xs (fs.set n (.l ds'))
 | _, _, _, _, .nil, _, e => by simp at e
 | 0, _, _, _, .v _ _, _, e => by simp at e
 | n + 1, _, _, _, .v r t, nd, e => by
  obtain ⟨q, ys, a1, a2, a3, a4, a5⟩ := FlR.at' (n := n) t nd (by simpa using e)
  exact ⟨q, ys, by simpa using a1, a2, a3, a4, fun B' F' ys' ds' sf b1 b2 b3 => .v (r.mono sf) (a5 B' F' ys' ds' sf b1 b2 b3)⟩
 | 0, _, _, _, .l (fp := fp) (q := q) b r t, nd, e => by
  simp at e
  subst e
  have hn := List.nodup_cons.mp nd
  exact ⟨q, _, rfl, by simp, b, r, fun B' F' ys' ds' sf b1 b2 b3 => .l b1 b2 (t.mono sf fun a ha => b3 a (by simp [ha]) fun z => hn.1 (z ▸ ha))⟩
 | n + 1, _, _, _, .l (fp := fp) (q := q0) b r t, nd, e => by
  have hn := List.nodup_cons.mp nd
  obtain ⟨q, ys, a1, a2, a3, a4, a5⟩ := FlR.at' (n := n) t hn.2 (by simpa using e)
  exact ⟨q, ys, by simpa using a1, by simp [a2], a3, a4, fun B' F' ys' ds' sf b1 b2 b3 => .l (by rw [b3 q0 (by simp) fun z => hn.1 (z ▸ a2)]; exact b) (r.mono sf) (a5 B' F' ys' ds' sf b1 b2 fun a ha hq => b3 a (by simp [ha]) hq)⟩
end
noncomputable def mnewR (i : Nat) (mp : MP) (rest : MW) : MW := fun ρ β => (mp ρ).bind fun dss => anyN β fun x => (rest (ρ.set i (some (.sh (.ptr x)))) ((x, .row (dss.map .l)) :: β)).map (letGo i β.length)
section
variable {X : Cx} {a b c e : Expr} {pos : Pos} {st : Stmt} {rest : List Stmt} {E : XK} {es : List Expr} {mf : MFW} {m : ML}
theorem pssw_newR {i : Nat} {src : List (Option Nat)} {mi : ML} {g : Tg} {elt : ML} {mr : MW} (hS : PS X st (tAsg (tComp src (TId X.K mi) (TGd X.K g) (TC X.K cyes) (TF X.K elt)) (gName i))) (hr : PSsw X rest mr) : PSsw X (st :: rest) (mnewR i (mcompP src mi g elt) mr) := PSs.imp (pss_cons hS hr) fun Dn σ H ⟨F0, H0, F, ρ, β, o, β', ⟨B, fp, rl, ok⟩, e, k⟩ => by
 unfold mnewR at e
 cases h1 : mcompP src mi g elt ρ with
 | none => rw [h1] at e; cases e
 | some dss =>
  rw [h1, Option.bind_some] at e
  show tComp src (TId X.K mi) (TGd X.K g) (TC X.K cyes) (TF X.K elt) σ H (fun v H' => TSw X.K mr Dn (σ.set i (some v)) H')
  refine comp_tp ⟨F0, jn H0 B, F, ρ, dss, rl, h1, fun p qs F' H' x P => ?_⟩
  obtain ⟨⟨B2, fp2, rl2, ok2⟩, hBp⟩ := RlW.pots rl ok x P
  have e := anyN_some e p fun z => ok.bx.keys p z hBp
  show TSw X.K mr Dn (σ.set i (some (.ref p))) H'
  cases h3 : mr (ρ.set i (some (.sh (.ptr p)))) ((p, .row (dss.map .l)) :: β) with
  | none => rw [h3] at e; cases e
  | some ob =>
   obtain ⟨o1, β2⟩ := ob
   rw [h3] at e
   have e : some (letGo i β.length (o1, β2)) = some (o, β') := e
   have e := Option.some.inj e
   refine ⟨F0, H0, F', _, _, o1, β2, ⟨B2, fp2, rl2.set (.ptr p), ok2⟩, h3, okW.letGo (i := i) (k := β.length) ?_⟩
   rw [e]
   exact k.mono x.ff
def setR (a b : Int) (d : D) (fs : List Fl) : Option (List Fl) := match ixN fs.length a with
 | some n => (match fs[n]? with
  | some (.l ds) => (match ixN ds.length b with | some m => some (fs.set n (.l (ds.set m d))) | none => none)
  | _ => none)
 | none => none
def msetR (i : Nat) (k1 k2 : ME) (v : Ro -> Bx -> Option D) : MW := fun ρ β => match v ρ β, ρ[i]?, k1 ρ, k2 ρ with
 | some d, some (some (.sh (.ptr p))), some (.int a), some (.int b) => (match β.lookup p with
  | some (.row fs) => (setR a b d fs).map fun fs' => (.nx ρ, updB p (.row fs') β)
  | _ => none)
 | _, _, _, _ => none
theorem psw_setR {i : Nat} {k1 k2 : ME} {mv : Ro -> Bx -> Option D} (hE : PS X st (tAsg (TDw X.K mv) (gSub (tOp (rIxL X.K) (tVar i) (TD X.K k1)) (TD X.K k2) rSetL))) : PSw X st (msetR i k1 k2 mv) := PS.imp hE fun Dn σ H hpat => by
 obtain ⟨F0, H0, F, ρ, β, o, β', rw', e, k⟩ := hpat
 unfold msetR at e
 split at e
 ·rename_i d p a b h1 hp hk1 hk2
  split at e
  ·rename_i fs hb
   cases h2 : setR a b d fs with
   | none => rw [h2] at e; cases e
   | some fs' =>
    rw [h2] at e; cases e
    unfold setR at h2
    split at h2
    ·rename_i n hn
     split at h2
     ·rename_i ds hfs
      split at h2
      ·rename_i m hm
       cases h2
       refine ⟨F0, H0, F, ρ, β, d, rw', h1, fun v F1 H1 r1 s1 _ rp => ?_⟩
       obtain ⟨B, fp, rl, ok⟩ := r1
       obtain ⟨w, hσ, rw1⟩ := rl.sh i _ hp
       cases rw1
       obtain ⟨fq, hc, nq, hin, up⟩ := ok.bx.upd ok.nd hb
       cases hc with
       | @row fq0 _ xs _ b0 fl =>
        have nq1 := List.nodup_cons.mp nq
        obtain ⟨q, ys, a1, a2, a3, a4, a5⟩ := FlR.at' (n := n) fl nq1.2 hfs
        refine ⟨_, hσ, F0, jn H0 B, F1, ρ, _, rl, hk1, fun w2 F2 H2 x2 r2 => ?_⟩
        cases r2
        have hat : atI xs a = some (.ref q) := by
         unfold atI
         rw [fl.length, hn]
         exact a1
        refine ⟨p, xs, a, .ref q, rfl, rfl, SqL.of (x2.hh _ _ (rl.ext.hh _ _ (jn_some b0))), hat, F0, jn H0 B, F2, ρ, _, rl.go x2, hk2, fun w3 F3 H3 x3 r3 => ?_⟩
        cases r3
        have rl3 := (rl.go x2).go x3
        refine ⟨q, ys, b, m, rfl, rfl, rl3.ext.hh _ _ (jn_some a3), by rw [a4.length]; exact hm, ?_⟩
        obtain ⟨rl4, _, hq0, hqF⟩ := rl3.putB (a := q) (o := .lst (ys.set m v)) ok.out (.inl (by rw [a3]; simp))
        have pq : p ≠ q := fun z => nq1.1 (z ▸ a2)
        have s13 : Same F1 F3 := x2.ff.trans x3.ff
        have hcell : CellR X.K F3 (upd B q (.lst (ys.set m v))) (p :: fq0) p (.row (fs.set n (.l (ds.set m d)))) := .row (by rw [upd_ne pq]; exact b0) (a5 _ F3 _ _ s13 upd_same ((a4.mono s13).set (rp.mono s13) m) fun a _ hne => upd_ne hne)
        obtain ⟨fp', r', nd', hm'⟩ := up _ _ _ F3 s13 hcell nq (fun a _ hn => upd_ne fun z => hn (by rw [z]; simp [a2])) fun a ha => .inl ha
        exact k F3 _ σ ⟨_, fp', rl4, upd_out ok.out ⟨hq0, hqF⟩, r', nd', upd_plain ok.plain fun _ _ z => by cases z⟩ (s1.trans s13)
      ·cases h2
     ·cases h2
    ·cases h2
  ·cases e
 ·cases e
def mretFW (m : ML) : MW := fun ρ β => (m ρ).map fun ds => (.rf ds, β)
theorem psw_retF (h : PF X e m) : PSw X (.Return (some e) pos) (mretFW m) := PS.imp (ps_ret h) fun Dn σ H ⟨F0, H0, F, ρ, β, o, β', ⟨B, fp, rl, ok⟩, e, k⟩ => by
 unfold mretFW at e
 cases h1 : m ρ with
 | none => rw [h1] at e; cases e
 | some ds =>
  rw [h1] at e; cases e
  exact ⟨F0, jn H0 B, F, ρ, ds, rl, h1, fun p xs F1 H1 x1 hp hF hH r1 => k p xs F1 H1 B fp (rl.ext.trans x1) (ok.mono x1.ff) (rl.ext.hh.free hp) hF hH r1⟩
def msetXF (i : Nat) (f : MFW) (m : ML) : MW := fun ρ β => (m ρ).bind fun ds => match f ds β with
 | some (.fr es, β') => some (.nx (ρ.set i (some (.own es))), β')
 | _ => none
theorem psw_setXF {n i : Nat} {x : Str} {pos' : Pos} (hN : X.N.Nodup) (hi : X.N[i]? = some x) (hx : Loc X.env.scope x) (h : ∀ t, PA X es t -> PE X e (tCall (spW X.K n mf) [] E t)) (hl : es.length = n) (ha : PAs X es m) (hm : ∀ ρ ds, m ρ = some ds -> ds.length = es.length)
  (hs : swapsWith e (some (.Name x pos')) pos.line X.env = pure false := by rfl) (hf : X.fn x = true \/ X.env.scope.names.lookup x = some .local := by first | exact .inl rfl | exact .inr rfl) : PSw X (.Assign [.Name x pos'] e pos) (msetXF i mf m) := PS.imp (ps_set hN hi hx (h _ ha) hs hf) fun Dn σ H ⟨F0, H0, F, ρ, β, o, β', ⟨B, fp, rl, ok⟩, e, k⟩ => by
 unfold msetXF at e
 cases h1 : m ρ with
 | none => rw [h1] at e; cases e
 | some ds =>
  rw [h1, Option.bind_some] at e
  split at e
  ·rename_i es' β1 h2
   cases e
   refine ⟨F0, jn H0 B, F, ρ, ds, rl, h1, fun vs F1 H1 x1 r1 => ?_⟩
   show spW X.K n mf (vs ++ []) H1 _ E
   rw [append_nil]
   have rl1 := rl.go x1
   have ok1 := ok.mono x1.ff
   obtain ⟨bh, kk⟩ := ok1.call rl1
   refine ⟨by rw [r1.length, hm ρ ds h1, hl], F1, B, fp, ds, β, _, _, rl1.fh, bh, kk, r1, h2, fun p xs F' H' B' fp' x k' e1 e2 e3 rp => ?_⟩
   obtain ⟨rl2, ok2⟩ := RlW.back' rl1 ok1 x k'
   obtain ⟨b', c⟩ := jn_free e1
   have h0p : H0 p = none := by
    cases q : B p with
    | some u => exact (ok1.out p (by rw [q]; simp)).1
    | none =>
     rw [cut_out q] at c
     exact (jn_free (rl1.ext.hh.free c)).2
   have jp : jn H0 B' p = none := by rw [jn_none b']; exact h0p
   have apart : ∀ p' ys, jn H0 B p' = none -> H1 p' = some (.lst ys) -> p' ≠ p := fun p' ys j1 j2 z => by
    subst z
    rw [cut_out (jn_free j1).1, j2] at c; cases c
   refine k F' H' _ ⟨B', fp', rl2.setOwn e2 e3 rp jp (fun j gs hj hg hσ => ?_) fun j q gs hg z => ?_, ok2⟩ (x1.ff.trans x.ff)
   ·obtain ⟨p', ys, a1, _, a3, _, a5⟩ := rl1.own j gs hg
    rw [hσ] at a1; cases a1
    exact apart p ys a5 a3 rfl
   ·obtain ⟨_, _, a3, ys, a4, _⟩ := rl1.ob j q gs hg
    exact apart q ys a3 a4 z
  ·cases e
def TCx (K : W.Frag) (m : Ro -> Bx -> Option (Bool × Bx)) : TT := fun σ H Q => ∃ F0 H0 F ρ β b β', RlW K F0 H0 F H σ ρ β /\ m ρ β = some (b, β') /\ ∀ F' H', RlW K F0 H0 F' H' σ ρ β' -> Same F F' -> Q b H'
def mifX (c : Ro -> Bx -> Option (Bool × Bx)) (x y : MW) : MW := fun ρ β => match c ρ β with | some (true, β') => x ρ β' | some (false, β') => y ρ β' | none => none
theorem psw_ifX {ca : Ro -> Bx -> Option (Bool × Bx)} {x y : List Stmt} {mx my : MW} (hc : PT X c (TCx X.K ca)) (hx : PSsw X x mx) (hy : PSsw X y my) : PSw X (.If c x y pos) (mifX ca mx my) := PS.imp (ps_if hc hx hy) fun D σ H hpat => by
 obtain ⟨F0, H0, F, ρ, β, o, β', rw', e, ok⟩ := hpat
 unfold mifX at e
 split at e
 ·rename_i β1 h1
  exact ⟨F0, H0, F, ρ, β, _, β1, rw', h1, fun F1 H1 r1 x1 => iteT ⟨F0, H0, F1, ρ, β1, o, β', r1, e, ok.mono x1⟩⟩
 ·rename_i β1 h1
  exact ⟨F0, H0, F, ρ, β, _, β1, rw', h1, fun F1 H1 r1 x1 => iteF ⟨F0, H0, F1, ρ, β1, o, β', r1, e, ok.mono x1⟩⟩
 ·cases e
def mcmpX (f : D -> D -> Option D) (x : Ro -> Bx -> Option (D × Bx)) (y : ME) : Ro -> Bx -> Option (Bool × Bx) := fun ρ β => match x ρ β with
 | some (d, β') => (match y ρ with
  | some e => (match f d e with | some (.bl k) => some (k, β') | _ => none)
  | none => none)
 | none => none
theorem pcx_cmp {op : CmpOp} {r : R2} {f : D -> D -> Option D} {ma : Ro -> Bx -> Option (D × Bx)} {mb : ME} (ho : OpR X (compareOp op) r) (hf : OpD X.K r f) (ha : PDx X a ma) (hb : PD X b mb) (hm : behindInMarks op b = false) : PT X (.Compare a [op] [b] pos) (TCx X.K (mcmpX f ma mb)) := PT.imp (pt_cmpR ho ha hb hm) fun σ H Q hpat => by
 obtain ⟨F0, H0, F, ρ, β, k, β', rw', e, q⟩ := hpat
 unfold mcmpX at e
 split at e
 ·rename_i d β1 h1
  split at e
  ·rename_i g h2
   split at e
   ·rename_i k' h3
    cases e
    refine ⟨F0, H0, F, ρ, β, d, _, rw', h1, fun v F1 H1 r1 s1 rp => ?_⟩
    obtain ⟨B, fp, rl, ok⟩ := r1
    refine ⟨F0, jn H0 B, F1, ρ, g, rl, h2, fun w F2 H2 x2 r2 => ?_⟩
    refine hf F2 H2 v w d g _ _ x2.fh (rp.mono x2.ff) r2 h3 fun z F3 H3 x3 r3 => ?_
    cases r3
    exact ⟨_, rfl, q F3 H3 ⟨B, fp, (rl.go x2).go x3, (ok.mono x2.ff).mono x3.ff⟩ (s1.trans (x2.ff.trans x3.ff))⟩
   ·cases e
  ·cases e
 ·cases e
end
@[irreducible] def mborB (i : Nat) (m : MB) : MB := fun ρ => match ρ[i]? with
 | some (some (.own ds)) => m (ρ.set i (some (.sh (.lst ds))))
 | _ => m ρ
theorem pc_borT {X : Cx} {e : Expr} {m : MB} (i : Nat) (h : PC' X e m) : PC' X e (mborB i m) := h.imp fun σ H Q hpat => by
 obtain ⟨F0, H0, F, ρ, d, rl, e, q⟩ := hpat
 unfold mborB at e
 split at e
 ·rename_i ds h1
  obtain ⟨p, xs, hp, rl'⟩ := rl.freezeP h1
  refine ⟨F0, H0, _, _, d, rl', e, fun F2 H2 x2 => ?_⟩
  have hp2 : F2 p = some (.lst xs) := x2.ff _ _ upd_same
  refine q (fun b => if b = p then none else F2 b) H2 ⟨fun b o hb => ?_, x2.hh, fun b o hb => ?_, fun b hb hn => ?_, fun b o u z => by
   have z : (if b = p then none else F2 b) = some (.frz o u) := z
   split at z
   ·cases z
   ·rename_i hne
    have := x2.nf b o u z
    rwa [upd_ne hne] at this⟩
  ·have hne : b ≠ p := fun w => by rw [w, hp] at hb; cases hb
   show (if b = p then none else F2 b) = some o
   rw [if_neg hne]
   exact x2.ff b o (by rw [upd_ne hne]; exact hb)
  ·have hb : (if b = p then none else F2 b) = some o := hb
   split at hb
   ·cases hb
   ·exact x2.fh b o hb
  ·have hn : (if b = p then none else F2 b) ≠ none := hn
   split at hn
   ·exact absurd rfl hn
   ·rename_i hne
    exact x2.new b (by rw [upd_ne hne]; exact hb) hn
 ·exact ⟨F0, H0, F, ρ, d, rl, e, q⟩
end
end L2
set_option maxHeartbeats 4000000
namespace Lw
open List
open PySem L2
section
noncomputable section
def b_Z2 : MS := (mif (mtest (m2 ltD (mvar 0) (mc (.int 1)))) mnever mnext)
def m_Z2 : MF := runB 1 b_Z2
def b_Z6 : MS := (mseq (mset 2 (midxS "up" "down" (mvar 1))) (mretF (mcomp [none, none, some 2] (mlist enum1 (acons (mvar 0) anil)) (.tp [0, 1]) cyes (mite (mtest (m2 eqSD (m2 modD (mvar 0) (mc (.int 2))) (mvar 2))) (m1 negD (mvar 1)) (mvar 1)))))
def m_Z6 : MF := runB 3 b_Z6
def b_Z9_f0 : MS := (mif (cor (mtest (meqB true (mcut (bvar 2) (osome (m1 negD (mc (.int 1)))) onone) (sized (acons (m2 subD (mvar 3) (mc (.int 1))) anil)))) (mtest (m2 geD (m2 addD (mix (bvar 0) (m2 subD (mvar 3) (mc (.int 1)))) (mvar 4)) (mvar 1)))) (mapp 2 (mvar 3)) mnext)
def b_Z9 : MS := (mseq (msetF 2 (sized anil)) (mseq (mfor (mlist enum1 (acons (mvar 0) anil)) (.tp [3, 4]) b_Z9_f0) (mretO 2)))
def m_Z9 : MF := runB 5 b_Z9
def b_Z0 : MS := (mseq (mif (mtest (m2 (inD true) (mvar 2) (mc (.tup ((["up", "down"] : List Str).map .str))))) mnever mnext) (mseq (mexpr (mcall m_Z2 (acons (mvar 1) anil))) (mseq (mset 3 (mcall m_Z9 (acons (mcall m_Z6 (acons (mvar 0) (acons (mvar 2) anil))) (acons (mvar 1) anil)))) (mret (mtup (acons (m2 subD (mlen (bvar 0)) (mlen (bvar 3))) (acons (mvar 3) anil)))))))
def m_Z0 : MF := runB 4 b_Z0
def b_made_wavy : MW := (mseqW (msetX 2 (mlamX "made_wavy" ⟨30, 26, 30, 72⟩ "made_wavy.<locals>.<lambda>" ((["up", "down"] : List Str).map .str) [none, some 0, some 1] (mcall m_Z0 (acons (mvar 1) (acons (mvar 2) (acons (mvar 0) anil)))))) (mseqW (wS (masg (.tp [3, 4]) (mcall m_Z0 (acons (mvar 0) (acons (mvar 1) (acons (mvar 2) anil)))))) (mseqW (wS (mset 5 (mcall m_Z6 (acons (mvar 0) (acons (mvar 2) anil))))) (mseqW (wS (mset 6 (mlst (mcomp [none, none, some 4, some 1, some 5] (mlist enum1 (acons (mvar 5) anil)) (.tp [0, 1]) cyes (mite (mtest (m2 (inD false) (mvar 0) (mvar 2))) (mvar 1) (m2 subD (mvar 3) (mminL (mpick (bvar 4) (osome (m2 subD (mvar 0) (mc (.int 1)))) (osome (m2 addD (mvar 0) (mc (.int 2)))) (osome (mc (.int 2))))))))))) (mretFW (mcallF m_Z6 (acons (mvar 6) (acons (mvar 2) anil))))))))
def m_made_wavy : MFW := runW 7 b_made_wavy
def b_Z7 : MS := (mretF (sized (acons (call1 absF (acons (mvar 0) anil)) (acons (m2 modD (m2 mulD (m2 addD (m2 modD (mvar 0) (mc (.int 2147483647))) (mc (.int 1))) (mc (.int 742938285))) (mc (.int 2147483647))) anil))))
def m_Z7 : MF := runB 1 b_Z7
def b_Z4 : MS := (mseq (mif (mtest (m2 geD (mix (bvar 0) (mc (.int 0))) (m2 powD (mc (.int 10)) (mc (.int 18))))) (mseq (mset 2 (m2 modD (mix (bvar 0) (mc (.int 0))) (mvar 1))) (mseq (msetix 0 (mc (.int 0)) (m2 fdivD (mix (bvar 0) (mc (.int 0))) (mvar 1))) (mretG 0 (mpu (mvar 2))))) mnext) (mseq (msetix 0 (mc (.int 1)) (m2 modD (m2 addD (m2 mulD (mix (bvar 0) (mc (.int 1))) (mc (.int 48271))) (mc (.int 11))) (mc (.int 2147483647)))) (mseq (mset 3 (m2 modD (m2 mulD (mix (bvar 0) (mc (.int 1))) (mix (bvar 0) (mc (.int 1)))) (mc (.int 2147483629)))) (mretG 0 (mpu (m2 modD (m2 fdivD (m2 modD (m2 mulD (mvar 3) (mc (.int 69621))) (mc (.int 2147483587))) (mc (.int 8))) (mvar 1)))))))
def m_Z4 : MG := runG 4 b_Z4
def b_Z10_f0 : MS := (mseq (msetm 7 (mcallG m_Z4 0 (apu (acons (mvar 4) anil)))) (mseq (mif (mtest (m2 eqSD (mvar 3) (mc (.int 1)))) (mset 7 (m2 subD (mvar 7) (m2 fdivD (mvar 4) (mc (.int 2))))) mnext) (mseq (mif (mtest (m2 eqSD (mvar 3) (mc (.int 2)))) (mset 7 (m2 subD (m2 mulD (mvar 7) (m2 powD (mc (.int 10)) (mc (.int 27)))) (m2 mulD (mvar 4) (m2 powD (mc (.int 10)) (mc (.int 26)))))) mnext) (mseq (mif (mtest (m2 eqSD (mvar 3) (mc (.int 3)))) (mset 7 (mix (sized (acons (mvar 7) (acons (m2 addD (mvar 4) (mvar 7)) anil))) (m2 modD (mvar 6) (mc (.int 2))))) mnext) (mseq (mif (mtest (m2 eqSD (mvar 3) (mc (.int 4)))) (mset 7 (m2 addD (mvar 7) (mvar 6))) mnext) (mseq (mif (mtest (m2 eqSD (mvar 3) (mc (.int 5)))) (msetm 7 (m2m mulD (call1m intF (aconsm (m2m eqSD (mcallG m_Z4 0 (apu (acons (mc (.int 4)) anil))) (mpu (mc (.int 0)))) (apu anil))) (mpu (mvar 7)))) mnext) (mapp 5 (mvar 7))))))))
def b_Z10 : MS := (mseq (msetm 2 (m2m ixLD (mlstm (aconsm (mcallG m_Z4 0 (apu (acons (m2 addD (mvar 1) (mc (.int 1))) anil))) (aconsm (mpu (mvar 1)) (aconsm (mcallG m_Z4 0 (apu (acons (m2 addD (call1 min2F (acons (mvar 1) (acons (mc (.int 4)) anil))) (mc (.int 1))) anil))) (apu anil))))) (mcallG m_Z4 0 (apu (acons (mc (.int 3)) anil))))) (mseq (msetm 3 (mcallG m_Z4 0 (apu (acons (mc (.int 6)) anil)))) (mseq (msetm 4 (m2m ixLD (mpu (mlst (sized (acons (mc (.int 2)) (acons (mc (.int 4)) (acons (mc (.int 10)) (acons (mc (.int 100)) anil))))))) (mcallG m_Z4 0 (apu (acons (mc (.int 4)) anil))))) (mseq (msetF 5 (sized anil)) (mseq (mfor (mlist rng1 (acons (mvar 2) anil)) (.nm 6) b_Z10_f0) (mretGO 0 5))))))
def m_Z10 : MG := runG 8 b_Z10
def b_Z8 : MS := (mseq (msetm 2 (mlstm (aconsm (mpu (mc (.int 1))) (aconsm (mpu (mc (.int 1))) (aconsm (m2m addD (mpu (mc (.int 1))) (mcallG m_Z4 0 (apu (acons (mc (.int 4)) anil)))) (aconsm (m2m addD (mpu (mc (.int 1))) (mcallG m_Z4 0 (apu (acons (mc (.int 100)) anil)))) (apu (acons (m2 powD (mc (.int 10)) (mc (.int 27))) (acons (m2 powD (mc (.int 10)) (mc (.int 29))) anil))))))))) (mseq (mif (mtest (meqB true (bvar 1) (sized anil))) (mseq (msetm 3 (call1m absF (aconsm (m2m subD (m2m ixLD (mpu (mvar 1)) (mcallG m_Z4 0 (apu (acons (mlen (bvar 1)) anil)))) (m2m ixLD (mpu (mvar 1)) (mcallG m_Z4 0 (apu (acons (mlen (bvar 1)) anil))))) (apu anil)))) (mset 2 (mlst (mcat (bvar 2) (sized (acons (call1 max2F (acons (mc (.int 1)) (acons (mvar 3) anil))) (acons (m2 addD (mvar 3) (mc (.int 1))) anil))))))) mnext) (mretG 0 (m2m ixLD (mpu (mvar 2)) (mcallG m_Z4 0 (apu (acons (mlen (bvar 2)) anil)))))))
def m_Z8 : MG := runG 4 b_Z8
def b_Z5_f0 : MS := (mseq (mset 4 (mix (bvar 0) (mix (bvar 2) (m2 subD (mvar 3) (mc (.int 1)))))) (mseq (mset 5 (m2 subD (mix (bvar 0) (mix (bvar 2) (mvar 3))) (mvar 4))) (mseq (mif (mtest (m2 ltD (call1 absF (acons (mvar 5) anil)) (mvar 1))) (mret (mc (.bl false))) mnext) (mif (cand (mtest (m2 gtD (mvar 3) (mc (.int 1)))) (mtest (m2 eqSD (m2 gtD (mvar 5) (mc (.int 0))) (m2 gtD (mvar 4) (mix (bvar 0) (mix (bvar 2) (m2 subD (mvar 3) (mc (.int 2))))))))) (mret (mc (.bl false))) mnext))))
def b_Z5 : MS := (mseq (mfor (mlist rng2 (acons (mc (.int 1)) (acons (mlen (bvar 2)) anil))) (.nm 3) b_Z5_f0) (mret (mc (.bl true))))
def m_Z5 : MF := runB 6 b_Z5
def b_Z1 : MS := (mret (m2 geD (m2 mulD (m2 mulD (m2 subD (mix (bvar 0) (m2 addD (mvar 2) (mc (.int 1)))) (mix (bvar 0) (mvar 2))) (mvar 3)) (mix (sized (acons (mc (.int 1)) (acons (m1 negD (mc (.int 1))) anil))) (m2 modD (mvar 2) (mc (.int 2))))) (mvar 1)))
def m_Z1 : MF := runB 4 b_Z1
def b_law_kept_f0 : MW := (mseqW (msetR 4 (mvar 5) (mc (.int 0)) (lookE (call1 max2F (acons (m2 addD (mc (.int 1)) (mix (aslst (mix (bvar 4) (m2 addD (mvar 5) (mc (.int 1))))) (mc (.int 1)))) (acons (mix (aslst (mix (bvar 4) (m2 addD (mvar 5) (mc (.int 1))))) (mc (.int 0))) anil))))) (mseqW (msetR 4 (mvar 5) (mc (.int 1)) (lookE (mix (aslst (mix (bvar 4) (m2 addD (mvar 5) (mc (.int 1))))) (mc (.int 0))))) (mifW (wE (cor (mtest (m2 eqSD (mvar 5) (mc (.int 0)))) (mtru (mcall m_Z1 (acons (mvar 0) (acons (mvar 1) (acons (m2 subD (mvar 5) (mc (.int 1))) (acons (mvar 2) anil)))))))) (msetR 4 (mvar 5) (mc (.int 1)) (lookE (mix (aslst (mix (bvar 4) (mvar 5))) (mc (.int 0))))) (wS mnext))))
def b_law_kept_f1 : MW := (mseqW (wS (mset 7 (call1 intF (acons (meqB false (mcut (bvar 6) (osome (m1 negD (mc (.int 1)))) onone) (sized (acons (m2 subD (mvar 5) (mc (.int 1))) anil))) anil)))) (mseqW (wS (mset 8 (mor (m2 eqSD (mvar 7) (mc (.int 0))) (mcall m_Z1 (acons (mvar 0) (acons (mvar 1) (acons (m2 subD (mvar 5) (mc (.int 1))) (acons (mvar 2) anil)))))))) (mifW (lookB (cand (mtru (mvar 8)) (mtest (m2 geD (m2 addD (mc (.int 1)) (mix (aslst (mix (bvar 4) (m2 addD (mvar 5) (mc (.int 1))))) (mc (.int 1)))) (mix (aslst (mix (bvar 4) (m2 addD (mvar 5) (mc (.int 1))))) (mc (.int 0))))))) (wS (mapp 6 (mvar 5))) (wS mnext))))
def b_law_kept_r2 : MW := (mretOW 6)
def b_law_kept_r3 : MW := (mseqW (wS (msetF 6 (sized anil))) (mseqW (mforW (mlist rng1 (acons (mvar 3) anil)) (.nm 5) b_law_kept_f1) b_law_kept_r2))
def b_law_kept_r4 : MW := (mseqW (mforW (mlist rng3 (acons (m2 subD (mvar 3) (mc (.int 1))) (acons (m1 negD (mc (.int 1))) (acons (m1 negD (mc (.int 1))) anil)))) (.nm 5) b_law_kept_f0) b_law_kept_r3)
def b_law_kept : MW := (mseqW (wS (mset 3 (mlen (bvar 0)))) (mnewR 4 (mcompP [none] (mlist rng1 (acons (m2 addD (mvar 3) (mc (.int 1))) anil)) (.nm 0) (sized (acons (mc (.int 0)) (acons (mc (.int 0)) anil)))) b_law_kept_r4))
def m_law_kept : MF := plainW (runW 9 b_law_kept)
def b_Z3 : MS := (mseq (mset 3 (mcall m_law_kept (acons (mvar 0) (acons (mvar 1) (acons (mvar 2) anil))))) (mret (mtup (acons (m2 subD (mlen (bvar 0)) (mlen (bvar 3))) (acons (mvar 3) anil)))))
def m_Z3 : MF := runB 4 b_Z3
def b_law_f0 : MW := (mseqW (wS (msetF 3 (mcallF m_Z7 (acons (mvar 2) anil)))) (mseqW (wS (msetm 4 (mcallG m_Z10 3 (aconsm (m2m ixLD (mpu (mlst (sized (acons (mc (.int 60)) (acons (mc (.int 300)) anil))))) (call1m intF (aconsm (mandm (mpu (m2 eqSD (mvar 1) (mc (.int 0)))) (m2m eqSD (mcallG m_Z4 3 (apu (acons (mc (.int 8)) anil))) (mpu (mc (.int 0))))) (apu anil)))) (apu anil))))) (mseqW (wS (msetm 5 (mcallG m_Z8 3 (apu (acons (mvar 4) anil))))) (mseqW (wS (mset 6 (m2 ixTD (mminP (mcomp [none, some 4, some 5] (astup (mtup (acons (mc (.int 1)) (acons (m1 negD (mc (.int 1))) anil)))) (.nm 0) cyes (mcall m_Z3 (acons (mvar 1) (acons (mvar 2) (acons (mvar 0) anil)))))) (mc (.int 1))))) (mseqW (wS (mset 7 (mlst (bvar 4)))) (mseqW (msetXF 8 m_made_wavy (acons (mvar 7) (acons (mvar 5) anil))) (mseqW (mifW (wE (mborB 8 (cor (cnot (mtru (misi "list" (mvar 8)))) (cor (mtest (m2 neSD (mlen (bvar 8)) (mlen (bvar 4)))) (mtest (meqB true (bvar 7) (bvar 4))))))) (mretW (wE (mc (.bl false)))) (wS mnext)) (mseqW (mifW (wE (mborB 8 (mtest (meqB true (mcomp [none] (aslst (mvar 8)) (.nm 0) (cor (mtru (misi "bool" (mvar 0))) (cnot (mtru (misi "int" (mvar 0))))) (mc (.int 1))) (sized anil))))) (mretW (wE (mc (.bl false)))) (wS mnext)) (mseqW (mifW (wE (mborB 8 (mtest (meqB true (mcomp [none, some 8, some 4] (mlist rng1 (acons (mlen (bvar 4)) anil)) (.nm 0) (mtest (m2 eqSD (mix (bvar 1) (mvar 0)) (mix (bvar 2) (mvar 0)))) (mvar 0)) (bvar 6))))) (mretW (wE (mc (.bl false)))) (wS mnext)) (mseqW (mifW (wE (mborB 8 (cnot (mtru (mcall m_Z5 (acons (mvar 8) (acons (mvar 5) (acons (mlst (mlist lrng1 (acons (mlen (bvar 4)) anil))) anil)))))))) (mretW (wE (mc (.bl false)))) (wS mnext)) (mseqW (wS (mset 9 (mlst (bvar 8)))) (mseqW (wS (mapp 8 (mc (.int 0)))) (mifX (mcmpX (eqFD true) (mcallW m_made_wavy (acons (mvar 7) (acons (mvar 5) anil))) (mvar 9)) (mretW (wE (mc (.bl false)))) (wS mnext))))))))))))))
def b_law_r1 : MW := (mretW (wE (mc (.bl true))))
def b_law : MW := (mseqW (mforW (mlist enum1 (acons (mlst (mcat (mcut (bvar 0) onone (osome (mc (.int 4)))) (sized (acons (mlen (bvar 0)) anil)))) anil)) (.tp [1, 2]) b_law_f0) b_law_r1)
def m_law : MFW := runW 10 b_law
end
end
section
theorem eqS_ii (i j : Int) : eqS (.int i) (.int j) = some (i == j) := rfl
theorem eqS_bb (i j : Bool) : eqS (.bl i) (.bl j) = some (i == j) := rfl
theorem eqS_ss (i j : Str) : eqS (.str i) (.str j) = some (i == j) := rfl
theorem eqS_nn : eqS .non .non = some true := rfl
theorem eqS_nb (j : Bool) : eqS .non (.bl j) = some false := rfl
theorem eqS_bn (j : Bool) : eqS (.bl j) .non = some false := rfl
theorem eqS_ni (j : Int) : eqS .non (.int j) = some false := rfl
theorem eqS_in (j : Int) : eqS (.int j) .non = some false := rfl
local macro_rules | `(tactic| simp_arith [$ls,*]) => `(tactic| simp (config := {decide := true, implicitDefEqProofs := false}) only [runB, startS, map_cons, map_nil, length_cons, length_nil, List.replicate, cons_append, nil_append, mvar, bvar, mc, mlst, aslst, m2, mtest, subD, mulD, fdivD, modD, powD, ltD, leD, gtD, geD, eqSD, neSD, eqS_ii, eqS_bb, eqS_ss, eqS_nn, eqS_nb, eqS_bn, eqS_ni, eqS_in, m1, negD, mor, mtru, truD, cand, cor, cnot, mite, anil, acons, sized, mtup, mlen, mix, onone, osome, mcut, mcat, addD, call1, absF, max2F, min2F, two2, intF, mnext, mseq, mif, mnever, mset, msetF, mexpr, mret, mretF, mretO, mapp, msetix, masg, mlist, enum1, cyes, mcall, mcallF, meqB, misi, tyD, int2, tgD, setAll, Option.bind_some, Option.map_some, Option.bind_none, Option.map_none, getElem?_cons_zero, getElem?_cons_succ, set_cons_zero, set_cons_succ, isEmpty_cons, isEmpty_nil, Bool.not_true, Bool.not_false, $ls,*])
def stir (c k : Int) : Int := if 10 ^ 18 <= c then (c - 10 ^ 18) / 2 ^ (28 * k).toNat % 2 ^ 28 else
 (((c + 1013 * k + 1) * 16807 % 2147483647) * ((c + 1013 * k + 1) * 16807 % 2147483647) % 2147483629) * 39373 % 2147483587 / 8
theorem mulOk_r (i j : Int) (h1 : -(2 ^ 64) < j) (h2 : j < 2 ^ 64) : mulOk i j = true := by
 unfold mulOk; simp only [h1, h2, decide_true, Bool.and_self, Bool.or_true]
theorem mulOk_l (i j : Int) (h1 : -(2 ^ 64) < i) (h2 : i < 2 ^ 64) : mulOk i j = true := by
 unfold mulOk; simp only [h1, h2, decide_true, Bool.and_self, Bool.true_or]
theorem modOk_of (i j : Int) (h : 0 < j) : modOk i j = true := by unfold modOk; simp only [h, decide_true]
theorem seqI {x y : MS} {ρ ρ' : Ro} {o : Option Out} (h : x ρ = some (.nx ρ')) (h2 : y ρ' = o) : mseq x y ρ = o := by
 unfold mseq; rw [h]; exact h2
def stepO {α : Type} (I : List α -> Ro -> Prop) (Q : Out -> Prop) (ds : List α) : Out -> Prop
 | .nx ρ => I ds ρ | .ct ρ => I ds ρ | .bk ρ => Q (.nx ρ) | .rt d => Q (.rt d) | .rf es => Q (.rf es) | .rp d es => Q (.rp d es) | .rg d p r => Q (.rg d p r) | .rgf d p r => Q (.rgf d p r)
theorem forD_post {α : Type} {g : Tg} {body : MS} {f : α -> D} (I : List α -> Ro -> Prop) (Q : Out -> Prop)
  (hs : ∀ d ds ρ, I (d :: ds) ρ -> ∃ ρ1 o, tgD g (f d) ρ = some ρ1 /\ body ρ1 = some o /\ stepO I Q ds o) (hd : ∀ ρ, I [] ρ -> Q (.nx ρ)) :
  ∀ (ds : List α) (ρ : Ro), I ds ρ -> ∃ o, forD g body (ds.map f) ρ = some o /\ Q o
 | [], ρ, h => ⟨.nx ρ, rfl, hd ρ h⟩
 | d :: ds, ρ, h => by
  obtain ⟨ρ1, o, h1, h2, h3⟩ := hs d ds ρ h
  rw [map_cons]
  unfold forD
  rw [h1]
  simp only [h2]
  cases o with
  | nx ρ2 => exact forD_post I Q hs hd ds ρ2 h3
  | ct ρ2 => exact forD_post I Q hs hd ds ρ2 h3
  | bk ρ2 => exact ⟨_, rfl, h3⟩
  | rt d => exact ⟨_, rfl, h3⟩
  | rf d => exact ⟨_, rfl, h3⟩
  | rp d es => exact ⟨_, rfl, h3⟩
  | rg d p r => exact ⟨_, rfl, h3⟩
  | rgf d p r => exact ⟨_, rfl, h3⟩
theorem compD_map {α : Type} {g : Tg} {c : MB} {elt : ME} {f : α -> D} {G : α -> D} (I : List α -> Ro -> Prop)
  (hs : ∀ d ds ρ, I (d :: ds) ρ -> ∃ ρ1, tgD g (f d) ρ = some ρ1 /\ c ρ1 = some true /\ elt ρ1 = some (G d) /\ I ds ρ1) :
  ∀ (ds : List α) (ρ : Ro) (acc : List D), I ds ρ -> acc.length + ds.length <= sizeLine -> compD g c elt (ds.map f) ρ acc = some (acc ++ ds.map G)
 | [], ρ, acc, h, hl => by simp [compD]
 | d :: ds, ρ, acc, h, hl => by
  obtain ⟨ρ1, h1, h2, h3, h4⟩ := hs d ds ρ h
  rw [map_cons]
  unfold compD
  rw [h1]
  simp only [h2, h3]
  rw [length_cons] at hl
  rw [if_pos (by omega), compD_map I hs ds ρ1 _ h4 (by simp; omega)]
  simp
def cutI {α : Type} (xs : List α) (lo hi : Option Int) : List α := (xs.drop (HT.sIx xs.length 0 lo)).take (HT.sIx xs.length xs.length hi - HT.sIx xs.length 0 lo)
theorem cutL_map {α : Type} (f : α -> D) (xs : List α) (lo hi : Option Int) : cutL (xs.map f) lo hi = (cutI xs lo hi).map f := by
 unfold cutL cutI; rw [length_map, <- map_drop, <- map_take]
theorem cutI_to {α : Type} (xs : List α) (k : Nat) : cutI xs none (some (k : Int)) = xs.take k := by
 unfold cutI
 rw [HT.sIx_nat, HT.sIx_none]
 simp
theorem atI_map {α : Type} (f : α -> D) (xs : List α) (k : Int) (h0 : 0 <= k) (h1 : k < xs.length) (dflt : α) : atI (xs.map f) k = some (f (xs.getD k.toNat dflt)) := by
 unfold atI ixN
 rw [length_map, if_pos h0, if_pos h1]
 have hl : k.toNat < xs.length := by omega
 simp [getElem?_map, hl]
theorem runB_rt {n : Nat} {m : MS} {ds : List D} {d : D} (h : m (startS n ds) = some (.rt d)) : runB n m ds = some (.sh d) := by unfold runB; rw [h]
theorem runB_rf {n : Nat} {m : MS} {ds : List D} {d : List D} (h : m (startS n ds) = some (.rf d)) : runB n m ds = some (.fr d) := by unfold runB; rw [h]
def after (rest : MS) : Out -> Option Out
 | .nx ρ => rest ρ | .bk ρ => some (.bk ρ) | .ct ρ => some (.ct ρ) | .rt d => some (.rt d) | .rf d => some (.rf d) | .rp d es => some (.rp d es) | .rg d p r => some (.rg d p r) | .rgf d p r => some (.rgf d p r)
theorem seq_after {x y : MS} {ρ : Ro} {o : Out} (h : x ρ = some o) : mseq x y ρ = after y o := by
 unfold mseq; rw [h]; cases o <;> rfl
theorem seq_for {α : Type} {mi : ML} {g : Tg} {body rest : MS} {ρ : Ro} {res : Option Out} {f : α -> D} (ds : List α) (hi : mi ρ = some (ds.map f)) (I : List α -> Ro -> Prop) (Q : Out -> Prop) (h0 : I ds ρ)
  (hs : ∀ d ds ρ, I (d :: ds) ρ -> ∃ ρ1 o, tgD g (f d) ρ = some ρ1 /\ body ρ1 = some o /\ stepO I Q ds o) (hd : ∀ ρ, I [] ρ -> Q (.nx ρ)) (hq : ∀ o, Q o -> after rest o = res) : mseq (mfor mi g body) rest ρ = res := by
 obtain ⟨o, e, q⟩ := forD_post (g := g) (body := body) I Q hs hd ds ρ h0
 rw [seq_after (o := o) (by unfold mfor; rw [hi]; exact e)]
 exact hq o q
theorem max_if (i j : Int) : (if j > i then j else i) = max i j := by omega
theorem min_if (i j : Int) : (if j < i then j else i) = min i j := by omega
theorem size_big : 1000000 <= sizeLine := by rw [show sizeLine = 2 ^ 24 from rfl]; decide
theorem le_size {n : Nat} (h : n <= 1000000) : n <= sizeLine := Nat.le_trans h size_big
theorem range_cons (j n : Nat) (h : j < n) : List.range' j (n - j) = j :: List.range' (j + 1) (n - (j + 1)) := by
 have : n - j = (n - (j + 1)) + 1 := by omega
 rw [this, range'_succ]
theorem seq_forN {mi : ML} {g : Tg} {body rest : MS} {ρ : Ro} {res : Option Out} {f : Nat -> D} (n : Nat) (hi : mi ρ = some ((List.range n).map f)) (I : Nat -> Ro -> Prop) (Q : Out -> Prop) (h0 : I 0 ρ)
  (hs : ∀ j ρ, j < n -> I j ρ -> ∃ ρ1 o, tgD g (f j) ρ = some ρ1 /\ body ρ1 = some o /\ stepO (fun (_ : List Unit) ρ => I (j + 1) ρ) Q [] o) (hd : ∀ ρ, I n ρ -> Q (.nx ρ)) (hq : ∀ o, Q o -> after rest o = res) : mseq (mfor mi g body) rest ρ = res := by
 refine seq_for (List.range n) hi (I := fun ks ρ => ∃ j, j <= n /\ ks = List.range' j (n - j) /\ I j ρ) (Q := Q) ⟨0, by omega, by rw [range_eq_range']; rfl, h0⟩ ?_ ?_ hq
 ·rintro d ds ρ ⟨j, hj, e, h⟩
  have hlt : j < n := by
   rcases Nat.lt_or_ge j n with z | z
   ·exact z
   ·rw [show n - j = 0 by omega] at e; cases e
  rw [range_cons j n hlt] at e
  obtain ⟨e1, e2⟩ := List.cons.inj e
  subst e1
  obtain ⟨ρ1, o, a1, a2, a3⟩ := hs d ρ hlt h
  refine ⟨ρ1, o, a1, a2, ?_⟩
  cases o with
  | nx r => exact ⟨d + 1, by omega, e2, a3⟩
  | ct r => exact ⟨d + 1, by omega, e2, a3⟩
  | bk r => exact a3
  | rt r => exact a3
  | rf r => exact a3
  | rp r r2 => exact a3
  | rg r r2 r3 => exact a3
  | rgf r r2 r3 => exact a3
 ·rintro ρ ⟨j, hj, e, h⟩
  have : n - j = 0 := by
   rcases Nat.eq_zero_or_pos (n - j) with z | z
   ·exact z
   ·rw [range_cons j n (by omega)] at e; cases e
  have : j = n := by omega
  subst this
  exact hd ρ h
theorem mod_cases {x n : Int} (hn : 0 < n) : 0 <= x % n /\ x % n < n := ⟨Int.emod_nonneg _ (by omega), Int.emod_lt_of_pos _ hn⟩
theorem nat_of {x : Int} (h : 0 <= x) : ∃ n : Nat, x = n := ⟨x.toNat, by omega⟩
theorem rangeD_map (lo : Int) (n : Nat) : rangeD lo n = (List.range n).map fun (i : Nat) => D.int (lo + (i : Int)) := rfl
theorem rangeD_li (n : Nat) : rangeD 0 n = ((List.range n).map fun (i : Nat) => (i : Int)).map .int := by
 rw [rangeD_map, map_map]
 apply map_congr_left
 intro i _
 simp
theorem okR_of {j : Int} (h1 : -(2 ^ 62) <= j) (h2 : j < 2 ^ 62) : okR j = true := by unfold okR; simp only [h1, h2, decide_true, Bool.and_self]
theorem rng1_ok {j : Int} (h : okR j = true) : rng1 [.int j] = some (rangeD 0 j.toNat) := by
 unfold rng1
 simp only [h, if_true]
theorem rng2_ok {i j : Int} (h : okR i = true) (h2 : okR j = true) : rng2 [.int i, .int j] = some (rangeD i (j - i).toNat) := by
 unfold rng2
 simp only [h, h2, Bool.and_self, if_true]
theorem lrng1_ok {n : Nat} (h : n <= 1000000) : lrng1 [.int n] = some (((List.range n).map fun (i : Nat) => (i : Int)).map .int) := by
 have h1 : okR (n : Int) = true := okR_of (by omega) (by omega)
 have h2 : (decide ((n : Int).toNat <= 2 ^ 24)) = true := decide_eq_true (by rw [Int.toNat_natCast]; exact Nat.le_trans h (by decide))
 unfold lrng1
 simp only [h1, h2, Bool.and_self, if_true]
 rw [Int.toNat_natCast, rangeD_li]
theorem fdivOk_of (i j : Int) (h : 0 < j) (h2 : j < 1073741824) : fdivOk i j = true := by unfold fdivOk; simp only [h, h2, decide_true, Bool.and_self]
theorem at4 (a b c d : Int) (k : Int) (h0 : 0 <= k) (h1 : k < 4) : ∃ x, atI [D.int a, .int b, .int c, .int d] k = some (.int x) /\ (x = a \/ x = b \/ x = c \/ x = d) := by
 have : k = 0 \/ k = 1 \/ k = 2 \/ k = 3 := by omega
 rcases this with h | h | h | h <;> subst h
 ·exact ⟨_, rfl, by simp⟩
 ·exact ⟨_, rfl, by simp⟩
 ·exact ⟨_, rfl, by simp⟩
 ·exact ⟨_, rfl, by simp⟩
theorem at2 (a b : Int) (k : Int) (h0 : 0 <= k) (h1 : k < 2) : ∃ x, atI [D.int a, .int b] k = some (.int x) := by
 have : k = 0 \/ k = 1 := by omega
 rcases this with h | h <;> subst h <;> exact ⟨_, rfl⟩
theorem enumL_map : ∀ (row : List Int) (k : Nat), enumL k (row.map .int) = (List.range row.length).map fun (i : Nat) => D.tup [.int ((k + i : Nat) : Int), .int (row.getD i 0)]
 | [], k => rfl
 | x :: row, k => by
  rw [map_cons, enumL, enumL_map row (k + 1), length_cons, range_succ_eq_map, map_cons, map_map]
  congr 1
  apply map_congr_left
  intro i _
  simp only [Function.comp, Nat.succ_eq_add_one, getD_cons_succ]
  rw [show k + 1 + i = k + (i + 1) by omega]
theorem eq_nilT (ds : List D) : eqFD true (.lst ds) (.lst []) = some (.bl (!ds.isEmpty)) := by
 unfold eqFD eqF
 cases ds with
 | nil => rfl
 | cons d ds => rfl
theorem ixN_in {n : Nat} {k : Int} (h0 : 0 <= k) (h1 : k < n) : ixN n k = some k.toNat := by unfold ixN; rw [if_pos h0, if_pos h1]
theorem zipE_int (n : Nat) : ∀ xs : List Int, zipE (eqF (n + 1)) (xs.map .int) (xs.map .int) = some true
 | [] => rfl
 | x :: xs => by
  rw [map_cons, zipE, zipE_int n xs]
  show (some (x == x)).bind _ = _
  rw [beq_self_eq_true]; rfl
theorem eqF_li (n : Nat) (xs : List Int) : eqF (n + 2) (.lst (xs.map .int)) (.lst (xs.map .int)) = some true := by
 show (if _ = _ then zipE (eqF (n + 1)) (xs.map .int) (xs.map .int) else some false) = _
 rw [if_pos rfl, zipE_int]
theorem mcall_fr {f : MF} {m : ML} {ρ : Ro} {ds es : List D} (h : m ρ = some ds) (h2 : f ds = some (.fr es)) : mcall f m ρ = some (.lst es) := by
 unfold mcall; rw [h]; show (match f ds with | some (.sh d) => some d | some (.fr es) => some (D.lst es) | some (.pr d es) => some (.tup [d, .lst es]) | none => none) = _; rw [h2]
theorem mcall_sh {f : MF} {m : ML} {ρ : Ro} {ds : List D} {d : D} (h : m ρ = some ds) (h2 : f ds = some (.sh d)) : mcall f m ρ = some d := by
 unfold mcall; rw [h]; show (match f ds with | some (.sh d) => some d | some (.fr es) => some (D.lst es) | some (.pr d es) => some (.tup [d, .lst es]) | none => none) = _; rw [h2]
theorem acons_ev {x : ME} {r : ML} {ρ : Ro} {d : D} {ds : List D} (h : x ρ = some d) (h2 : r ρ = some ds) : acons x r ρ = some (d :: ds) := by
 unfold acons; rw [h, h2]; rfl
theorem anil_ev {ρ : Ro} : anil ρ = some [] := rfl
theorem at_nat (row : List Int) (i : Nat) (h : i < row.length) : atI (row.map D.int) (i : Int) = some (.int (row.getD i 0)) := by
 have := atI_map D.int row (i : Int) (by omega) (by omega) 0
 rw [Int.toNat_natCast] at this
 exact this
theorem drop_getD (row : List Int) (i : Nat) (h : i < row.length) : row.drop i = row.getD i 0 :: row.drop (i + 1) := by
 rw [drop_eq_getElem_cons h]
 simp [h]
theorem flVs_ints : ∀ ps : List Int, flVs (ps.map D.int) = some (ps.map V.int)
 | [] => rfl
 | p :: ps => by
  rw [map_cons, flVs, flVs_ints ps]; rfl
theorem mminL_ev {m : ML} {ρ : Ro} {x : Int} {r : List Int} (h : m ρ = some ((x :: r).map .int)) : mminL m ρ = some (.int (minI (x :: r))) := by
 unfold mminL; rw [h]; simp only [intsD_map]
theorem compD_filter {α : Type} {g : Tg} {c : MB} {elt : ME} {f : α -> D} {p : α -> Bool} {G : α -> D} (I : List α -> Ro -> Prop)
  (hs : ∀ d ds ρ, I (d :: ds) ρ -> ∃ ρ1, tgD g (f d) ρ = some ρ1 /\ c ρ1 = some (p d) /\ (p d = true -> elt ρ1 = some (G d)) /\ I ds ρ1) :
  ∀ (ds : List α) (ρ : Ro) (acc : List D), I ds ρ -> acc.length + ds.length <= sizeLine -> compD g c elt (ds.map f) ρ acc = some (acc ++ (ds.filter p).map G)
 | [], ρ, acc, h, hl => by simp [compD]
 | d :: ds, ρ, acc, h, hl => by
  obtain ⟨ρ1, h1, h2, h3, h4⟩ := hs d ds ρ h
  rw [length_cons] at hl
  rw [map_cons]
  unfold compD
  rw [h1]
  simp only [h2]
  cases hp : p d with
  | false =>
   simp only
   rw [compD_filter I hs ds ρ1 acc h4 (by omega), filter_cons, hp]
   rfl
  | true =>
   simp only [h3 hp]
   rw [if_pos (by omega), compD_filter I hs ds ρ1 _ h4 (by simp; omega), filter_cons, hp]
   simp
theorem eqB_nil {m : ML} {ρ : Ro} {ds : List D} (h : m ρ = some ds) : mtest (meqB true m (sized anil)) ρ = some (!ds.isEmpty) := by
 have i0 : 0 <= sizeLine := Nat.zero_le _
 have e : sized anil ρ = some [] := by simp_arith [i0, if_true]
 unfold mtest meqB
 rw [h, e]
 simp only [Option.bind_some, eq_nilT]
theorem cor_ev {x y : MB} {ρ : Ro} {a b : Bool} (h1 : x ρ = some a) (h2 : y ρ = some b) : cor x y ρ = some (a || b) := by
 unfold cor; rw [h1]; cases a <;> simp [h2]
theorem cand_ev {x y : MB} {ρ : Ro} {a b : Bool} (h1 : x ρ = some a) (h2 : y ρ = some b) : cand x y ρ = some (a && b) := by
 unfold cand; rw [h1]; cases a <;> simp [h2]
theorem mset_ev {i : Nat} {x : ME} {ρ : Ro} {d : D} (h : x ρ = some d) : mset i x ρ = some (.nx (ρ.set i (some (.sh d)))) := by unfold mset; rw [h]; rfl
theorem mlst_ev {m : ML} {ρ : Ro} {ds : List D} (h : m ρ = some ds) : mlst m ρ = some (.lst ds) := by unfold mlst; rw [h]; rfl
theorem sized_ev {m : ML} {ρ : Ro} {ds : List D} (h : m ρ = some ds) (hz : ds.length <= sizeLine) : sized m ρ = some ds := by
 unfold sized; rw [h]; show (if ds.length <= sizeLine then some ds else none) = _; rw [if_pos hz]
theorem mix_ev {m : ML} {i : ME} {ρ : Ro} {ds : List D} {k : Int} {d : D} (h1 : m ρ = some ds) (h2 : i ρ = some (.int k)) (h3 : atI ds k = some d) : mix m i ρ = some d := by
 unfold mix; rw [h1, h2]; exact h3
theorem aslst_ev {m : ME} {ρ : Ro} {ds : List D} (h : m ρ = some (.lst ds)) : aslst m ρ = some ds := by unfold aslst; rw [h]
theorem mcat_ev {x y : ML} {ρ : Ro} {ds es : List D} (h1 : x ρ = some ds) (h2 : y ρ = some es) (hz : ds.length + es.length <= sizeLine) : mcat x y ρ = some (ds ++ es) := by
 unfold mcat; rw [h1, h2]; show (if ds.length + es.length <= sizeLine then some (ds ++ es) else none) = _; rw [if_pos hz]
theorem mtup_ev {m : ML} {ρ : Ro} {ds : List D} (h : m ρ = some ds) (hz : ds.length <= sizeLine) : mtup m ρ = some (.tup ds) := by
 unfold mtup; rw [sized_ev h hz]; rfl
theorem mret_ev {x : ME} {ρ : Ro} {d : D} (h : x ρ = some d) : mret x ρ = some (.rt d) := by unfold mret; rw [h]; rfl
section
open PySem L2
def lx : List Nat -> List Nat -> Bool
 | [], [] => false
 | [], _ :: _ => true
 | _ :: _, [] => false
 | a :: l, b :: m => decide (a < b) || (a == b && lx l m)
def ahead (l m : List Nat) : Bool := decide (m.length < l.length) || (l.length == m.length && lx l m)
theorem ahead_iff (l m : List Nat) : ahead l m = true ↔ m.length < l.length \/ (l.length = m.length /\ lx l m = true) := by
 unfold ahead
 simp only [Bool.or_eq_true, Bool.and_eq_true, decide_eq_true_eq, beq_iff_eq]
def Best (P : List Nat -> Prop) (l : List Nat) : Prop := P l /\ ∀ m, P m -> ahead m l = false
theorem Best.len {P : List Nat -> Prop} {l : List Nat} (a : Best P l) (m : List Nat) (h : P m) : m.length <= l.length := by
 have := a.2 m h
 rcases Nat.lt_or_ge l.length m.length with z | z
 ·rw [(ahead_iff m l).mpr (.inl z)] at this; cases this
 ·exact z
def far (s : Int) (d : Bool) (a b : Int) : Prop := if d then s <= b - a else s <= a - b
instance (s : Int) (d : Bool) (a b : Int) : Decidable (far s d a b) := by unfold far; exact inferInstance
def Wd (x : Nat -> Int) (n : Nat) (s : Int) : Bool -> List Nat -> Prop
 | _, [] => False
 | _, [p] => p < n
 | d, p :: q :: l => p < q /\ far s d (x p) (x q) /\ Wd x n s (!d) (q :: l)
variable {x : Nat -> Int} {n : Nat} {s : Int}
theorem Wd.lt : ∀ {l : List Nat} {d : Bool} {p : Nat}, Wd x n s d (p :: l) -> p < n
 | [], d, p, h => h
 | q :: l, d, p, h => Nat.lt_trans h.1 h.2.2.lt
theorem Wd.len : ∀ {l : List Nat} {d : Bool} {p : Nat}, Wd x n s d (p :: l) -> l.length + p < n
 | [], d, p, h => by have h : p < n := h; simpa using h
 | q :: l, d, p, h => by
  have := h.2.2.len
  have := h.1
  simp; omega
end
section
open PySem L2
def dN (p : Nat) : D := .int (p : Int)
def L (l : List Nat) : D := .lst (l.map dN)
theorem eqF_nn (k : Nat) (a b : Nat) : eqF (k + 1) (dN a) (dN b) = some (a == b) := by
 show some ((a : Int) == (b : Int)) = _
 congr 1
 rw [Bool.eq_iff_iff, beq_iff_eq, beq_iff_eq]
 omega
theorem lexF_nn (k : Nat) : ∀ (l m : List Nat), lexF (eqF (k + 1)) (ltF (k + 1)) (l.map dN) (m.map dN) = some (lx l m)
 | [], [] => rfl
 | [], _ :: _ => rfl
 | _ :: _, [] => rfl
 | a :: l, b :: m => by
  rw [map_cons, map_cons, lexF, eqF_nn]
  unfold lx
  by_cases h : a = b
  ·subst h
   simp only [beq_self_eq_true, Nat.lt_irrefl, decide_false, Bool.true_and, Bool.false_or]
   exact lexF_nn k l m
  ·have e : (a == b) = false := by simpa using h
   rw [e]
   simp only [Bool.false_and, Bool.or_false]
   show some (decide ((a : Int) < (b : Int))) = _
   congr 1
   apply decide_eq_decide.mpr
   omega
theorem mlen_ev {m : ML} {ρ : Ro} {ds : List D} (h : m ρ = some ds) : mlen m ρ = some (.int ds.length) := by unfold mlen; rw [h]; rfl
end
section
open PySem L2
theorem refuse_step_eq (step : Int) (h : 1 <= step) : m_Z2 [.int step] = some (.sh .non) := by
 have : ¬ step < 1 := by omega
 unfold m_Z2 b_Z2
 simp_arith [this, decide_false]
def turn (t : Int × Int × Int) : Bool := decide (max t.1 t.2.2 < t.2.1) || decide (t.2.1 < min t.1 t.2.2)
def NI (cs : List Nat) : List Int := cs.map fun (c : Nat) => (c : Int)
end
section
open PySem L2
def mirF : Bool -> List Int -> List Int
 | _, [] => []
 | b, x :: r => (if b then -x else x) :: mirF (!b) r
def stG (s : Int) : Nat -> Option Int -> List Int -> List Nat
 | _, _, [] => []
 | k, none, h :: r => k :: stG s (k + 1) (some h) r
 | k, some g, h :: r => if s <= g + h then k :: stG s (k + 1) (some h) r else stG s (k + 1) none r
def cN (s : Int) : Option Int -> List Int -> Nat
 | _, [] => 0
 | none, h :: r => cN s (some h) r
 | some g, h :: r => if s <= g + h then cN s (some h) r else 1 + cN s none r
def okp (s : Int) : Option Int -> List Int -> Prop
 | _, [] => True
 | none, h :: r => okp s (some h) r
 | some g, h :: r => s <= g + h /\ okp s (some h) r
def mkH (s : Int) : Option Int -> List Int -> List Int
 | _, [] => []
 | none, h :: r => h :: mkH s (some h) r
 | some g, h :: r => if s <= g + h then h :: mkH s (some h) r else (s - (match r with | [] => g | h2 :: _ => min g h2)) :: mkH s none r
theorem mirF_len : ∀ (b : Bool) (r : List Int), (mirF b r).length = r.length
 | _, [] => rfl
 | b, x :: r => by simp [mirF, mirF_len]
theorem mirF_inv : ∀ (b : Bool) (r : List Int), mirF b (mirF b r) = r
 | _, [] => rfl
 | b, x :: r => by cases b <;> simp [mirF, mirF_inv]
variable {s t : Int}
theorem stG_len : ∀ (k : Nat) (o : Option Int) (h : List Int), (stG s k o h).length + cN s o h = h.length
 | _, none, [] => rfl
 | _, some _, [] => rfl
 | k, none, a :: r => by have := stG_len (k + 1) (some a) r; simp [stG, cN]; omega
 | k, some g, a :: r => by
  simp only [stG, cN]
  split
  ·have := stG_len (k + 1) (some a) r; simp; omega
  ·have := stG_len (k + 1) none r; simp; omega
theorem mkH_len : ∀ (o : Option Int) (h : List Int), (mkH s o h).length = h.length
 | none, [] => rfl
 | some _, [] => rfl
 | none, a :: r => by simp [mkH, mkH_len (some a) r]
 | some g, a :: r => by
  simp only [mkH]
  split
  ·simp [mkH_len (some a) r]
  ·simp [mkH_len none r]
theorem okp_made : ∀ (o : Option Int) (h : List Int), okp s o (mkH s o h)
 | none, [] => trivial
 | some _, [] => trivial
 | none, a :: r => okp_made (some a) r
 | some g, a :: r => by
  simp only [mkH]
  split
  ·rename_i h; exact ⟨h, okp_made (some a) r⟩
  ·cases r with
   | nil => exact ⟨by simp; omega, trivial⟩
   | cons b r =>
    simp only [mkH]
    exact ⟨by omega, by omega, okp_made (some b) r⟩
end
section
open PySem L2
theorem m2_at2 {f : D -> D -> Option D} {x y : ME} {ρ : Ro} {a b : D} (h1 : x ρ = some a) (h2 : y ρ = some b) : m2 f x y ρ = f a b := by
 unfold m2; rw [h1, h2]; rfl
def wd (b : Bool) : Str := if b then "up" else "down"
def lowN (b : Bool) : Nat := if b then 0 else 1
theorem idx_wd (b : Bool) : idxS (wd b) ["up", "down"] = some (lowN b) := by cases b <;> decide +kernel
theorem midxS_ev {x : ME} {ρ : Ro} {b : Bool} (h : x ρ = some (.str (wd b))) : midxS "up" "down" x ρ = some (.int (lowN b : Int)) := by
 unfold midxS
 rw [h]
 simp only
 rw [idx_wd b]; rfl
theorem mirF_map : ∀ (b : Bool) (row : List Int), mirF b row = (List.range row.length).map fun i => if i % 2 = lowN b then -(row.getD i 0) else row.getD i 0
 | _, [] => rfl
 | b, x :: r => by
  rw [length_cons, range_succ_eq_map, map_cons, map_map, mirF, mirF_map (!b) r]
  congr 1
  ·cases b <;> simp [lowN]
  ·apply map_congr_left
   intro i _
   simp only [Function.comp_apply, getD_cons_succ]
   have : (i % 2 = lowN (!b)) ↔ (Nat.succ i % 2 = lowN b) := by cases b <;> simp [lowN] <;> omega
   by_cases q : i % 2 = lowN (!b)
   ·rw [if_pos q, if_pos (this.mp q)]
   ·rw [if_neg q, if_neg fun z => q (this.mpr z)]
def RI (xs : List Int) : D := .lst (xs.map .int)
theorem mirrored_eq (b : Bool) (row : List Int) (hl : row.length <= 1000) : m_Z6 [RI row, .str (wd b)] = some (.fr ((mirF b row).map .int)) := by
 unfold m_Z6 b_Z6
 refine runB_rf ?_
 refine seqI (ρ' := [some (.sh (RI row)), some (.sh (.str (wd b))), some (.sh (.int (lowN b : Int)))]) ((mset_ev (midxS_ev (b := b) rfl)).trans rfl) ?_
 have e0 : mlist enum1 (acons (mvar 0) anil) [some (.sh (RI row)), some (.sh (.str (wd b))), some (.sh (.int (lowN b : Int)))] = some ((List.range row.length).map fun (i : Nat) => D.tup [.int (i : Int), .int (row.getD i 0)]) := by
  have := enumL_map row 0
  simp only [Nat.zero_add] at this
  unfold RI
  simp_arith [this]
 have ec : mcomp [none, none, some 2] (mlist enum1 (acons (mvar 0) anil)) (.tp [0, 1]) cyes (mite (mtest (m2 eqSD (m2 modD (mvar 0) (mc (.int 2))) (mvar 2))) (m1 negD (mvar 1)) (mvar 1)) [some (.sh (RI row)), some (.sh (.str (wd b))), some (.sh (.int (lowN b : Int)))] = some ((mirF b row).map .int) := by
  unfold mcomp
  rw [e0, Option.bind_some]
  refine (compD_map (f := fun (i : Nat) => D.tup [.int (i : Int), .int (row.getD i 0)]) (G := fun (i : Nat) => D.int (if i % 2 = lowN b then -(row.getD i 0) else row.getD i 0)) (fun _ ρ => ∃ x y, ρ = [x, y, some (.sh (.int (lowN b : Int)))]) (by
   rintro i is ρ ⟨x, y, rfl⟩
   refine ⟨[some (.sh (.int (i : Int))), some (.sh (.int (row.getD i 0))), some (.sh (.int (lowN b : Int)))], rfl, rfl, ?_, _, _, rfl⟩
   have em : mtest (m2 eqSD (m2 modD (mvar 0) (mc (.int 2))) (mvar 2)) [some (.sh (.int (i : Int))), some (.sh (.int (row.getD i 0))), some (.sh (.int (lowN b : Int)))] = some (decide (i % 2 = lowN b)) := by
    have h2 : modOk (i : Int) 2 = true := modOk_of _ _ (by decide)
    simp_arith [h2, if_true]
    congr 1
    rw [Bool.eq_iff_iff]
    simp only [beq_iff_eq, decide_eq_true_eq]
    omega
   unfold mite
   rw [em]
   by_cases q : i % 2 = lowN b
   ·rw [decide_eq_true q, if_pos q]; rfl
   ·rw [decide_eq_false q, if_neg q]; rfl) (List.range row.length) _ [] ⟨none, none, rfl⟩ (le_size (by simp; omega))).trans ?_
  rw [mirF_map b row, map_map]
  rfl
 unfold mretF
 rw [ec]; rfl
theorem cut_last {α : Type} (A : List α) (x : α) : cutI (A ++ [x]) (some (-1)) none = [x] := by
 unfold cutI HT.sIx
 simp
 have : ((-1 : Int) + ((A.length : Int) + 1)).toNat = A.length := by omega
 rw [this]
 simp
theorem cut_lastN {α : Type} : cutI ([] : List α) (some (-1)) none = [] := by unfold cutI; simp
theorem eqF_one (a b : Int) : eqFD true (.lst [.int a]) (.lst [.int b]) = some (.bl (!(a == b))) := by
 unfold eqFD eqF
 simp only [length_cons, length_nil, if_true, zipE]
 unfold eqF
 simp [eqS]
theorem eqF_nil1 (b : Int) : eqFD true (.lst []) (.lst [.int b]) = some (.bl true) := by
 unfold eqFD eqF
 simp
def LastN (i : Nat) (A : List Nat) : Prop := A = [] \/ ∃ A' l, A = A' ++ [l] /\ l + 1 < i
def envS (h : List Int) (s : Int) (A : List Nat) (o3 o4 : Option S) : Ro := [some (.sh (RI h)), some (.sh (.int s)), some (.own ((NI A).map .int)), o3, o4]
theorem cut_env (h : List Int) (s : Int) (A : List Nat) (o3 o4 : Option S) : mcut (bvar 2) (osome (m1 negD (mc (.int 1)))) onone (envS h s A o3 o4) = some ((cutI (NI A) (some (-1)) none).map .int) := by
 unfold envS
 simp_arith [cutL_map]
theorem NI_snoc (A : List Nat) (x : Nat) : NI (A ++ [x]) = NI A ++ [(x : Int)] := by unfold NI; simp
theorem staying_eq (h : List Int) (s : Int) (hl : h.length <= 1000) : m_Z9 [RI h, .int s] = some (.fr ((NI (stG s 0 none h)).map .int)) := by
 have big := size_big
 have i1 : 0 + 1 <= sizeLine := le_size (by decide)
 have i0 : 0 <= sizeLine := Nat.zero_le _
 unfold m_Z9 b_Z9
 refine runB_rf ?_
 refine seqI (ρ' := envS h s [] none none) (by unfold envS RI; simp_arith [i0, if_true]; rfl) ?_
 have e0 : mlist enum1 (acons (mvar 0) anil) (envS h s [] none none) = some ((List.range h.length).map fun (i : Nat) => D.tup [.int (i : Int), .int (h.getD i 0)]) := by
  have := enumL_map h 0
  simp only [Nat.zero_add] at this
  unfold envS RI
  simp_arith [this]
 refine seq_forN h.length e0 (I := fun i ρ => ∃ A o x y, ρ = envS h s A x y /\ A ++ stG s i o (h.drop i) = stG s 0 none h /\ A.length <= i /\ ((o = none /\ LastN i A) \/ (∃ A' j, A = A' ++ [j] /\ j + 1 = i /\ o = some (h.getD j 0))))
  (Q := fun o => ∃ x y, o = .nx (envS h s (stG s 0 none h) x y)) ⟨[], none, none, none, rfl, rfl, Nat.le_refl _, .inl ⟨rfl, .inl rfl⟩⟩ ?_ ?_ ?_
 ·rintro i ρ hi ⟨A, o, x, y, rfl, e, hA, ho⟩
  rw [drop_getD h i hi] at e
  refine ⟨envS h s A (some (.sh (.int (i : Int)))) (some (.sh (.int (h.getD i 0)))), ?_⟩
  have app : b_Z9_f0 (envS h s A (some (.sh (.int (i : Int)))) (some (.sh (.int (h.getD i 0))))) = (mif (cor (mtest (meqB true (mcut (bvar 2) (osome (m1 negD (mc (.int 1)))) onone) (sized (acons (m2 subD (mvar 3) (mc (.int 1))) anil)))) (mtest (m2 geD (m2 addD (mix (bvar 0) (m2 subD (mvar 3) (mc (.int 1)))) (mvar 4)) (mvar 1)))) (mapp 2 (mvar 3)) mnext) (envS h s A (some (.sh (.int (i : Int)))) (some (.sh (.int (h.getD i 0))))) := rfl
  have e1 : sized (acons (m2 subD (mvar 3) (mc (.int 1))) anil) (envS h s A (some (.sh (.int (i : Int)))) (some (.sh (.int (h.getD i 0))))) = some [.int ((i : Int) - 1)] := by
   unfold envS; simp_arith [i1, if_true]
  have e2 : mtest (meqB true (mcut (bvar 2) (osome (m1 negD (mc (.int 1)))) onone) (sized (acons (m2 subD (mvar 3) (mc (.int 1))) anil))) (envS h s A (some (.sh (.int (i : Int)))) (some (.sh (.int (h.getD i 0))))) = (match eqFD true (.lst ((cutI (NI A) (some (-1)) none).map .int)) (.lst [.int ((i : Int) - 1)]) with | some (.bl b) => some b | _ => none) := by
   unfold mtest meqB
   rw [cut_env, e1]
   rfl
  have eapp : mapp 2 (mvar 3) (envS h s A (some (.sh (.int (i : Int)))) (some (.sh (.int (h.getD i 0))))) = some (.nx (envS h s (A ++ [i]) (some (.sh (.int (i : Int)))) (some (.sh (.int (h.getD i 0)))))) := by
   have hz : (NI A).length < sizeLine := by unfold NI; rw [length_map]; omega
   unfold envS
   rw [NI_snoc]
   simp_arith [length_map, hz, if_true, map_append]
  rcases ho with ⟨rfl, hL⟩ | ⟨A', j, rfl, hj, rfl⟩
  ·have e3 : mtest (meqB true (mcut (bvar 2) (osome (m1 negD (mc (.int 1)))) onone) (sized (acons (m2 subD (mvar 3) (mc (.int 1))) anil))) (envS h s A (some (.sh (.int (i : Int)))) (some (.sh (.int (h.getD i 0))))) = some true := by
    rw [e2]
    rcases hL with rfl | ⟨A', l, rfl, hl'⟩
    ·rw [show NI [] = [] from rfl, cut_lastN, map_nil, eqF_nil1]
    ·rw [NI_snoc, cut_last, map_cons, map_nil, eqF_one]
     have : ((l : Int) == (i : Int) - 1) = false := by simp; omega
     rw [this]; rfl
   refine ⟨.nx (envS h s (A ++ [i]) (some (.sh (.int (i : Int)))) (some (.sh (.int (h.getD i 0))))), rfl, ?_, ?_⟩
   ·rw [app]
    unfold mif cor
    rw [e3]
    exact eapp
   ·exact ⟨A ++ [i], some (h.getD i 0), _, _, rfl, by rw [<- e, append_assoc]; rfl, by simp; omega, .inr ⟨A, i, rfl, rfl, rfl⟩⟩
  ·have e3 : mtest (meqB true (mcut (bvar 2) (osome (m1 negD (mc (.int 1)))) onone) (sized (acons (m2 subD (mvar 3) (mc (.int 1))) anil))) (envS h s (A' ++ [j]) (some (.sh (.int (i : Int)))) (some (.sh (.int (h.getD i 0))))) = some false := by
    rw [e2, NI_snoc, cut_last, map_cons, map_nil, eqF_one]
    have : ((j : Int) == (i : Int) - 1) = true := by simp; omega
    rw [this]; rfl
   have e4 : mtest (m2 geD (m2 addD (mix (bvar 0) (m2 subD (mvar 3) (mc (.int 1)))) (mvar 4)) (mvar 1)) (envS h s (A' ++ [j]) (some (.sh (.int (i : Int)))) (some (.sh (.int (h.getD i 0))))) = some (decide (s <= h.getD j 0 + h.getD i 0)) := by
    have em : mix (bvar 0) (m2 subD (mvar 3) (mc (.int 1))) (envS h s (A' ++ [j]) (some (.sh (.int (i : Int)))) (some (.sh (.int (h.getD i 0))))) = some (.int (h.getD j 0)) := by
     refine mix_ev (ds := h.map .int) (k := (j : Int)) rfl ?_ (at_nat h j (by omega))
     unfold envS
     simp_arith []
     rw [show (i : Int) - 1 = (j : Int) by omega]
    have ea : m2 addD (mix (bvar 0) (m2 subD (mvar 3) (mc (.int 1)))) (mvar 4) (envS h s (A' ++ [j]) (some (.sh (.int (i : Int)))) (some (.sh (.int (h.getD i 0))))) = some (.int (h.getD j 0 + h.getD i 0)) := (m2_at2 em (b := .int (h.getD i 0)) rfl).trans rfl
    unfold mtest
    rw [m2_at2 ea (b := .int s) rfl]
    rfl
   simp only [stG] at e
   by_cases q : s <= h.getD j 0 + h.getD i 0
   ·rw [if_pos q] at e
    refine ⟨.nx (envS h s ((A' ++ [j]) ++ [i]) (some (.sh (.int (i : Int)))) (some (.sh (.int (h.getD i 0))))), rfl, ?_, ?_⟩
    ·rw [app]
     unfold mif cor
     rw [e3, e4, decide_eq_true q]
     exact eapp
    ·exact ⟨(A' ++ [j]) ++ [i], some (h.getD i 0), _, _, rfl, by rw [<- e, append_assoc (A' ++ [j])]; rfl, by simp at hA ⊢; omega, .inr ⟨_, i, rfl, rfl, rfl⟩⟩
   ·rw [if_neg q] at e
    refine ⟨.nx (envS h s (A' ++ [j]) (some (.sh (.int (i : Int)))) (some (.sh (.int (h.getD i 0))))), rfl, ?_, ?_⟩
    ·rw [app]
     unfold mif cor
     rw [e3, e4, decide_eq_false q]
     rfl
    ·exact ⟨A' ++ [j], none, _, _, rfl, e, by omega, .inl ⟨rfl, .inr ⟨A', j, rfl, by omega⟩⟩⟩
 ·rintro ρ ⟨A, o, x, y, rfl, e, _, _⟩
  rw [drop_length] at e
  have : stG s h.length o [] = [] := by cases o <;> rfl
  rw [this, append_nil] at e
  exact ⟨x, y, by rw [e]⟩
 ·rintro o ⟨x, y, rfl⟩
  rfl
def FB (b : Bool) (row : List Int) (s : Int) : D := .tup [.int (cN s none (mirF b row) : Int), RI (NI (stG s 0 none (mirF b row)))]
theorem fewest_beginning_eq (b : Bool) (row : List Int) (s : Int) (hs : 1 <= s) (hl : row.length <= 1000) : m_Z0 [RI row, .int s, .str (wd b)] = some (.sh (FB b row s)) := by
 have i2 : 0 + 1 + 1 <= sizeLine := le_size (by decide)
 have hm := mirF_len b row
 unfold m_Z0 b_Z0
 refine runB_rt ?_
 have e0 : mtest (m2 (inD true) (mvar 2) (mc (.tup ((["up", "down"] : List Str).map .str)))) [some (.sh (RI row)), some (.sh (.int s)), some (.sh (.str (wd b))), none] = some false := by
  unfold mtest
  rw [m2_at2 (a := .str (wd b)) (b := .tup ((["up", "down"] : List Str).map .str)) rfl rfl]
  cases b <;> rfl
 refine seqI (ρ' := [some (.sh (RI row)), some (.sh (.int s)), some (.sh (.str (wd b))), none]) (by unfold mif; rw [show startS 4 [RI row, .int s, .str (wd b)] = [some (.sh (RI row)), some (.sh (.int s)), some (.sh (.str (wd b))), none] from rfl, e0]; rfl) ?_
 refine seqI (ρ' := [some (.sh (RI row)), some (.sh (.int s)), some (.sh (.str (wd b))), none]) (by unfold mexpr; rw [mcall_sh (acons_ev (d := .int s) rfl anil_ev) (refuse_step_eq s hs)]; rfl) ?_
 refine seqI (ρ' := [some (.sh (RI row)), some (.sh (.int s)), some (.sh (.str (wd b))), some (.sh (RI (NI (stG s 0 none (mirF b row)))))]) ((mset_ev (mcall_fr (acons_ev (mcall_fr (acons_ev (d := RI row) rfl (acons_ev (d := .str (wd b)) rfl anil_ev)) (mirrored_eq b row hl)) (acons_ev (d := .int s) rfl anil_ev)) (staying_eq (mirF b row) s (by omega)))).trans rfl) ?_
 refine mret_ev (mtup_ev (acons_ev ?_ (acons_ev (d := RI (NI (stG s 0 none (mirF b row)))) rfl anil_ev)) i2)
 have e := stG_len (s := s) 0 none (mirF b row)
 unfold RI
 simp_arith [length_map]
 unfold NI
 rw [length_map]
 congr 2
 omega
theorem zipE_any (n : Nat) : ∀ a b : List Int, ∃ k, zipE (eqF (n + 1)) (a.map .int) (b.map .int) = some k
 | [], _ => ⟨true, rfl⟩
 | _ :: _, [] => ⟨true, rfl⟩
 | x :: a, y :: b => by
  obtain ⟨k, h⟩ := zipE_any n a b
  refine ⟨(x == y) && k, ?_⟩
  rw [map_cons, map_cons, zipE, h]
  rfl
theorem eqF_any (n : Nat) (a b : List Int) : ∃ k, eqF (n + 2) (RI a) (RI b) = some k := by
 unfold RI
 show ∃ k, (if (a.map D.int).length = (b.map D.int).length then zipE (eqF (n + 1)) (a.map .int) (b.map .int) else some false) = some k
 split
 ·exact zipE_any n a b
 ·exact ⟨_, rfl⟩
theorem lt_FB (row : List Int) (s : Int) : ∃ k, ltF 8 (FB false row s) (FB true row s) = some k /\ (k = true -> cN s none (mirF false row) <= cN s none (mirF true row)) /\ (k = false -> cN s none (mirF true row) <= cN s none (mirF false row)) := by
 have el : ltF 7 (RI (NI (stG s 0 none (mirF false row)))) (RI (NI (stG s 0 none (mirF true row)))) = some (lx (stG s 0 none (mirF false row)) (stG s 0 none (mirF true row))) := by
  have := lexF_nn 5 (stG s 0 none (mirF false row)) (stG s 0 none (mirF true row))
  unfold RI NI
  rw [map_map, map_map]
  exact this
 obtain ⟨k1, ek⟩ := eqF_any 5 (NI (stG s 0 none (mirF false row))) (NI (stG s 0 none (mirF true row)))
 unfold FB
 generalize RI (NI (stG s 0 none (mirF false row))) = l1 at el ek ⊢
 generalize RI (NI (stG s 0 none (mirF true row))) = l2 at el ek ⊢
 generalize cN s none (mirF false row) = c1
 generalize cN s none (mirF true row) = c2
 show ∃ k, (match (some ((c1 : Int) == (c2 : Int)) : Option Bool) with | some true => lexF (eqF 7) (ltF 7) [l1] [l2] | some false => some (decide ((c1 : Int) < (c2 : Int))) | none => none) = some k /\ _
 cases hc : ((c1 : Int) == (c2 : Int)) with
 | true =>
  have : c1 = c2 := by simp at hc; omega
  subst this
  show ∃ k, (match eqF 7 l1 l2 with | some true => lexF (eqF 7) (ltF 7) [] [] | some false => ltF 7 l1 l2 | none => none) = some k /\ _
  rw [ek]
  cases k1 with
  | true => exact ⟨false, rfl, fun _ => Nat.le_refl _, fun _ => Nat.le_refl _⟩
  | false => exact ⟨_, el, fun _ => Nat.le_refl _, fun _ => Nat.le_refl _⟩
 | false =>
  refine ⟨_, rfl, fun h => ?_, fun h => ?_⟩
  ·have := of_decide_eq_true h; omega
  ·have := of_decide_eq_false h; omega
noncomputable def bw (row : List Int) (s : Int) : Bool := match ltF 8 (FB false row s) (FB true row s) with | some true => false | _ => true
theorem bw_lt (row : List Int) (s : Int) : ltF 8 (FB false row s) (FB true row s) = some (!bw row s) := by
 obtain ⟨k, h, _⟩ := lt_FB row s
 unfold bw
 rw [h]
 cases k <;> rfl
theorem minP_FB (row : List Int) (s : Int) {m : ML} {ρ : Ro} (h : m ρ = some [FB true row s, FB false row s]) : mminP m ρ = some (FB (bw row s) row s) := by
 unfold mminP
 rw [h]
 show (match ltF 8 (FB false row s) (FB true row s) with | some true => minP [] (FB false row s) | some false => minP [] (FB true row s) | none => none) = _
 rw [bw_lt]
 cases bw row s <;> rfl
end
section
open PySem L2
theorem mcallF_ev {f : MF} {m : ML} {ρ : Ro} {ds es : List D} (h : m ρ = some ds) (h2 : f ds = some (.fr es)) : mcallF f m ρ = some es := by
 unfold mcallF; rw [h]; show (match f ds with | some (.fr es) => some es | _ => none) = _; rw [h2]
theorem stG_ge {s : Int} : ∀ (k : Nat) (o : Option Int) (h : List Int), ∀ x ∈ stG s k o h, k <= x
 | _, none, [], x, hx => by simp [stG] at hx
 | _, some _, [], x, hx => by simp [stG] at hx
 | k, none, a :: r, x, hx => by
  simp only [stG, mem_cons] at hx
  rcases hx with rfl | hx
  ·exact Nat.le_refl _
  ·have := stG_ge (k + 1) (some a) r x hx; omega
 | k, some g, a :: r, x, hx => by
  simp only [stG] at hx
  split at hx
  ·rcases List.mem_cons.mp hx with rfl | hx
   ·exact Nat.le_refl _
   ·have := stG_ge (k + 1) (some a) r x hx; omega
  ·have := stG_ge (k + 1) none r x hx; omega
def nxv (g : Int) : List Int -> Int
 | [] => g
 | h2 :: _ => min g h2
theorem mkH_some (s g a : Int) (r : List Int) : mkH s (some g) (a :: r) = if s <= g + a then a :: mkH s (some a) r else (s - nxv g r) :: mkH s none r := by
 simp only [mkH]
 cases r <;> rfl
def newv (s : Int) (h : List Int) (i : Nat) : Int := s - (if i + 1 < h.length then min (h.getD (i - 1) 0) (h.getD (i + 1) 0) else h.getD (i - 1) 0)
theorem made_map (s : Int) (h : List Int) (L : List Nat) : ∀ (r : List Int) (k : Nat) (o : Option Int), h.drop k = r -> (∀ i, k <= i -> (i ∈ L ↔ i ∈ stG s k o r)) -> (∀ g, o = some g -> 1 <= k /\ h.getD (k - 1) 0 = g) ->
  (List.range' k r.length).map (fun i => if i ∈ L then h.getD i 0 else newv s h i) = mkH s o r
 | [], k, none, _, _, _ => rfl
 | [], k, some _, _, _, _ => rfl
 | a :: r, k, none, hd, hm, ho => by
  have hk : k < h.length := by
   rcases Nat.lt_or_ge k h.length with z | z
   ·exact z
   ·rw [drop_eq_nil_of_le z] at hd; cases hd
  rw [drop_getD h k hk] at hd
  obtain ⟨e1, e2⟩ := List.cons.inj hd
  rw [length_cons, range'_succ, map_cons, mkH]
  have hin : k ∈ L := (hm k (Nat.le_refl _)).mpr (by simp [stG])
  rw [if_pos hin, e1, made_map s h L r (k + 1) (some a) e2 (fun i hi => by
   rw [hm i (by omega)]
   simp only [stG, mem_cons]
   constructor
   ·rintro (z | z)
    ·omega
    ·exact z
   ·exact .inr) (fun g hg => by cases hg; exact ⟨by omega, by simpa using e1⟩)]
 | a :: r, k, some g, hd, hm, ho => by
  have hk : k < h.length := by
   rcases Nat.lt_or_ge k h.length with z | z
   ·exact z
   ·rw [drop_eq_nil_of_le z] at hd; cases hd
  rw [drop_getD h k hk] at hd
  obtain ⟨e1, e2⟩ := List.cons.inj hd
  obtain ⟨k1, eg⟩ := ho g rfl
  rw [length_cons, range'_succ, map_cons]
  rw [mkH_some]
  by_cases q : s <= g + a
  ·have hin : k ∈ L := (hm k (Nat.le_refl _)).mpr (by simp [stG, q])
   rw [if_pos hin, e1, if_pos q, made_map s h L r (k + 1) (some a) e2 (fun i hi => by
    rw [hm i (by omega)]
    simp only [stG, if_pos q, mem_cons]
    constructor
    ·rintro (z | z)
     ·omega
     ·exact z
    ·exact .inr) (fun g hg => by cases hg; exact ⟨by omega, by simpa using e1⟩)]
  ·have hn : k ∉ L := fun z => by
    have z := (hm k (Nat.le_refl _)).mp z
    simp only [stG, if_neg q] at z
    have := stG_ge _ _ _ _ z
    omega
   rw [if_neg hn, if_neg q, made_map s h L r (k + 1) none e2 (fun i hi => by
    rw [hm i (by omega)]
    simp only [stG, if_neg q]) (fun g hg => by cases hg)]
   congr 1
   unfold newv
   rw [eg]
   cases r with
   | nil =>
    have : ¬ k + 1 < h.length := fun z => by rw [drop_getD h (k + 1) z] at e2; cases e2
    rw [if_neg this]
    rfl
   | cons b r =>
    have : k + 1 < h.length := by
     rcases Nat.lt_or_ge (k + 1) h.length with z | z
     ·exact z
     ·rw [drop_eq_nil_of_le z] at e2; cases e2
    rw [if_pos this]
    rw [drop_getD h (k + 1) this] at e2
    rw [(List.cons.inj e2).1]
    rfl
theorem made_all (s : Int) (h : List Int) : (List.range h.length).map (fun i => if i ∈ stG s 0 none h then h.getD i 0 else newv s h i) = mkH s none h := by
 rw [range_eq_range']
 exact made_map s h (stG s 0 none h) h 0 none rfl (fun i _ => Iff.rfl) (fun g hg => by cases hg)
theorem stG_zero (s : Int) (h : List Int) (i : Nat) (hi : i < h.length) (hn : i ∉ stG s 0 none h) : 1 <= i := by
 rcases Nat.eq_zero_or_pos i with z | z
 ·subst z
  cases h with
  | nil => simp at hi
  | cons a r => simp [stG] at hn
 ·exact z
theorem pick_two (h : List Int) (i : Nat) (h1 : 1 <= i) (h2 : i < h.length) : pickL (h.map D.int) (some ((i : Int) - 1)) (some ((i : Int) + 2)) (some 2) = (if i + 1 < h.length then [h.getD (i - 1) 0, h.getD (i + 1) 0] else [h.getD (i - 1) 0]).map .int := by
 have hb : sliceBounds (some ((i : Int) - 1)) (some ((i : Int) + 2)) (some 2) (h.map D.int).length = ((i : Int) - 1, min ((i : Int) + 2) (h.length : Int), 2) := by
  unfold sliceBounds
  simp only [Option.getD_some, length_map]
  have n1 : ¬ ((i : Int) - 1 < 0) := by omega
  have n2 : ¬ ((i : Int) + 2 < 0) := by omega
  have p : (2 : Int) > 0 := by decide
  simp only [n1, n2, p, if_true, if_false, Prod.mk.injEq, and_true]
  constructor <;> omega
 unfold pickL
 rw [hb]
 simp only
 by_cases q : i + 1 < h.length
 ·have hr : sliceRange ((i : Int) - 1) (min ((i : Int) + 2) (h.length : Int)) 2 = [i - 1, i + 1] := by
   unfold sliceRange
   rw [show min ((i : Int) + 2) (h.length : Int) = (i : Int) + 2 by omega, if_pos (by decide), if_pos (by omega), show ((i : Int) + 2 - ((i : Int) - 1) + 2 - 1) / 2 = 2 by omega]
   show [((i : Int) - 1 + 2 * ((0 : Nat) : Int)).toNat, ((i : Int) - 1 + 2 * ((1 : Nat) : Int)).toNat] = _
   congr 1
   ·omega
   ·congr 1
    omega
  rw [hr, if_pos q]
  unfold pickJ
  simp [getD_eq_getElem?_getD, q, show i - 1 < h.length by omega]
 ·have hr : sliceRange ((i : Int) - 1) (min ((i : Int) + 2) (h.length : Int)) 2 = [i - 1] := by
   unfold sliceRange
   rw [show min ((i : Int) + 2) (h.length : Int) = (i : Int) + 1 by omega, if_pos (by decide), if_pos (by omega), show ((i : Int) + 1 - ((i : Int) - 1) + 2 - 1) / 2 = 1 by omega]
   show [((i : Int) - 1 + 2 * ((0 : Nat) : Int)).toNat] = _
   congr 1
   omega
  rw [hr, if_neg q]
  unfold pickJ
  simp [getD_eq_getElem?_getD, show i - 1 < h.length by omega]
theorem mpick_ev {la : ML} {lo hi k : MO} {ρ : Ro} {ds : List D} {l h st : Option Int} (h1 : la ρ = some ds) (h2 : lo ρ = some l) (h3 : hi ρ = some h) (h4 : k ρ = some st) (hz : st ≠ some 0 /\ (pickL ds l h st).length <= sizeLine) : mpick la lo hi k ρ = some (pickL ds l h st) := by
 unfold mpick
 rw [h1, h2, h3, h4]
 exact if_pos hz
theorem in_ints (i : Int) (ps : List Int) : inV (V.int i) (ps.map V.int) = decide (i ∈ ps) := by
 unfold inV
 rw [any_map, Bool.eq_iff_iff, any_eq_true, decide_eq_true_eq]
 constructor
 ·rintro ⟨x, hx, e⟩
  have e : (x == i) = true := e
  rw [<- beq_iff_eq.mp e]; exact hx
 ·intro h
  exact ⟨i, h, by show (i == i) = true; simp⟩
theorem inD_ints (i : Int) (ps : List Int) : inD false (.int i) (RI ps) = some (.bl (decide (i ∈ ps))) := by
 unfold RI
 show inDs false (.int i) (ps.map .int) = _
 unfold inDs
 rw [flVs_ints]
 show some (D.bl (inV (V.int i) (ps.map V.int))) = _
 rw [in_ints]
theorem mem_NI (i : Nat) (L : List Nat) : ((i : Int) ∈ NI L) ↔ i ∈ L := by
 unfold NI
 rw [mem_map]
 constructor
 ·rintro ⟨a, h, e⟩
  have : a = i := by omega
  rw [<- this]; exact h
 ·exact fun h => ⟨i, h, rfl⟩
theorem lookup_tb (T : Addr) (mw : Str) (pos : Pos) (q : Str) : List.lookup T [(T, Cell.tb T mw pos q)] = some (.tb T mw pos q) := by simp [lookup_cons]
abbrev Bt (T : Addr) : Bx := [(T, .tb T "made_wavy" ⟨30, 26, 30, 72⟩ "made_wavy.<locals>.<lambda>")]
theorem made_wavy_eq (T : Addr) (row : List Int) (s : Int) (hs : 1 <= s) (hl : row.length <= 1000) : m_made_wavy [RI row, .int s] (Bt T) = some (.fr ((mirF (bw row s) (mkH s none (mirF (bw row s) row))).map .int), Bt T) := by
 have big := size_big
 have i2 : 0 + 1 + 1 <= sizeLine := le_size (by decide)
 generalize hb : bw row s = b
 have hm := mirF_len b row
 have hk := mkH_len (s := s) none (mirF b row)
 have e1 : msetX 2 (mlamX "made_wavy" ⟨30, 26, 30, 72⟩ "made_wavy.<locals>.<lambda>" ((["up", "down"] : List Str).map .str) [none, some 0, some 1] (mcall m_Z0 (acons (mvar 1) (acons (mvar 2) (acons (mvar 0) anil))))) (startS 7 [RI row, .int s]) (Bt T) = some (.nx [some (.sh (RI row)), some (.sh (.int s)), some (.sh (.str (wd b))), none, none, none, none], Bt T) := by
  unfold msetX mlamX
  rw [if_pos ⟨T, lookup_tb _ _ _ _⟩]
  have mk : ∀ c : Bool, mcall m_Z0 (acons (mvar 1) (acons (mvar 2) (acons (mvar 0) anil))) ((blkRo [none, some 0, some 1] (startS 7 [RI row, .int s])).set 0 (some (.sh (.str (wd c))))) = some (FB c row s) := fun c =>
   mcall_sh (acons_ev (d := RI row) rfl (acons_ev (d := .int s) rfl (acons_ev (d := .str (wd c)) rfl anil_ev))) (fewest_beginning_eq c row s hs hl)
  have hmin : minN (fun d => mcall m_Z0 (acons (mvar 1) (acons (mvar 2) (acons (mvar 0) anil))) ((blkRo [none, some 0, some 1] (startS 7 [RI row, .int s])).set 0 (some (.sh d)))) ((["up", "down"] : List Str).map .str) = some (.str (wd b)) := by
   have h1 := mk true
   have h2 := mk false
   have h3 := bw_lt row s
   rw [hb] at h3
   show (match mcall m_Z0 (acons (mvar 1) (acons (mvar 2) (acons (mvar 0) anil))) ((blkRo [none, some 0, some 1] (startS 7 [RI row, .int s])).set 0 (some (.sh (.str (wd true))))) with | some kd => minF _ [.str (wd false)] (.str (wd true)) kd | none => none) = _
   rw [h1]
   show (match mcall m_Z0 (acons (mvar 1) (acons (mvar 2) (acons (mvar 0) anil))) ((blkRo [none, some 0, some 1] (startS 7 [RI row, .int s])).set 0 (some (.sh (.str (wd false))))) with | some kd => (match ltF 8 kd (FB true row s) with | some true => minF _ [] (.str (wd false)) kd | some false => minF _ [] (.str (wd true)) (FB true row s) | none => none) | none => none) = _
   rw [h2]
   simp only
   rw [h3]
   cases b <;> rfl
  rw [hmin]
  rfl
 have hin : bw row s = b := hb
 have e2 : masg (.tp [3, 4]) (mcall m_Z0 (acons (mvar 0) (acons (mvar 1) (acons (mvar 2) anil)))) [some (.sh (RI row)), some (.sh (.int s)), some (.sh (.str (wd b))), none, none, none, none] = some (.nx [some (.sh (RI row)), some (.sh (.int s)), some (.sh (.str (wd b))), some (.sh (.int (cN s none (mirF b row) : Int))), some (.sh (RI (NI (stG s 0 none (mirF b row))))), none, none]) := by
  unfold masg
  rw [mcall_sh (acons_ev (d := RI row) rfl (acons_ev (d := .int s) rfl (acons_ev (d := .str (wd b)) rfl anil_ev))) (fewest_beginning_eq b row s hs hl)]
  rfl
 generalize hcn : (cN s none (mirF b row) : Int) = cn at e2
 generalize hh : mirF b row = h at *
 have e3 : mset 5 (mcall m_Z6 (acons (mvar 0) (acons (mvar 2) anil))) [some (.sh (RI row)), some (.sh (.int s)), some (.sh (.str (wd b))), some (.sh (.int cn)), some (.sh (RI (NI (stG s 0 none h)))), none, none] = some (.nx [some (.sh (RI row)), some (.sh (.int s)), some (.sh (.str (wd b))), some (.sh (.int cn)), some (.sh (RI (NI (stG s 0 none h)))), some (.sh (RI h)), none]) := by
  rw [mset_ev (mcall_fr (acons_ev (d := RI row) rfl (acons_ev (d := .str (wd b)) rfl anil_ev)) (mirrored_eq b row hl)), hh]
  rfl
 have e0 : mlist enum1 (acons (mvar 5) anil) [some (.sh (RI row)), some (.sh (.int s)), some (.sh (.str (wd b))), some (.sh (.int cn)), some (.sh (RI (NI (stG s 0 none h)))), some (.sh (RI h)), none] = some ((List.range h.length).map fun (i : Nat) => D.tup [.int (i : Int), .int (h.getD i 0)]) := by
  have := enumL_map h 0
  simp only [Nat.zero_add] at this
  unfold RI
  simp_arith [this]
 have e4 : mcomp [none, none, some 4, some 1, some 5] (mlist enum1 (acons (mvar 5) anil)) (.tp [0, 1]) cyes (mite (mtest (m2 (inD false) (mvar 0) (mvar 2))) (mvar 1) (m2 subD (mvar 3) (mminL (mpick (bvar 4) (osome (m2 subD (mvar 0) (mc (.int 1)))) (osome (m2 addD (mvar 0) (mc (.int 2)))) (osome (mc (.int 2))))))) [some (.sh (RI row)), some (.sh (.int s)), some (.sh (.str (wd b))), some (.sh (.int cn)), some (.sh (RI (NI (stG s 0 none h)))), some (.sh (RI h)), none] = some ((mkH s none h).map .int) := by
  unfold mcomp
  rw [e0, Option.bind_some]
  have key : ∀ i, i < h.length -> mite (mtest (m2 (inD false) (mvar 0) (mvar 2))) (mvar 1) (m2 subD (mvar 3) (mminL (mpick (bvar 4) (osome (m2 subD (mvar 0) (mc (.int 1)))) (osome (m2 addD (mvar 0) (mc (.int 2)))) (osome (mc (.int 2)))))) [some (.sh (.int (i : Int))), some (.sh (.int (h.getD i 0))), some (.sh (RI (NI (stG s 0 none h)))), some (.sh (.int s)), some (.sh (RI h))] = some (.int (if i ∈ stG s 0 none h then h.getD i 0 else newv s h i)) := by
   intro i hi
   have et : mtest (m2 (inD false) (mvar 0) (mvar 2)) [some (.sh (.int (i : Int))), some (.sh (.int (h.getD i 0))), some (.sh (RI (NI (stG s 0 none h)))), some (.sh (.int s)), some (.sh (RI h))] = some (decide (i ∈ stG s 0 none h)) := by
    unfold mtest
    rw [m2_at2 (a := .int (i : Int)) (b := RI (NI (stG s 0 none h))) rfl rfl, inD_ints]
    show some (decide ((i : Int) ∈ NI (stG s 0 none h))) = _
    rw [decide_eq_decide.mpr (mem_NI i _)]
   unfold mite
   rw [et]
   by_cases q : i ∈ stG s 0 none h
   ·rw [decide_eq_true q, if_pos q]; rfl
   ·rw [decide_eq_false q, if_neg q]
    have i1 := stG_zero s h i hi q
    have hp := pick_two h i i1 hi
    have ep : mpick (bvar 4) (osome (m2 subD (mvar 0) (mc (.int 1)))) (osome (m2 addD (mvar 0) (mc (.int 2)))) (osome (mc (.int 2))) [some (.sh (.int (i : Int))), some (.sh (.int (h.getD i 0))), some (.sh (RI (NI (stG s 0 none h)))), some (.sh (.int s)), some (.sh (RI h))] = some ((if i + 1 < h.length then [h.getD (i - 1) 0, h.getD (i + 1) 0] else [h.getD (i - 1) 0]).map .int) := by
     rw [<- hp]
     refine mpick_ev rfl (by unfold osome; rw [m2_at2 (a := .int (i : Int)) (b := .int 1) rfl rfl]; rfl) (by unfold osome; rw [m2_at2 (a := .int (i : Int)) (b := .int 2) rfl rfl]; rfl) rfl ⟨by simp, ?_⟩
     rw [hp]
     split <;> exact le_size (by simp)
    have em : ∃ v, mminL (mpick (bvar 4) (osome (m2 subD (mvar 0) (mc (.int 1)))) (osome (m2 addD (mvar 0) (mc (.int 2)))) (osome (mc (.int 2)))) [some (.sh (.int (i : Int))), some (.sh (.int (h.getD i 0))), some (.sh (RI (NI (stG s 0 none h)))), some (.sh (.int s)), some (.sh (RI h))] = some (.int v) /\ s - v = newv s h i := by
     unfold newv
     by_cases z : i + 1 < h.length
     ·rw [if_pos z] at ep ⊢
      refine ⟨_, mminL_ev ep, ?_⟩
      show s - (if h.getD (i + 1) 0 < h.getD (i - 1) 0 then h.getD (i + 1) 0 else h.getD (i - 1) 0) = _
      rw [min_if]
     ·rw [if_neg z] at ep ⊢
      exact ⟨_, mminL_ev ep, rfl⟩
    obtain ⟨v, em, ev⟩ := em
    simp only
    rw [m2_at2 (a := .int s) rfl em, <- ev]
    rfl
  refine (compD_map (f := fun (i : Nat) => D.tup [.int (i : Int), .int (h.getD i 0)]) (G := fun (i : Nat) => D.int (if i ∈ stG s 0 none h then h.getD i 0 else newv s h i)) (fun is ρ => (∀ i ∈ is, i < h.length) /\ ∃ x y, ρ = [x, y, some (.sh (RI (NI (stG s 0 none h)))), some (.sh (.int s)), some (.sh (RI h))]) (by
   rintro i is ρ ⟨hi, x, y, rfl⟩
   exact ⟨[some (.sh (.int (i : Int))), some (.sh (.int (h.getD i 0))), some (.sh (RI (NI (stG s 0 none h)))), some (.sh (.int s)), some (.sh (RI h))], rfl, rfl, key i (hi i (by simp)), fun j hj => hi j (by simp [hj]), _, _, rfl⟩) (List.range h.length) _ [] ⟨fun i hi => List.mem_range.mp hi, none, none, rfl⟩ (le_size (by simp; omega))).trans ?_
  rw [<- made_all s h, map_map]
  rfl
 have e5 : mset 6 (mlst (mcomp [none, none, some 4, some 1, some 5] (mlist enum1 (acons (mvar 5) anil)) (.tp [0, 1]) cyes (mite (mtest (m2 (inD false) (mvar 0) (mvar 2))) (mvar 1) (m2 subD (mvar 3) (mminL (mpick (bvar 4) (osome (m2 subD (mvar 0) (mc (.int 1)))) (osome (m2 addD (mvar 0) (mc (.int 2)))) (osome (mc (.int 2))))))))) [some (.sh (RI row)), some (.sh (.int s)), some (.sh (.str (wd b))), some (.sh (.int cn)), some (.sh (RI (NI (stG s 0 none h)))), some (.sh (RI h)), none] = some (.nx [some (.sh (RI row)), some (.sh (.int s)), some (.sh (.str (wd b))), some (.sh (.int cn)), some (.sh (RI (NI (stG s 0 none h)))), some (.sh (RI h)), some (.sh (RI (mkH s none h)))]) := (mset_ev (mlst_ev e4)).trans rfl
 have e6 : mcallF m_Z6 (acons (mvar 6) (acons (mvar 2) anil)) [some (.sh (RI row)), some (.sh (.int s)), some (.sh (.str (wd b))), some (.sh (.int cn)), some (.sh (RI (NI (stG s 0 none h)))), some (.sh (RI h)), some (.sh (RI (mkH s none h)))] = some ((mirF b (mkH s none h)).map .int) :=
  mcallF_ev (acons_ev (d := RI (mkH s none h)) rfl (acons_ev (d := .str (wd b)) rfl anil_ev)) (mirrored_eq b (mkH s none h) (by omega))
 unfold m_made_wavy b_made_wavy
 have all : ∀ {x1 x2 x3 x4 x5 : MW} {ρ ρ1 ρ2 ρ3 ρ4 : Ro} {β : Bx} {d : List D}, x1 ρ β = some (.nx ρ1, β) -> x2 ρ1 β = some (.nx ρ2, β) -> x3 ρ2 β = some (.nx ρ3, β) -> x4 ρ3 β = some (.nx ρ4, β) -> x5 ρ4 β = some (.rf d, β) -> mseqW x1 (mseqW x2 (mseqW x3 (mseqW x4 x5))) ρ β = some (.rf d, β) := by
  intro x1 x2 x3 x4 x5 ρ ρ1 ρ2 ρ3 ρ4 β d h1 h2 h3 h4 h5
  simp only [mseqW, h1, h2, h3, h4, h5]
 unfold runW
 rw [all e1 (show wS _ _ _ = _ by unfold wS; rw [e2]) (show wS _ _ _ = _ by unfold wS; rw [e3]) (show wS _ _ _ = _ by unfold wS; rw [e5]) (show mretFW _ _ _ = some (.rf ((mirF b (mkH s none h)).map .int), Bt T) by unfold mretFW; rw [e6]; rfl)]
 simp
end
section
open PySem L2
theorem mpu_ev {m : ME} {ρ : Ro} {d : D} (h : m ρ = some d) : mpu m ρ = some (d, ρ) := by unfold mpu; rw [h]
theorem apu_ev {m : ML} {ρ : Ro} {d : List D} (h : m ρ = some d) : apu m ρ = some (d, ρ) := by unfold apu; rw [h]
theorem m2m_ev {f : D -> D -> Option D} {x y : MEm} {ρ ρ1 ρ2 : Ro} {d e g : D} (h1 : x ρ = some (d, ρ1)) (h2 : y ρ1 = some (e, ρ2)) (h3 : f d e = some g) : m2m f x y ρ = some (g, ρ2) := by
 unfold m2m; rw [h1]; simp only; rw [h2]; simp only; rw [h3]
theorem aconsm_ev {x : MEm} {r : MLm} {ρ ρ1 ρ2 : Ro} {d : D} {ds : List D} (h1 : x ρ = some (d, ρ1)) (h2 : r ρ1 = some (ds, ρ2)) : aconsm x r ρ = some (d :: ds, ρ2) := by
 unfold aconsm; rw [h1]; simp only; rw [h2]
theorem mlstm_ev {m : MLm} {ρ ρ1 : Ro} {ds : List D} (h : m ρ = some (ds, ρ1)) (hz : ds.length <= sizeLine) : mlstm m ρ = some (.lst ds, ρ1) := by
 unfold mlstm; rw [h]; simp only [hz, if_true]
theorem call1m_ev {f : List D -> Option D} {m : MLm} {ρ ρ1 : Ro} {ds : List D} {d : D} (h : m ρ = some (ds, ρ1)) (h2 : f ds = some d) : call1m f m ρ = some (d, ρ1) := by
 unfold call1m; rw [h]; simp only; rw [h2]
theorem msetm_ev {i : Nat} {x : MEm} {ρ ρ1 : Ro} {d : D} (h : x ρ = some (d, ρ1)) : msetm i x ρ = some (.nx (ρ1.set i (some (.sh d)))) := by unfold msetm; rw [h]
theorem mretG_ev {i : Nat} {x : MEm} {ρ ρ1 : Ro} {d : D} {p : Addr} {r : List D} (h : x ρ = some (d, ρ1)) (h2 : ρ1[i]? = some (some (.ob p r))) : mretG i x ρ = some (.rg d p r) := by unfold mretG; rw [h]; simp only; rw [h2]
theorem mcallG_ob {f : MG} {i : Nat} {m : MLm} {ρ ρ1 : Ro} {p : Addr} {r0 r1 r2 ds : List D} {t : Rt} {d : D} (h0 : ρ[i]? = some (some (.ob p r2))) (h1 : m ρ = some (ds, ρ1)) (h2 : ρ1[i]? = some (some (.ob p r0))) (h3 : f p r0 ds = some (t, r1)) (h4 : rtD t = some d) : mcallG f i m ρ = some (d, ρ1.set i (some (.ob p r1))) := by
 unfold mcallG; rw [h0]; simp only; rw [h1]; simp only; rw [h2]; simp only; rw [h3]; simp only; rw [h4]
theorem mcallG_own {f : MG} {i : Nat} {m : MLm} {ρ ρ1 : Ro} {r0 r1 r2 ds : List D} {t : Rt} {d : D} (h0 : ρ[i]? = some (some (.own r2))) (h1 : m ρ = some (ds, ρ1)) (h2 : ρ1[i]? = some (some (.own r0))) (h3 : ∀ p, f p r0 ds = some (t, r1)) (h4 : rtD t = some d) : mcallG f i m ρ = some (d, ρ1.set i (some (.own r1))) := by
 unfold mcallG; rw [h0]; simp only; rw [h1]; simp only; rw [h2]; simp only; rw [anyP_of h3]; simp only; rw [h4]
def URun (m : MS) (ρ : Addr -> Ro) (R : (Addr -> Out) -> Prop) : Prop := ∃ o, (∀ p, m (ρ p) = some (o p)) /\ R o
theorem ur_seq {x y : MS} {ρ ρ' : Addr -> Ro} {R : (Addr -> Out) -> Prop} (h : ∀ p, x (ρ p) = some (.nx (ρ' p))) (h2 : URun y ρ' R) : URun (mseq x y) ρ R := by
 obtain ⟨o, e, r⟩ := h2
 exact ⟨o, fun p => seqI (h p) (e p), r⟩
theorem ur_mseq {x y : MS} {ρ : Addr -> Ro} {R : (Addr -> Out) -> Prop} (h : URun x ρ (fun o => ∃ ρ', (o = fun p => .nx (ρ' p)) /\ URun y ρ' R)) : URun (mseq x y) ρ R := by
 obtain ⟨o, e, ρ', rfl, h2⟩ := h
 exact ur_seq e h2
theorem ur_if {c : MB} {x y : MS} {ρ : Addr -> Ro} {R : (Addr -> Out) -> Prop} {b : Bool} (h : ∀ p, c (ρ p) = some b) (h2 : URun (if b then x else y) ρ R) : URun (mif c x y) ρ R := by
 obtain ⟨o, e, r⟩ := h2
 refine ⟨o, fun p => ?_, r⟩
 unfold mif
 rw [h p]
 cases b <;> exact e p
theorem ur_next {ρ : Addr -> Ro} {R : (Addr -> Out) -> Prop} (h : R fun p => .nx (ρ p)) : URun mnext ρ R := ⟨_, fun _ => rfl, h⟩
theorem ur_last {x : MS} {ρ ρ' : Addr -> Ro} {R : (Addr -> Out) -> Prop} (h : ∀ p, x (ρ p) = some (.nx (ρ' p))) (h2 : R fun p => .nx (ρ' p)) : URun x ρ R := ⟨_, h, h2⟩
theorem ur_forN {mi : ML} {g : Tg} {body : MS} {ρ : Addr -> Ro} {f : Nat -> D} {R : (Addr -> Out) -> Prop} (n : Nat) (hi : ∀ p, mi (ρ p) = some ((List.range n).map f)) (I : Nat -> (Addr -> Ro) -> Prop) (h0 : I 0 ρ)
  (hs : ∀ j ρ, j < n -> I j ρ -> ∃ ρ1, (∀ p, tgD g (f j) (ρ p) = some (ρ1 p)) /\ URun body ρ1 (fun o => ∃ ρ2, (o = fun p => .nx (ρ2 p)) /\ I (j + 1) ρ2)) (hd : ∀ ρ, I n ρ -> R (fun p => .nx (ρ p))) : URun (mfor mi g body) ρ R := by
 have main : ∀ (k j : Nat) (ρ : Addr -> Ro), n - j = k -> j <= n -> I j ρ -> ∃ ρ', (∀ p, forD g body ((List.range' j k).map f) (ρ p) = some (.nx (ρ' p))) /\ I n ρ' := by
  intro k
  induction k with
  | zero =>
   intro j ρ hk hj h
   have : j = n := by omega
   subst this
   exact ⟨ρ, fun _ => rfl, h⟩
  | succ k ih =>
   intro j ρ hk hj h
   obtain ⟨ρ1, a1, o, a2, ρ2, rfl, a3⟩ := hs j ρ (by omega) h
   obtain ⟨ρ', b1, b2⟩ := ih (j + 1) ρ2 (by omega) (by omega) a3
   refine ⟨ρ', fun p => ?_, b2⟩
   rw [range'_succ, map_cons]
   unfold forD
   rw [a1 p]
   simp only [a2 p]
   exact b1 p
 obtain ⟨ρ', b1, b2⟩ := main n 0 ρ (by omega) (by omega) h0
 refine ⟨_, fun p => ?_, hd ρ' b2⟩
 unfold mfor
 rw [hi p, range_eq_range']
 exact b1 p
theorem runG_rg {n : Nat} {m : MS} {p : Addr} {r r' ds : List D} {d : D} (h : m (startG n p r ds) = some (.rg d p r')) : runG n m p r ds = some (.sh d, r') := by unfold runG; rw [h]; simp only [if_true]
theorem runG_rgf {n : Nat} {m : MS} {p : Addr} {r r' ds es : List D} (h : m (startG n p r ds) = some (.rgf es p r')) : runG n m p r ds = some (.fr es, r') := by unfold runG; rw [h]; simp only [if_true]
def RL (a b : Int) : List D := [.int a, .int b]
def tkX (a b m : Int) : Int := if 10 ^ 18 <= a then a % m else ((((b * 48271 + 11) % 2147483647) * ((b * 48271 + 11) % 2147483647) % 2147483629) * 69621 % 2147483587 / 8) % m
def tkA (a m : Int) : Int := if 10 ^ 18 <= a then a / m else a
def tkB (a b : Int) : Int := if 10 ^ 18 <= a then b else (b * 48271 + 11) % 2147483647
theorem tk_lo (a b m : Int) (h : 0 < m) : 0 <= tkX a b m := by unfold tkX; split <;> exact Int.emod_nonneg _ (by omega)
theorem tk_hi (a b m : Int) (h : 0 < m) : tkX a b m < m := by unfold tkX; split <;> exact Int.emod_lt_of_pos _ h
theorem take_eq (p : Addr) (a b m : Int) (h : 0 < m) (h2 : m < 1073741824) : m_Z4 p (RL a b) [.int m] = some (.sh (.int (tkX a b m)), RL (tkA a m) (tkB a b)) := by
 unfold m_Z4
 refine runG_rg ?_
 have hp : ((10 : Int) ^ (18 : Int).toNat) = 10 ^ 18 := rfl
 have o1 : powOk 10 18 = true := by decide
 have c0 : ∀ x y : Int, atI [D.int x, D.int y] 0 = some (.int x) := fun _ _ => rfl
 have c1 : ∀ x y : Int, atI [D.int x, D.int y] 1 = some (.int y) := fun _ _ => rfl
 have n0 : ixN (0 + 1 + 1) 0 = some 0 := rfl
 have n1 : ixN (0 + 1 + 1) 1 = some 1 := rfl
 unfold b_Z4
 by_cases hb : 10 ^ 18 <= a
 ·have e : b_Z4 (startG 4 p (RL a b) [.int m]) = some (.rg (.int (a % m)) p (RL (a / m) b)) := by
   unfold b_Z4 startG RL
   simp_arith [hp, o1, c0, hb, decide_true, if_true, modOk_of a m h, fdivOk_of a m h h2, n0, mretG, mpu, set_cons_zero]
  unfold b_Z4 at e
  rw [e]
  unfold tkX tkA tkB
  rw [if_pos hb, if_pos hb, if_pos hb]
 ·have q3 : ∀ i, modOk i 2147483647 = true := fun i => modOk_of _ _ (by decide)
  have q4 : ∀ i, modOk i 2147483629 = true := fun i => modOk_of _ _ (by decide)
  have q5 : ∀ i, modOk i 2147483587 = true := fun i => modOk_of _ _ (by decide)
  have q6 : ∀ i, modOk i m = true := fun i => modOk_of _ _ h
  have f8 : ∀ i, fdivOk i 8 = true := fun i => fdivOk_of _ _ (by decide) (by decide)
  have m1 : mulOk b 48271 = true := mulOk_r _ _ (by decide) (by decide)
  have bb := mod_cases (x := b * 48271 + 11) (show (0 : Int) < 2147483647 by decide)
  have m2 : mulOk ((b * 48271 + 11) % 2147483647) ((b * 48271 + 11) % 2147483647) = true := mulOk_l _ _ (by omega) (by omega)
  have m3 : ∀ i, mulOk i 69621 = true := fun i => mulOk_r _ _ (by decide) (by decide)
  have e : b_Z4 (startG 4 p (RL a b) [.int m]) = some (.rg (.int (((((b * 48271 + 11) % 2147483647) * ((b * 48271 + 11) % 2147483647) % 2147483629) * 69621 % 2147483587 / 8) % m)) p (RL a ((b * 48271 + 11) % 2147483647))) := by
   unfold b_Z4 startG RL
   simp_arith [hp, o1, c0, c1, hb, decide_false, if_true, q3, q4, q5, q6, f8, m1, m2, m3, n1, mretG, mpu, set_cons_zero, set_cons_succ]
  unfold b_Z4 at e
  rw [e]
  unfold tkX tkA tkB
  rw [if_neg hb, if_neg hb, if_neg hb]
theorem take_ob {ρ : Ro} {x : ME} {p : Addr} {a b m : Int} (h0 : ρ[0]? = some (some (.ob p (RL a b)))) (hx : x ρ = some (.int m)) (h : 0 < m) (h2 : m < 1073741824) : mcallG m_Z4 0 (apu (acons x anil)) ρ = some (.int (tkX a b m), ρ.set 0 (some (.ob p (RL (tkA a m) (tkB a b))))) :=
 mcallG_ob h0 (apu_ev (acons_ev hx anil_ev)) h0 (take_eq p a b m h h2) rfl
end
section
open PySem L2
theorem take_env {p : Addr} {a b m : Int} {x : ME} {tl : List (Option S)} (hx : x (some (.ob p (RL a b)) :: tl) = some (.int m)) (h : 0 < m) (h2 : m < 1073741824) : mcallG m_Z4 0 (apu (acons x anil)) (some (.ob p (RL a b)) :: tl) = some (.int (tkX a b m), some (.ob p (RL (tkA a m) (tkB a b))) :: tl) :=
 take_ob (ρ := some (.ob p (RL a b)) :: tl) rfl hx h h2
def envR (p : Addr) (a b most many kind span : Int) (f : List Int) (o6 o7 : Option S) : Ro := [some (.ob p (RL a b)), some (.sh (.int most)), some (.sh (.int many)), some (.sh (.int kind)), some (.sh (.int span)), some (.own (f.map .int)), o6, o7]
theorem at3 (x y z : Int) (k : Int) (h0 : 0 <= k) (h1 : k < 3) : ∃ w, atI [D.int x, .int y, .int z] k = some (.int w) /\ (w = x \/ w = y \/ w = z) := by
 have : k = 0 \/ k = 1 \/ k = 2 := by omega
 rcases this with h | h | h <;> subst h
 ·exact ⟨_, rfl, by simp⟩
 ·exact ⟨_, rfl, by simp⟩
 ·exact ⟨_, rfl, by simp⟩
theorem opt_set {c : Int} {E : ME} {kind : Int} {env : Addr -> Int -> Ro} {x : Int} (P : Int -> Prop) (hk : ∀ p x, mvar 3 (env p x) = some (.int kind)) (hset : ∀ p x y, (env p x).set 7 (some (.sh (.int y))) = env p y) (hx : kind ≠ c -> P x) (hE : kind = c -> ∃ y, P y /\ ∀ p, E (env p x) = some (.int y)) :
  ∃ y, P y /\ ∀ p, mif (mtest (m2 eqSD (mvar 3) (mc (.int c)))) (mset 7 E) mnext (env p x) = some (.nx (env p y)) := by
 have ht : ∀ p, mtest (m2 eqSD (mvar 3) (mc (.int c))) (env p x) = some (kind == c) := fun p => by
  unfold mtest m2
  rw [hk p x]; rfl
 by_cases h : kind = c
 ·obtain ⟨y, py, hy⟩ := hE h
  refine ⟨y, py, fun p => ?_⟩
  unfold mif
  rw [ht p, show (kind == c) = true by rw [h]; exact beq_self_eq_true _]
  show mset 7 E (env p x) = _
  rw [mset_ev (hy p), hset]
 ·refine ⟨x, hx h, fun p => ?_⟩
  unfold mif
  rw [ht p, beq_eq_false_iff_ne.mpr h]
  rfl
theorem row_body (a b most many kind span : Int) (f : List Int) (k : Nat) (o7 : Option S) (hs : 0 < span) (hs2 : span <= 100) (hf : f.length < 1000) :
  ∃ a' b' x, URun b_Z10_f0 (fun p => envR p a b most many kind span f (some (.sh (.int (k : Int)))) o7) (fun o => o = fun p => .nx (envR p a' b' most many kind span (f ++ [x]) (some (.sh (.int (k : Int)))) (some (.sh (.int x))))) := by
 have big := size_big
 have x0lo := tk_lo a b span hs
 have x0hi := tk_hi a b span hs
 generalize ha1 : tkA a span = a1
 generalize hb1 : tkB a b = b1
 have st0 : ∀ p, msetm 7 (mcallG m_Z4 0 (apu (acons (mvar 4) anil))) (envR p a b most many kind span f (some (.sh (.int (k : Int)))) o7) = some (.nx (envR p a1 b1 most many kind span f (some (.sh (.int (k : Int)))) (some (.sh (.int (tkX a b span)))))) := fun p => by
  rw [<- ha1, <- hb1]
  exact (msetm_ev (take_env (x := mvar 4) (m := span) rfl hs (by omega))).trans rfl
 generalize tkX a b span = x0 at x0lo x0hi st0
 let env : Addr -> Int -> Ro := fun p x => envR p a1 b1 most many kind span f (some (.sh (.int (k : Int)))) (some (.sh (.int x)))
 have hk : ∀ p x, mvar 3 (env p x) = some (.int kind) := fun _ _ => rfl
 have hset : ∀ p x y, (env p x).set 7 (some (.sh (.int y))) = env p y := fun _ _ _ => rfl
 have i2 : 0 + 1 + 1 <= sizeLine := le_size (by decide)
 have p27 : (10 : Int) ^ (27 : Int).toNat = 1000000000000000000000000000 := by decide
 have p26 : (10 : Int) ^ (26 : Int).toNat = 100000000000000000000000000 := by decide
 have o27 : powOk 10 27 = true := by decide
 have o26 : powOk 10 26 = true := by decide
 obtain ⟨x1, ⟨l1, u1⟩, s1⟩ := opt_set (c := 1) (E := m2 subD (mvar 7) (m2 fdivD (mvar 4) (mc (.int 2)))) (env := env) (x := x0) (fun y => -1000 <= y /\ y <= 1000) hk hset (fun _ => by omega)
  (fun _ => ⟨x0 - span / 2, by omega, fun p => by show m2 subD _ _ (envR _ _ _ _ _ _ _ _ _ _) = _; unfold envR; simp_arith [fdivOk_of span 2 (by decide) (by decide), if_true]⟩)
 have mu1 : mulOk x1 1000000000000000000000000000 = true := mulOk_l _ _ (by omega) (by omega)
 have mu2 : mulOk span 100000000000000000000000000 = true := mulOk_l _ _ (by omega) (by omega)
 obtain ⟨x2, _, s2⟩ := opt_set (c := 2) (E := m2 subD (m2 mulD (mvar 7) (m2 powD (mc (.int 10)) (mc (.int 27)))) (m2 mulD (mvar 4) (m2 powD (mc (.int 10)) (mc (.int 26))))) (env := env) (x := x1) (fun _ => True) hk hset (fun _ => True.intro)
  (fun _ => ⟨x1 * 1000000000000000000000000000 - span * 100000000000000000000000000, True.intro, fun p => by show m2 subD _ _ (envR _ _ _ _ _ _ _ _ _ _) = _; unfold envR; simp_arith [p27, p26, o27, o26, mu1, mu2, if_true]⟩)
 have m2k := mod_cases (x := (k : Int)) (show (0 : Int) < 2 by decide)
 obtain ⟨y3, e3⟩ := at2 x2 (span + x2) ((k : Int) % 2) m2k.1 m2k.2
 obtain ⟨x3, _, s3⟩ := opt_set (c := 3) (E := mix (sized (acons (mvar 7) (acons (m2 addD (mvar 4) (mvar 7)) anil))) (m2 modD (mvar 6) (mc (.int 2)))) (env := env) (x := x2) (fun _ => True) hk hset (fun _ => True.intro)
  (fun _ => ⟨y3, True.intro, fun p => by show mix _ _ (envR _ _ _ _ _ _ _ _ _ _) = _; unfold envR; simp_arith [i2, if_true, modOk_of (k : Int) 2 (by decide), e3]⟩)
 obtain ⟨x4, _, s4⟩ := opt_set (c := 4) (E := m2 addD (mvar 7) (mvar 6)) (env := env) (x := x3) (fun _ => True) hk hset (fun _ => True.intro)
  (fun _ => ⟨x3 + k, True.intro, fun p => by show m2 addD _ _ (envR _ _ _ _ _ _ _ _ _ _) = _; unfold envR; simp_arith []⟩)
 have lf : (f.map D.int).length < sizeLine := by simp; omega
 have fin : ∀ a2 b2 x, URun (mapp 5 (mvar 7)) (fun p => envR p a2 b2 most many kind span f (some (.sh (.int (k : Int)))) (some (.sh (.int x)))) (fun o => o = fun p => .nx (envR p a2 b2 most many kind span (f ++ [x]) (some (.sh (.int (k : Int)))) (some (.sh (.int x))))) := fun a2 b2 x =>
  ur_last (ρ' := fun p => envR p a2 b2 most many kind span (f ++ [x]) (some (.sh (.int (k : Int)))) (some (.sh (.int x)))) (fun p => by unfold envR; simp_arith [lf, if_true, map_append]) rfl
 have ht5 : ∀ p, mtest (m2 eqSD (mvar 3) (mc (.int 5))) (env p x4) = some (kind == 5) := fun p => by
  unfold mtest m2
  rw [hk p x4]; rfl
 by_cases h5 : kind = 5
 ·have t4lo := tk_lo a1 b1 4 (by decide)
  have mu5 : mulOk (if (tkX a1 b1 4 == 0) = true then 1 else 0) x4 = true := mulOk_l _ _ (by split <;> decide) (by split <;> decide)
  refine ⟨tkA a1 4, tkB a1 b1, (if (tkX a1 b1 4 == 0) = true then 1 else 0) * x4, ?_⟩
  unfold b_Z10_f0
  refine ur_seq st0 (ur_seq s1 (ur_seq s2 (ur_seq s3 (ur_seq s4 (ur_seq (ρ' := fun p => envR p (tkA a1 4) (tkB a1 b1) most many kind span f (some (.sh (.int (k : Int)))) (some (.sh (.int ((if (tkX a1 b1 4 == 0) = true then 1 else 0) * x4))))) (fun p => ?_) (fin _ _ _))))))
  unfold mif
  rw [ht5 p, show (kind == 5) = true by rw [h5]; rfl]
  show msetm 7 _ (env p x4) = _
  refine (msetm_ev (m2m_ev (call1m_ev (aconsm_ev (m2m_ev (take_env (x := mc (.int 4)) (m := 4) rfl (by decide) (by decide)) (mpu_ev (d := .int 0) rfl) (g := .bl (tkX a1 b1 4 == 0)) rfl) (apu_ev (d := []) rfl)) (d := .int (if (tkX a1 b1 4 == 0) = true then 1 else 0)) rfl) (mpu_ev (d := .int x4) rfl) (g := .int ((if (tkX a1 b1 4 == 0) = true then 1 else 0) * x4)) ?_)).trans rfl
  show (if mulOk _ _ = true then _ else none) = _
  rw [if_pos mu5]
 ·refine ⟨a1, b1, x4, ?_⟩
  unfold b_Z10_f0
  refine ur_seq st0 (ur_seq s1 (ur_seq s2 (ur_seq s3 (ur_seq s4 (ur_seq (ρ' := fun p => env p x4) (fun p => ?_) (fin a1 b1 x4))))))
  unfold mif
  rw [ht5 p, beq_eq_false_iff_ne.mpr h5]
  rfl
theorem row_eq (a b : Int) (most : Nat) (hm : most <= 300) : ∃ (f : List Int) (a' b' : Int), f.length <= 300 /\ ∀ p, m_Z10 p (RL a b) [.int most] = some (.fr (f.map .int), RL a' b') := by
 suffices h : URun b_Z10 (fun p => startG 8 p (RL a b) [.int most]) (fun o => ∃ (f : List Int) (a' b' : Int), f.length <= 300 /\ o = fun p => .rgf (f.map .int) p (RL a' b')) by
  obtain ⟨o, e, f, a', b', hf, rfl⟩ := h
  exact ⟨f, a', b', hf, fun p => runG_rgf (e p)⟩
 have i0 : 0 <= sizeLine := Nat.zero_le _
 have i3 : [D.int (tkX a b ((most : Int) + 1)), D.int (most : Int), D.int (tkX (tkA a ((most : Int) + 1)) (tkB a b) (min (most : Int) 4 + 1))].length <= sizeLine := le_size (by simp)
 have i4 : 0 + 1 + 1 + 1 + 1 <= sizeLine := le_size (by decide)
 have q1 : (0 : Int) < (most : Int) + 1 := by omega
 have q2 : (0 : Int) < min (most : Int) 4 + 1 := by omega
 have l1 := tk_lo a b ((most : Int) + 1) q1
 have u1 := tk_hi a b ((most : Int) + 1) q1
 generalize hA1 : tkA a ((most : Int) + 1) = A1 at i3
 generalize hB1 : tkB a b = B1 at i3
 have l2 := tk_lo A1 B1 (min (most : Int) 4 + 1) q2
 have u2 := tk_hi A1 B1 (min (most : Int) 4 + 1) q2
 generalize hA2 : tkA A1 (min (most : Int) 4 + 1) = A2
 generalize hB2 : tkB A1 B1 = B2
 have l3 := tk_lo A2 B2 3 (by decide)
 have u3 := tk_hi A2 B2 3 (by decide)
 obtain ⟨many, em, hmn⟩ := at3 (tkX a b ((most : Int) + 1)) (most : Int) (tkX A1 B1 (min (most : Int) 4 + 1)) (tkX A2 B2 3) l3 u3
 have hmany : 0 <= many /\ many <= most := by omega
 unfold b_Z10
 generalize hA3 : tkA A2 3 = A3
 generalize hB3 : tkB A2 B2 = B3
 refine ur_seq (ρ' := fun p => [some (.ob p (RL A3 B3)), some (.sh (.int (most : Int))), some (.sh (.int many)), none, none, none, none, none]) (fun p => ?_) ?_
 ·have e2 : (call1 min2F (acons (mvar 1) (acons (mc (.int 4)) anil))) [some (.ob p (RL A1 B1)), some (.sh (.int (most : Int))), none, none, none, none, none, none] = some (.int (min (most : Int) 4)) := by simp_arith [min_if]
  have e3 : m2 addD (call1 min2F (acons (mvar 1) (acons (mc (.int 4)) anil))) (mc (.int 1)) [some (.ob p (RL A1 B1)), some (.sh (.int (most : Int))), none, none, none, none, none, none] = some (.int (min (most : Int) 4 + 1)) := by unfold m2; rw [e2]; rfl
  have t1 := take_env (p := p) (a := a) (b := b) (m := (most : Int) + 1) (x := m2 addD (mvar 1) (mc (.int 1))) (tl := [some (.sh (.int (most : Int))), none, none, none, none, none, none]) (by simp_arith []) q1 (by omega)
  rw [hA1, hB1] at t1
  have t2 := take_env (p := p) (a := A1) (b := B1) (m := min (most : Int) 4 + 1) (x := m2 addD (call1 min2F (acons (mvar 1) (acons (mc (.int 4)) anil))) (mc (.int 1))) (tl := [some (.sh (.int (most : Int))), none, none, none, none, none, none]) e3 q2 (by omega)
  rw [hA2, hB2] at t2
  have t3 := take_env (p := p) (a := A2) (b := B2) (m := 3) (x := mc (.int 3)) (tl := [some (.sh (.int (most : Int))), none, none, none, none, none, none]) rfl (by decide) (by decide)
  rw [hA3, hB3] at t3
  exact (msetm_ev (m2m_ev (mlstm_ev (aconsm_ev t1 (aconsm_ev (mpu_ev (d := .int (most : Int)) rfl) (aconsm_ev t2 (apu_ev (d := []) rfl)))) i3) t3 (g := .int many) em)).trans rfl
 have l4 := tk_lo A3 B3 6 (by decide)
 have u4 := tk_hi A3 B3 6 (by decide)
 generalize hA4 : tkA A3 6 = A4
 generalize hB4 : tkB A3 B3 = B4
 refine ur_seq (ρ' := fun p => [some (.ob p (RL A4 B4)), some (.sh (.int (most : Int))), some (.sh (.int many)), some (.sh (.int (tkX A3 B3 6))), none, none, none, none]) (fun p => ?_) ?_
 ·have t := take_env (p := p) (a := A3) (b := B3) (m := 6) (x := mc (.int 6)) (tl := [some (.sh (.int (most : Int))), some (.sh (.int many)), none, none, none, none, none]) rfl (by decide) (by decide)
  rw [hA4, hB4] at t
  exact (msetm_ev t).trans rfl
 generalize tkX A3 B3 6 = kind
 have l5 := tk_lo A4 B4 4 (by decide)
 have u5 := tk_hi A4 B4 4 (by decide)
 obtain ⟨span, es, hsp⟩ := at4 2 4 10 100 (tkX A4 B4 4) l5 u5
 generalize hA5 : tkA A4 4 = A5
 generalize hB5 : tkB A4 B4 = B5
 refine ur_seq (ρ' := fun p => [some (.ob p (RL A5 B5)), some (.sh (.int (most : Int))), some (.sh (.int many)), some (.sh (.int kind)), some (.sh (.int span)), none, none, none]) (fun p => ?_) ?_
 ·have t := take_env (p := p) (a := A4) (b := B4) (m := 4) (x := mc (.int 4)) (tl := [some (.sh (.int (most : Int))), some (.sh (.int many)), some (.sh (.int kind)), none, none, none, none]) rfl (by decide) (by decide)
  rw [hA5, hB5] at t
  exact (msetm_ev (m2m_ev (mpu_ev (d := .lst [.int 2, .int 4, .int 10, .int 100]) (by simp_arith [i4, if_true])) t (g := .int span) es)).trans rfl
 refine ur_seq (ρ' := fun p => envR p A5 B5 most many kind span [] none none) (fun p => by unfold envR; simp_arith [i0, if_true]) ?_
 obtain ⟨n, en⟩ := nat_of hmany.1
 subst en
 have k1 : okR (n : Int) = true := okR_of (by omega) (by omega)
 refine ur_mseq (ur_forN n (f := fun (j : Nat) => D.int (j : Int)) (fun p => by unfold envR; simp_arith [rng1_ok k1, Int.toNat_natCast]; rw [rangeD_li, map_map]; rfl)
  (I := fun j ρ => ∃ (f : List Int) (a b : Int) (o6 o7 : Option S), f.length = j /\ ρ = fun p => envR p a b most n kind span f o6 o7) ⟨[], A5, B5, none, none, rfl, rfl⟩ ?_ ?_)
 ·rintro j ρ hj ⟨f, a, b, o6, o7, hf, rfl⟩
  obtain ⟨a', b', x, o, e, rfl⟩ := row_body a b most n kind span f j o7 (by omega) (by omega) (by omega)
  exact ⟨fun p => envR p a b most n kind span f (some (.sh (.int (j : Int)))) o7, fun p => rfl, _, e, _, rfl, f ++ [x], a', b', _, _, by simp [hf], rfl⟩
 ·rintro ρ ⟨f, a, b, o6, o7, hf, rfl⟩
  refine ⟨_, rfl, fun p => .rgf (f.map .int) p (RL a b), fun p => ?_, f, a, b, by omega, rfl⟩
  unfold mretGO envR
  rfl
end
section
open PySem L2
theorem all_at {ds : List Int} {P : Int -> Prop} (h : ∀ x ∈ ds, P x) (k : Int) (h0 : 0 <= k) (h1 : k < ds.length) : ∃ x, atI (ds.map D.int) k = some (.int x) /\ P x := by
 have hl : k.toNat < ds.length := by omega
 refine ⟨ds.getD k.toNat 0, atI_map D.int ds k h0 h1 0, h _ ?_⟩
 rw [getD_eq_getElem?_getD, getElem?_eq_getElem hl]
 exact getElem_mem hl
theorem step_eq (a b : Int) (row : List Int) (hr : row.length <= 300) : ∃ (s a' b' : Int), 1 <= s /\ ∀ p, m_Z8 p (RL a b) [.lst (row.map .int)] = some (.sh (.int s), RL a' b') := by
 suffices h : URun b_Z8 (fun p => startG 4 p (RL a b) [.lst (row.map .int)]) (fun o => ∃ (s a' b' : Int), 1 <= s /\ o = fun p => .rg (.int s) p (RL a' b')) by
  obtain ⟨o, e, s, a', b', hs, rfl⟩ := h
  exact ⟨s, a', b', hs, fun p => runG_rg (e p)⟩
 have i0 : 0 <= sizeLine := Nat.zero_le _
 have p27 : (10 : Int) ^ (27 : Int).toNat = 1000000000000000000000000000 := by decide
 have p29 : (10 : Int) ^ (29 : Int).toNat = 100000000000000000000000000000 := by decide
 have o27 : powOk 10 27 = true := by decide
 have o29 : powOk 10 29 = true := by decide
 have l1 := tk_lo a b 4 (by decide)
 generalize hA1 : tkA a 4 = A1
 generalize hB1 : tkB a b = B1
 have l2 := tk_lo A1 B1 100 (by decide)
 generalize hA2 : tkA A1 100 = A2
 generalize hB2 : tkB A1 B1 = B2
 generalize hx1 : tkX a b 4 = x1 at l1
 generalize hx2 : tkX A1 B1 100 = x2 at l2
 let so : List Int := [1, 1, 1 + x1, 1 + x2, 1000000000000000000000000000, 100000000000000000000000000000]
 have hso : ∀ x ∈ so, 1 <= x := by
  intro x hx
  simp only [so, mem_cons, mem_nil_iff, or_false] at hx
  rcases hx with h | h | h | h | h | h <;> omega
 unfold b_Z8
 refine ur_seq (ρ' := fun p => [some (.ob p (RL A2 B2)), some (.sh (.lst (row.map .int))), some (.sh (.lst (so.map .int))), none]) (fun p => ?_) ?_
 ·have t1 := take_env (p := p) (a := a) (b := b) (m := 4) (x := mc (.int 4)) (tl := [some (.sh (.lst (row.map .int))), none, none]) rfl (by decide) (by decide)
  rw [hA1, hB1, hx1] at t1
  have t2 := take_env (p := p) (a := A1) (b := B1) (m := 100) (x := mc (.int 100)) (tl := [some (.sh (.lst (row.map .int))), none, none]) rfl (by decide) (by decide)
  rw [hA2, hB2, hx2] at t2
  refine (msetm_ev (mlstm_ev (ds := so.map .int) (aconsm_ev (mpu_ev (d := .int 1) rfl) (aconsm_ev (mpu_ev (d := .int 1) rfl) (aconsm_ev (m2m_ev (mpu_ev (d := .int 1) rfl) t1 (g := .int (1 + x1)) rfl) (aconsm_ev (m2m_ev (mpu_ev (d := .int 1) rfl) t2 (g := .int (1 + x2)) rfl) (apu_ev (d := [.int 1000000000000000000000000000, .int 100000000000000000000000000000]) ?_))))) (le_size (by simp [so])))).trans rfl
  simp_arith [p27, p29, o27, o29, if_true]
 have last : ∀ (A B : Int) (zs : List Int) (o3 : Option S), zs ≠ [] -> zs.length <= 1000 -> (∀ x ∈ zs, 1 <= x) -> URun (mretG 0 (m2m ixLD (mpu (mvar 2)) (mcallG m_Z4 0 (apu (acons (mlen (bvar 2)) anil))))) (fun p => [some (.ob p (RL A B)), some (.sh (.lst (row.map .int))), some (.sh (.lst (zs.map .int))), o3]) (fun o => ∃ (s a' b' : Int), 1 <= s /\ o = fun p => .rg (.int s) p (RL a' b')) := by
  intro A B zs o3 hne hl hz
  have hpos : (0 : Int) < (zs.length : Int) := by
   cases zs with
   | nil => exact absurd rfl hne
   | cons x r => rw [length_cons]; omega
  obtain ⟨s, e, hs⟩ := all_at hz (tkX A B zs.length) (tk_lo A B _ hpos) (tk_hi A B _ hpos)
  refine ⟨fun p => .rg (.int s) p (RL (tkA A zs.length) (tkB A B)), fun p => ?_, s, _, _, hs, rfl⟩
  exact mretG_ev (m2m_ev (mpu_ev (d := .lst (zs.map .int)) rfl) (take_env (m := (zs.length : Int)) (by simp_arith [length_map]) hpos (by omega)) (g := .int s) e) rfl
 refine ur_mseq (ur_if (b := !(row.map D.int).isEmpty) (fun p => eqB_nil (ds := row.map .int) rfl) ?_)
 cases hrow : row with
 | nil =>
  subst hrow
  exact ur_next ⟨_, rfl, last A2 B2 so none (by simp [so]) (by simp [so]) hso⟩
 | cons r0 rs =>
  rw [<- hrow]
  have hpos : (0 : Int) < (row.length : Int) := by rw [hrow, length_cons]; omega
  rw [show (!(row.map D.int).isEmpty) = true by rw [hrow]; rfl]
  show URun (mseq _ _) _ _
  obtain ⟨v1, e1, _⟩ := all_at (ds := row) (P := fun _ => True) (fun _ _ => True.intro) (tkX A2 B2 row.length) (tk_lo _ _ _ hpos) (tk_hi _ _ _ hpos)
  generalize hA3 : tkA A2 row.length = A3
  generalize hB3 : tkB A2 B2 = B3
  obtain ⟨v2, e2, _⟩ := all_at (ds := row) (P := fun _ => True) (fun _ _ => True.intro) (tkX A3 B3 row.length) (tk_lo _ _ _ hpos) (tk_hi _ _ _ hpos)
  generalize hA4 : tkA A3 row.length = A4
  generalize hB4 : tkB A3 B3 = B4
  refine ur_seq (ρ' := fun p => [some (.ob p (RL A4 B4)), some (.sh (.lst (row.map .int))), some (.sh (.lst (so.map .int))), some (.sh (.int (if v1 - v2 < 0 then -(v1 - v2) else v1 - v2)))]) (fun p => ?_) ?_
  ·have t1 := take_env (p := p) (a := A2) (b := B2) (m := (row.length : Int)) (x := mlen (bvar 1)) (tl := [some (.sh (.lst (row.map .int))), some (.sh (.lst (so.map .int))), none]) (by simp_arith [length_map]) hpos (by omega)
   rw [hA3, hB3] at t1
   have t2 := take_env (p := p) (a := A3) (b := B3) (m := (row.length : Int)) (x := mlen (bvar 1)) (tl := [some (.sh (.lst (row.map .int))), some (.sh (.lst (so.map .int))), none]) (by simp_arith [length_map]) hpos (by omega)
   rw [hA4, hB4] at t2
   exact (msetm_ev (call1m_ev (aconsm_ev (m2m_ev (m2m_ev (mpu_ev (d := .lst (row.map .int)) rfl) t1 (g := .int v1) e1) (m2m_ev (mpu_ev (d := .lst (row.map .int)) rfl) t2 (g := .int v2) e2) (g := .int (v1 - v2)) rfl) (apu_ev (d := []) rfl)) rfl)).trans rfl
  generalize hap : (if v1 - v2 < 0 then -(v1 - v2) else v1 - v2) = ap
  have hap0 : 0 <= ap := by rw [<- hap]; split <;> omega
  have i2 : 0 + 1 + 1 <= sizeLine := le_size (by decide)
  refine ur_last (ρ' := fun p => [some (.ob p (RL A4 B4)), some (.sh (.lst (row.map .int))), some (.sh (.lst ((so ++ [max 1 ap, ap + 1]).map .int))), some (.sh (.int ap))]) (fun p => ?_) ⟨_, rfl, last A4 B4 (so ++ [max 1 ap, ap + 1]) _ (by simp) (by simp [so]) ?_⟩
  ·have e : mcat (bvar 2) (sized (acons (call1 max2F (acons (mc (.int 1)) (acons (mvar 3) anil))) (acons (m2 addD (mvar 3) (mc (.int 1))) anil))) [some (.ob p (RL A4 B4)), some (.sh (.lst (row.map .int))), some (.sh (.lst (so.map .int))), some (.sh (.int ap))] = some (so.map .int ++ [.int (max 1 ap), .int (ap + 1)]) :=
    mcat_ev (ds := so.map .int) rfl (sized_ev (acons_ev (d := .int (max 1 ap)) (by simp_arith [max_if]) (acons_ev (d := .int (ap + 1)) (by simp_arith []) anil_ev)) i2) (le_size (by simp [so]))
   rw [mset_ev (mlst_ev e), map_append]
   rfl
  ·intro x hx
   rcases List.mem_append.mp hx with h | h
   ·exact hso x h
   ·simp only [mem_cons, mem_nil_iff, or_false] at h
    rcases h with h | h <;> omega
end
section
open PySem L2
def sg (b : Bool) : Int := if b then 1 else -1
def pm (p : Nat) : Int := if p % 2 = 0 then 1 else -1
theorem mir_at (b : Bool) (row : List Int) (i : Nat) (hi : i < row.length) : (mirF b row).getD i 0 = if i % 2 = lowN b then -(row.getD i 0) else row.getD i 0 := by
 rw [mirF_map]
 simp [getD_eq_getElem?_getD, hi]
theorem mir_sum (b : Bool) (row : List Int) (p : Nat) (hp : p + 1 < row.length) : (row.getD (p + 1) 0 - row.getD p 0) * sg b * pm p = (mirF b row).getD p 0 + (mirF b row).getD (p + 1) 0 := by
 rw [mir_at b row p (by omega), mir_at b row (p + 1) hp]
 unfold sg pm
 rcases Nat.mod_two_eq_zero_or_one p with h | h
 ·have h2 : (p + 1) % 2 = 1 := by omega
  rw [h, h2]
  cases b <;> simp [lowN] <;> omega
 ·have h2 : (p + 1) % 2 = 0 := by omega
  rw [h, h2]
  cases b <;> simp [lowN] <;> omega
theorem right_eq (b : Bool) (row : List Int) (s : Int) (p : Nat) (hp : p + 1 < row.length) : m_Z1 [RI row, .int s, .int (p : Int), .int (sg b)] = some (.sh (.bl (decide (s <= (mirF b row).getD p 0 + (mirF b row).getD (p + 1) 0)))) := by
 have i2 : 0 + 1 + 1 <= sizeLine := le_size (by decide)
 unfold m_Z1 b_Z1
 refine runB_rt (mret_ev ?_)
 have e1 : mix (bvar 0) (m2 addD (mvar 2) (mc (.int 1))) (startS 4 [RI row, .int s, .int (p : Int), .int (sg b)]) = some (.int (row.getD (p + 1) 0)) := mix_ev (ds := row.map .int) (k := ((p + 1 : Nat) : Int)) rfl ((m2_at2 (a := .int (p : Int)) (b := .int 1) rfl rfl).trans rfl) (at_nat row (p + 1) hp)
 have e2 : mix (bvar 0) (mvar 2) (startS 4 [RI row, .int s, .int (p : Int), .int (sg b)]) = some (.int (row.getD p 0)) := mix_ev (ds := row.map .int) (k := (p : Int)) rfl rfl (at_nat row p (by omega))
 have e3 := (m2_at2 (f := subD) e1 e2).trans (show subD (.int (row.getD (p + 1) 0)) (.int (row.getD p 0)) = some (.int (row.getD (p + 1) 0 - row.getD p 0)) from rfl)
 have e4 : m2 mulD (m2 subD (mix (bvar 0) (m2 addD (mvar 2) (mc (.int 1)))) (mix (bvar 0) (mvar 2))) (mvar 3) (startS 4 [RI row, .int s, .int (p : Int), .int (sg b)]) = some (.int ((row.getD (p + 1) 0 - row.getD p 0) * sg b)) := by
  rw [m2_at2 e3 (b := .int (sg b)) rfl]
  show (if mulOk _ (sg b) = true then some (D.int _) else none) = _
  rw [if_pos (mulOk_r _ _ (by cases b <;> decide) (by cases b <;> decide))]
 have e5 : mix (sized (acons (mc (.int 1)) (acons (m1 negD (mc (.int 1))) anil))) (m2 modD (mvar 2) (mc (.int 2))) (startS 4 [RI row, .int s, .int (p : Int), .int (sg b)]) = some (.int (pm p)) := by
  have em : m2 modD (mvar 2) (mc (.int 2)) (startS 4 [RI row, .int s, .int (p : Int), .int (sg b)]) = some (.int ((p % 2 : Nat) : Int)) := by
   rw [m2_at2 (a := .int (p : Int)) (b := .int 2) rfl rfl]
   show (if modOk (p : Int) 2 = true then some (D.int ((p : Int) % 2)) else none) = _
   rw [if_pos (modOk_of _ _ (by decide))]
   rfl
  refine mix_ev (ds := [.int 1, .int (-1)]) (sized_ev (acons_ev rfl (acons_ev rfl anil_ev)) i2) em ?_
  unfold pm
  rcases Nat.mod_two_eq_zero_or_one p with h | h
  ·rw [h]; rfl
  ·rw [h]; rfl
 have e6 : m2 mulD (m2 mulD (m2 subD (mix (bvar 0) (m2 addD (mvar 2) (mc (.int 1)))) (mix (bvar 0) (mvar 2))) (mvar 3)) (mix (sized (acons (mc (.int 1)) (acons (m1 negD (mc (.int 1))) anil))) (m2 modD (mvar 2) (mc (.int 2)))) (startS 4 [RI row, .int s, .int (p : Int), .int (sg b)]) = some (.int ((row.getD (p + 1) 0 - row.getD p 0) * sg b * pm p)) := by
  rw [m2_at2 e4 e5]
  show (if mulOk _ (pm p) = true then some (D.int _) else none) = _
  rw [if_pos (mulOk_r _ _ (by unfold pm; split <;> decide) (by unfold pm; split <;> decide))]
 rw [m2_at2 e6 (b := .int s) rfl, mir_sum b row p hp]
 rfl
def PR (ps : List (Int × Int)) : List Fl := ps.map fun q => .l [.int q.1, .int q.2]
def PDn (ps : List (Int × Int)) : D := .lst (ps.map fun q => .lst [.int q.1, .int q.2])
theorem set_fst (ps : List (Int × Int)) (p : Nat) (v : Int) (hp : p < ps.length) : setR (p : Int) 0 (.int v) (PR ps) = some (PR (ps.set p (v, (ps.getD p (0, 0)).2))) := by
 unfold setR PR
 rw [length_map, ixN_in (by omega) (by omega)]
 simp only [Int.toNat_natCast]
 rw [getElem?_map, getElem?_eq_getElem hp]
 simp only [Option.map_some]
 show some (List.set _ p (Fl.l [D.int v, .int (ps[p]).2])) = _
 rw [map_set]
 simp [getD_eq_getElem?_getD, hp]
theorem set_snd (ps : List (Int × Int)) (p : Nat) (v : Int) (hp : p < ps.length) : setR (p : Int) 1 (.int v) (PR ps) = some (PR (ps.set p ((ps.getD p (0, 0)).1, v))) := by
 unfold setR PR
 rw [length_map, ixN_in (by omega) (by omega)]
 simp only [Int.toNat_natCast]
 rw [getElem?_map, getElem?_eq_getElem hp]
 simp only [Option.map_some]
 show some (List.set _ p (Fl.l [D.int (ps[p]).1, .int v])) = _
 rw [map_set]
 simp [getD_eq_getElem?_getD, hp]
theorem pair_at {ps : List (Int × Int)} {p : Nat} (hp : p < ps.length) {i : ME} {ρ : Ro} (hb : bvar 4 ρ = some (ps.map fun q => .lst [.int q.1, .int q.2])) (hi : i ρ = some (.int (p : Int))) : aslst (mix (bvar 4) i) ρ = some [.int (ps.getD p (0, 0)).1, .int (ps.getD p (0, 0)).2] := by
 refine aslst_ev (mix_ev hb hi ?_)
 have := atI_map (fun q : Int × Int => D.lst [.int q.1, .int q.2]) ps (p : Int) (by omega) (by omega) (0, 0)
 rw [Int.toNat_natCast] at this
 exact this
theorem fst_at {ps : List (Int × Int)} {p : Nat} (hp : p < ps.length) {i : ME} {ρ : Ro} (hb : bvar 4 ρ = some (ps.map fun q => .lst [.int q.1, .int q.2])) (hi : i ρ = some (.int (p : Int))) : mix (aslst (mix (bvar 4) i)) (mc (.int 0)) ρ = some (.int (ps.getD p (0, 0)).1) := mix_ev (pair_at hp hb hi) (k := 0) rfl rfl
theorem snd_at {ps : List (Int × Int)} {p : Nat} (hp : p < ps.length) {i : ME} {ρ : Ro} (hb : bvar 4 ρ = some (ps.map fun q => .lst [.int q.1, .int q.2])) (hi : i ρ = some (.int (p : Int))) : mix (aslst (mix (bvar 4) i)) (mc (.int 1)) ρ = some (.int (ps.getD p (0, 0)).2) := mix_ev (pair_at hp hb hi) (k := 1) rfl rfl
theorem forW_run {α : Type} {g : Tg} {body : MW} {f : α -> D} (I : List α -> Ro -> Bx -> Prop) (hs : ∀ d ds ρ β, I (d :: ds) ρ β -> ∃ ρ1 ρ2 β2, tgD g (f d) ρ = some ρ1 /\ body ρ1 β = some (.nx ρ2, β2) /\ I ds ρ2 β2) :
  ∀ (ds : List α) (ρ : Ro) (β : Bx), I ds ρ β -> ∃ ρ' β', forW g body (ds.map f) ρ β = some (.nx ρ', β') /\ I [] ρ' β'
 | [], ρ, β, h => ⟨ρ, β, rfl, h⟩
 | d :: ds, ρ, β, h => by
  obtain ⟨ρ1, ρ2, β2, h1, h2, h3⟩ := hs d ds ρ β h
  obtain ⟨ρ', β', e, h4⟩ := forW_run I hs ds ρ2 β2 h3
  refine ⟨ρ', β', ?_, h4⟩
  rw [map_cons, forW, h1]
  simp only
  rw [h2]
  exact e
end
section
open PySem L2
def Gd (q : Int × Int) : Prop := q.2 <= q.1 /\ q.1 <= q.2 + 1
def eK (row : List Int) (s : Int) (b : Bool) (d4 : D) (o5 o6 o7 o8 : Option S) : Ro := [some (.sh (RI row)), some (.sh (.int s)), some (.sh (.int (sg b))), some (.sh (.int (row.length : Int))), some (.sh d4), o5, o6, o7, o8]
theorem PR_D (ps : List (Int × Int)) : cellD (.row (PR ps)) = PDn ps := by
 show D.lst ((PR ps).map flD) = PDn ps
 unfold PR PDn
 rw [map_map]
 rfl
theorem thaw_K (row : List Int) (s : Int) (b : Bool) (x : Addr) (ps : List (Int × Int)) (o5 o6 o7 o8 : Option S) (h5 : thawS [(x, .row (PR ps))] o5 = o5) (h6 : thawS [(x, .row (PR ps))] o6 = o6) (h7 : thawS [(x, .row (PR ps))] o7 = o7) (h8 : thawS [(x, .row (PR ps))] o8 = o8) : thaw (eK row s b (.ptr x) o5 o6 o7 o8) [(x, .row (PR ps))] = eK row s b (PDn ps) o5 o6 o7 o8 := by
 unfold thaw eK
 simp only [map_cons, map_nil, h5, h6, h7, h8]
 have : thawS [(x, Cell.row (PR ps))] (some (.sh (.ptr x))) = some (.sh (PDn ps)) := by
  unfold thawS
  simp only [lookup_cons, beq_self_eq_true]
  rw [PR_D]
 rw [this]
 rfl
theorem look_int {m : ME} {ρ : Ro} {β : Bx} {v : Int} (h : m (thaw ρ β) = some (.int v)) : lookE m ρ β = some (.int v) := by
 unfold lookE; rw [h]; rfl
theorem updB_one (x : Addr) (c c' : Cell) : updB x c' [(x, c)] = [(x, c')] := by unfold updB; rw [if_pos rfl]
theorem msetR_ev {row : List Int} {s : Int} {b : Bool} {x : Addr} {ps ps' : List (Int × Int)} {o5 o6 o7 o8 : Option S} {k1 k2 : ME} {v : Ro -> Bx -> Option D} {d : D} {a c : Int} (hv : v (eK row s b (.ptr x) o5 o6 o7 o8) [(x, .row (PR ps))] = some d) (h1 : k1 (eK row s b (.ptr x) o5 o6 o7 o8) = some (.int a)) (h2 : k2 (eK row s b (.ptr x) o5 o6 o7 o8) = some (.int c)) (h3 : setR a c d (PR ps) = some (PR ps')) :
  msetR 4 k1 k2 v (eK row s b (.ptr x) o5 o6 o7 o8) [(x, .row (PR ps))] = some (.nx (eK row s b (.ptr x) o5 o6 o7 o8), [(x, .row (PR ps'))]) := by
 unfold msetR
 rw [hv, h1, h2]
 show (match List.lookup x [(x, Cell.row (PR ps))] with | some (.row fs) => (setR a c d fs).map fun fs' => ((Out.nx (eK row s b (.ptr x) o5 o6 o7 o8)), updB x (.row fs') [(x, Cell.row (PR ps))]) | _ => none) = _
 simp only [lookup_cons, beq_self_eq_true]
 rw [h3]
 simp only [Option.map_some, updB_one]
theorem seqW {x y : MW} {ρ ρ' : Ro} {β β' : Bx} {r : Option (Out × Bx)} (h : x ρ β = some (.nx ρ', β')) (h2 : y ρ' β' = r) : mseqW x y ρ β = r := by
 unfold mseqW; rw [h]; exact h2
theorem wS_nx {m : MS} {ρ ρ' : Ro} {β : Bx} (h : m ρ = some (.nx ρ')) : wS m ρ β = some (.nx ρ', β) := by unfold wS; rw [h]
theorem getD_set (ps : List (Int × Int)) (p q : Nat) (v : Int × Int) (hp : p < ps.length) : (ps.set p v).getD q (0, 0) = if q = p then v else ps.getD q (0, 0) := by
 simp only [getD_eq_getElem?_getD, getElem?_set]
 by_cases h : p = q
 ·subst h; simp [hp]
 ·rw [if_neg h, if_neg (Ne.symm h)]
theorem back_body (row : List Int) (s : Int) (b : Bool) (x : Addr) (ps : List (Int × Int)) (p : Nat) (hp : p < row.length) (hl : ps.length = row.length + 1) (hg : ∀ q, p < q -> q <= row.length -> Gd (ps.getD q (0, 0))) :
  ∃ ps', ps'.length = row.length + 1 /\ (∀ q, p <= q -> q <= row.length -> Gd (ps'.getD q (0, 0))) /\ b_law_kept_f0 (eK row s b (.ptr x) (some (.sh (.int (p : Int)))) none none none) [(x, .row (PR ps))] = some (.nx (eK row s b (.ptr x) (some (.sh (.int (p : Int)))) none none none), [(x, .row (PR ps'))]) := by
 have th : ∀ ps : List (Int × Int), thaw (eK row s b (.ptr x) (some (.sh (.int (p : Int)))) none none none) [(x, .row (PR ps))] = eK row s b (PDn ps) (some (.sh (.int (p : Int)))) none none none := fun ps => thaw_K row s b x ps _ _ _ _ rfl rfl rfl rfl
 have bv : ∀ ps : List (Int × Int), bvar 4 (eK row s b (PDn ps) (some (.sh (.int (p : Int)))) none none none) = some (ps.map fun q => .lst [.int q.1, .int q.2]) := fun _ => rfl
 have ip : ∀ d4, mvar 5 (eK row s b d4 (some (.sh (.int (p : Int)))) none none none) = some (.int (p : Int)) := fun _ => rfl
 have iq : ∀ d4, m2 addD (mvar 5) (mc (.int 1)) (eK row s b d4 (some (.sh (.int (p : Int)))) none none none) = some (.int ((p + 1 : Nat) : Int)) := fun _ => (m2_at2 (a := .int (p : Int)) (b := .int 1) rfl rfl).trans rfl
 obtain ⟨g1, g2⟩ := hg (p + 1) (by omega) (by omega)
 generalize hA : (ps.getD (p + 1) (0, 0)).1 = A at g1 g2
 generalize hB : (ps.getD (p + 1) (0, 0)).2 = C at g1 g2
 have e1 : lookE (call1 max2F (acons (m2 addD (mc (.int 1)) (mix (aslst (mix (bvar 4) (m2 addD (mvar 5) (mc (.int 1))))) (mc (.int 1)))) (acons (mix (aslst (mix (bvar 4) (m2 addD (mvar 5) (mc (.int 1))))) (mc (.int 0))) anil))) (eK row s b (.ptr x) (some (.sh (.int (p : Int)))) none none none) [(x, .row (PR ps))] = some (.int (1 + C)) := by
  refine look_int ?_
  rw [th ps]
  have a1 := snd_at (by omega) (bv ps) (iq (PDn ps))
  have a2 := fst_at (by omega) (bv ps) (iq (PDn ps))
  rw [hB] at a1
  rw [hA] at a2
  unfold call1
  rw [acons_ev ((m2_at2 (a := .int 1) rfl a1).trans (show addD (.int 1) (.int C) = some (.int (1 + C)) from rfl)) (acons_ev a2 anil_ev)]
  show some (D.int (if A > 1 + C then A else 1 + C)) = _
  rw [if_neg (by omega)]
 have s1 := msetR_ev (o6 := none) (o7 := none) (o8 := none) (k1 := mvar 5) (k2 := mc (.int 0)) e1 (ip _) (c := 0) rfl (set_fst ps p (1 + C) (by omega))
 generalize hp1 : ps.set p (1 + C, (ps.getD p (0, 0)).2) = ps1 at s1
 have l1 : ps1.length = row.length + 1 := by rw [<- hp1, length_set, hl]
 have d1 : ∀ q, ps1.getD q (0, 0) = if q = p then (1 + C, (ps.getD p (0, 0)).2) else ps.getD q (0, 0) := fun q => by rw [<- hp1]; exact getD_set ps p q _ (by omega)
 have e2 : lookE (mix (aslst (mix (bvar 4) (m2 addD (mvar 5) (mc (.int 1))))) (mc (.int 0))) (eK row s b (.ptr x) (some (.sh (.int (p : Int)))) none none none) [(x, .row (PR ps1))] = some (.int A) := by
  refine look_int ?_
  rw [th ps1]
  have a2 := fst_at (by omega) (bv ps1) (iq (PDn ps1))
  rw [d1, if_neg (by omega), hA] at a2
  exact a2
 have s2 := msetR_ev (o6 := none) (o7 := none) (o8 := none) (k1 := mvar 5) (k2 := mc (.int 1)) e2 (ip _) (c := 1) rfl (set_snd ps1 p A (by omega))
 rw [d1 p, if_pos rfl] at s2
 generalize hp2 : ps1.set p (1 + C, A) = ps2 at s2
 have l2 : ps2.length = row.length + 1 := by rw [<- hp2, length_set, l1]
 have d2 : ∀ q, ps2.getD q (0, 0) = if q = p then (1 + C, A) else ps.getD q (0, 0) := fun q => by
  rw [<- hp2, getD_set ps1 p q _ (by omega), d1]
  split <;> rfl
 have good2 : ∀ q, p <= q -> q <= row.length -> Gd (ps2.getD q (0, 0)) := fun q h1 h2 => by
  rw [d2]
  split
  ·exact ⟨by show A <= 1 + C; omega, by show 1 + C <= A + 1; omega⟩
  ·exact hg q (by omega) h2
 have e3 : lookE (mix (aslst (mix (bvar 4) (mvar 5))) (mc (.int 0))) (eK row s b (.ptr x) (some (.sh (.int (p : Int)))) none none none) [(x, .row (PR ps2))] = some (.int (1 + C)) := by
  refine look_int ?_
  rw [th ps2]
  have a2 := fst_at (by omega) (bv ps2) (ip (PDn ps2))
  rw [d2, if_pos rfl] at a2
  exact a2
 have s3 := msetR_ev (o6 := none) (o7 := none) (o8 := none) (k1 := mvar 5) (k2 := mc (.int 1)) e3 (ip _) (c := 1) rfl (set_snd ps2 p (1 + C) (by omega))
 rw [d2 p, if_pos rfl] at s3
 generalize hp3 : ps2.set p (1 + C, 1 + C) = ps3 at s3
 have l3 : ps3.length = row.length + 1 := by rw [<- hp3, length_set, l2]
 have good3 : ∀ q, p <= q -> q <= row.length -> Gd (ps3.getD q (0, 0)) := fun q h1 h2 => by
  rw [<- hp3, getD_set ps2 p q _ (by omega)]
  split
  ·exact ⟨by show 1 + C <= 1 + C; omega, by show 1 + C <= 1 + C + 1; omega⟩
  ·exact good2 q h1 h2
 have et : ∃ t, cor (mtest (m2 eqSD (mvar 5) (mc (.int 0)))) (mtru (mcall m_Z1 (acons (mvar 0) (acons (mvar 1) (acons (m2 subD (mvar 5) (mc (.int 1))) (acons (mvar 2) anil)))))) (eK row s b (.ptr x) (some (.sh (.int (p : Int)))) none none none) = some t := by
  have t1 : mtest (m2 eqSD (mvar 5) (mc (.int 0))) (eK row s b (.ptr x) (some (.sh (.int (p : Int)))) none none none) = some ((p : Int) == 0) := by
   unfold mtest; rw [m2_at2 (a := .int (p : Int)) (b := .int 0) rfl rfl]; rfl
  cases hz : ((p : Int) == 0) with
  | true => exact ⟨true, by unfold cor; rw [t1, hz]⟩
  | false =>
   have hpos : 1 <= p := by
    rcases Nat.eq_zero_or_pos p with z | z
    ·subst z; simp at hz
    ·exact z
   refine ⟨decide (s <= (mirF b row).getD (p - 1) 0 + (mirF b row).getD (p - 1 + 1) 0), ?_⟩
   ·unfold cor
    rw [t1, hz]
    show mtru _ _ = _
    unfold mtru
    rw [mcall_sh (acons_ev (d := RI row) rfl (acons_ev (d := .int s) rfl (acons_ev (d := .int ((p - 1 : Nat) : Int)) ((m2_at2 (a := .int (p : Int)) (b := .int 1) rfl rfl).trans (by show some (D.int ((p : Int) - 1)) = _; rw [show (p : Int) - 1 = ((p - 1 : Nat) : Int) by omega])) (acons_ev (d := .int (sg b)) rfl anil_ev)))) (right_eq b row s (p - 1) (by omega))]
    rfl
 obtain ⟨t, et⟩ := et
 have last : ∃ ps', ps'.length = row.length + 1 /\ (∀ q, p <= q -> q <= row.length -> Gd (ps'.getD q (0, 0))) /\ mifW (wE (cor (mtest (m2 eqSD (mvar 5) (mc (.int 0)))) (mtru (mcall m_Z1 (acons (mvar 0) (acons (mvar 1) (acons (m2 subD (mvar 5) (mc (.int 1))) (acons (mvar 2) anil)))))))) (msetR 4 (mvar 5) (mc (.int 1)) (lookE (mix (aslst (mix (bvar 4) (mvar 5))) (mc (.int 0))))) (wS mnext) (eK row s b (.ptr x) (some (.sh (.int (p : Int)))) none none none) [(x, .row (PR ps2))] = some (.nx (eK row s b (.ptr x) (some (.sh (.int (p : Int)))) none none none), [(x, .row (PR ps'))]) := by
  cases t with
  | true => exact ⟨ps3, l3, good3, by unfold mifW wE; rw [et]; exact s3⟩
  | false => exact ⟨ps2, l2, good2, by unfold mifW wE; rw [et]; rfl⟩
 obtain ⟨ps', h1, h2, h3⟩ := last
 refine ⟨ps', h1, h2, ?_⟩
 unfold b_law_kept_f0
 exact seqW s1 (seqW s2 h3)
theorem comp_zero (n : Nat) : ∀ (is : List Int) (o : Option S) (acc : List (List D)), acc.length + is.length <= 1000 -> compP (.nm 0) (sized (acons (mc (.int 0)) (acons (mc (.int 0)) anil))) (is.map .int) [o] acc = some (acc ++ List.replicate is.length [.int 0, .int 0])
 | [], o, acc, _ => by simp [compP]
 | i :: is, o, acc, h => by
  have i2 : 0 + 1 + 1 <= sizeLine := le_size (by decide)
  have big := size_big
  rw [map_cons, compP]
  have e1 : tgD (.nm 0) (.int i) [o] = some [some (.sh (.int i))] := rfl
  rw [e1]
  simp only
  rw [sized_ev (acons_ev (d := .int 0) rfl (acons_ev (d := .int 0) rfl anil_ev)) i2]
  simp only
  rw [if_pos (by simp at h; omega), comp_zero n is _ _ (by simp at h ⊢; omega)]
  simp [replicate_succ]
end
section
open PySem L2
theorem eqF_oneF (a b : Int) : eqFD false (.lst [.int a]) (.lst [.int b]) = some (.bl (a == b)) := by
 unfold eqFD eqF
 simp only [length_cons, length_nil, if_true, zipE]
 unfold eqF
 simp [eqS]
theorem eqF_nil1F (b : Int) : eqFD false (.lst []) (.lst [.int b]) = some (.bl false) := by
 unfold eqFD eqF
 simp
def eF (row : List Int) (s : Int) (b : Bool) (d4 : D) (o5 : Option S) (A : List Nat) (o7 o8 : Option S) : Ro := eK row s b d4 o5 (some (.own ((NI A).map .int))) o7 o8
theorem fwd_body (row : List Int) (s : Int) (b : Bool) (x : Addr) (ps : List (Int × Int)) (i : Nat) (hi : i < row.length) (hn : row.length <= 900) (hl : ps.length = row.length + 1) (hg : Gd (ps.getD (i + 1) (0, 0))) (A : List Nat) (hA : A.length <= i) (beside free : Bool) (o7 o8 : Option S)
  (h1 : (match cutI (NI A) (some (-1)) none with | [l] => beside = (l == (i : Int) - 1) | [] => beside = false | _ => False)) (h2 : beside = false -> free = true) (h3 : beside = true -> 1 <= i /\ free = decide (s <= (mirF b row).getD (i - 1) 0 + (mirF b row).getD i 0)) :
  ∃ o7' o8', b_law_kept_f1 (eF row s b (.ptr x) (some (.sh (.int (i : Int)))) A o7 o8) [(x, .row (PR ps))] = some (.nx (eF row s b (.ptr x) (some (.sh (.int (i : Int)))) (if free then A ++ [i] else A) o7' o8'), [(x, .row (PR ps))]) := by
 have big := size_big
 have i1 : 0 + 1 <= sizeLine := le_size (by decide)
 have e1 : sized (acons (m2 subD (mvar 5) (mc (.int 1))) anil) (eF row s b (.ptr x) (some (.sh (.int (i : Int)))) A o7 o8) = some [.int ((i : Int) - 1)] := sized_ev (acons_ev ((m2_at2 (a := .int (i : Int)) (b := .int 1) rfl rfl).trans rfl) anil_ev) i1
 have ec : mcut (bvar 6) (osome (m1 negD (mc (.int 1)))) onone (eF row s b (.ptr x) (some (.sh (.int (i : Int)))) A o7 o8) = some ((cutI (NI A) (some (-1)) none).map .int) := by
  unfold eF eK
  simp_arith [cutL_map]
 have e2 : meqB false (mcut (bvar 6) (osome (m1 negD (mc (.int 1)))) onone) (sized (acons (m2 subD (mvar 5) (mc (.int 1))) anil)) (eF row s b (.ptr x) (some (.sh (.int (i : Int)))) A o7 o8) = some (.bl beside) := by
  unfold meqB
  rw [ec, e1]
  show eqFD false (.lst ((cutI (NI A) (some (-1)) none).map .int)) (.lst [.int ((i : Int) - 1)]) = _
  split at h1
  ·rename_i l hc
   rw [hc, map_cons, map_nil, eqF_oneF, h1]
  ·rename_i hc
   rw [hc, map_nil, eqF_nil1F, h1]
  ·exact h1.elim
 have s1 : wS (mset 7 (call1 intF (acons (meqB false (mcut (bvar 6) (osome (m1 negD (mc (.int 1)))) onone) (sized (acons (m2 subD (mvar 5) (mc (.int 1))) anil))) anil))) (eF row s b (.ptr x) (some (.sh (.int (i : Int)))) A o7 o8) [(x, .row (PR ps))] = some (.nx (eF row s b (.ptr x) (some (.sh (.int (i : Int)))) A (some (.sh (.int (if beside then 1 else 0)))) o8), [(x, .row (PR ps))]) := by
  refine wS_nx ((mset_ev (d := .int (if beside then 1 else 0)) ?_).trans rfl)
  unfold call1
  rw [acons_ev e2 anil_ev]
  rfl
 have e3 : mor (m2 eqSD (mvar 7) (mc (.int 0))) (mcall m_Z1 (acons (mvar 0) (acons (mvar 1) (acons (m2 subD (mvar 5) (mc (.int 1))) (acons (mvar 2) anil))))) (eF row s b (.ptr x) (some (.sh (.int (i : Int)))) A (some (.sh (.int (if beside then 1 else 0)))) o8) = some (.bl free) := by
  have t : m2 eqSD (mvar 7) (mc (.int 0)) (eF row s b (.ptr x) (some (.sh (.int (i : Int)))) A (some (.sh (.int (if beside then 1 else 0)))) o8) = some (.bl (!beside)) := by
   rw [m2_at2 (a := .int (if beside then 1 else 0)) (b := .int 0) rfl rfl]
   cases beside <;> rfl
  unfold mor
  rw [t]
  cases hb : beside with
  | false => rw [h2 hb]; rfl
  | true =>
   obtain ⟨g1, g2⟩ := h3 hb
   show mcall _ _ _ = _
   rw [g2, mcall_sh (acons_ev (d := RI row) rfl (acons_ev (d := .int s) rfl (acons_ev (d := .int ((i - 1 : Nat) : Int)) ((m2_at2 (a := .int (i : Int)) (b := .int 1) rfl rfl).trans (by show some (D.int ((i : Int) - 1)) = _; rw [show (i : Int) - 1 = ((i - 1 : Nat) : Int) by omega])) (acons_ev (d := .int (sg b)) rfl anil_ev)))) (right_eq b row s (i - 1) (by omega)), show i - 1 + 1 = i by omega]
 have s2 : wS (mset 8 (mor (m2 eqSD (mvar 7) (mc (.int 0))) (mcall m_Z1 (acons (mvar 0) (acons (mvar 1) (acons (m2 subD (mvar 5) (mc (.int 1))) (acons (mvar 2) anil))))))) (eF row s b (.ptr x) (some (.sh (.int (i : Int)))) A (some (.sh (.int (if beside then 1 else 0)))) o8) [(x, .row (PR ps))] = some (.nx (eF row s b (.ptr x) (some (.sh (.int (i : Int)))) A (some (.sh (.int (if beside then 1 else 0)))) (some (.sh (.bl free)))), [(x, .row (PR ps))]) := wS_nx ((mset_ev e3).trans rfl)
 refine ⟨some (.sh (.int (if beside then 1 else 0))), some (.sh (.bl free)), ?_⟩
 unfold b_law_kept_f1
 refine seqW s1 (seqW s2 ?_)
 have th : thaw (eF row s b (.ptr x) (some (.sh (.int (i : Int)))) A (some (.sh (.int (if beside then 1 else 0)))) (some (.sh (.bl free)))) [(x, .row (PR ps))] = eF row s b (PDn ps) (some (.sh (.int (i : Int)))) A (some (.sh (.int (if beside then 1 else 0)))) (some (.sh (.bl free))) := thaw_K row s b x ps _ _ _ _ rfl rfl rfl rfl
 have iq : m2 addD (mvar 5) (mc (.int 1)) (eF row s b (PDn ps) (some (.sh (.int (i : Int)))) A (some (.sh (.int (if beside then 1 else 0)))) (some (.sh (.bl free)))) = some (.int ((i + 1 : Nat) : Int)) := (m2_at2 (a := .int (i : Int)) (b := .int 1) rfl rfl).trans rfl
 have bv : bvar 4 (eF row s b (PDn ps) (some (.sh (.int (i : Int)))) A (some (.sh (.int (if beside then 1 else 0)))) (some (.sh (.bl free)))) = some (ps.map fun q => .lst [.int q.1, .int q.2]) := rfl
 have a1 := snd_at (by omega) bv iq
 have a2 := fst_at (by omega) bv iq
 have et : lookB (cand (mtru (mvar 8)) (mtest (m2 geD (m2 addD (mc (.int 1)) (mix (aslst (mix (bvar 4) (m2 addD (mvar 5) (mc (.int 1))))) (mc (.int 1)))) (mix (aslst (mix (bvar 4) (m2 addD (mvar 5) (mc (.int 1))))) (mc (.int 0)))))) (eF row s b (.ptr x) (some (.sh (.int (i : Int)))) A (some (.sh (.int (if beside then 1 else 0)))) (some (.sh (.bl free)))) [(x, .row (PR ps))] = some free := by
  unfold lookB
  rw [th]
  have t2 : mtest (m2 geD (m2 addD (mc (.int 1)) (mix (aslst (mix (bvar 4) (m2 addD (mvar 5) (mc (.int 1))))) (mc (.int 1)))) (mix (aslst (mix (bvar 4) (m2 addD (mvar 5) (mc (.int 1))))) (mc (.int 0)))) (eF row s b (PDn ps) (some (.sh (.int (i : Int)))) A (some (.sh (.int (if beside then 1 else 0)))) (some (.sh (.bl free)))) = some true := by
   unfold mtest
   rw [m2_at2 ((m2_at2 (a := .int 1) rfl a1).trans (show addD (.int 1) (.int _) = some (.int (1 + _)) from rfl)) a2]
   obtain ⟨g1, g2⟩ := hg
   show some (decide ((ps.getD (i + 1) (0, 0)).1 <= 1 + (ps.getD (i + 1) (0, 0)).2)) = _
   rw [decide_eq_true (by omega)]
  have t1 : mtru (mvar 8) (eF row s b (PDn ps) (some (.sh (.int (i : Int)))) A (some (.sh (.int (if beside then 1 else 0)))) (some (.sh (.bl free)))) = some free := rfl
  rw [cand_ev t1 t2, Bool.and_true]
 unfold mifW
 rw [et]
 cases hf : free with
 | false => rfl
 | true =>
  refine wS_nx ?_
  have hz : (NI A).length < sizeLine := by unfold NI; rw [length_map]; omega
  show mapp 6 (mvar 5) _ = _
  simp only [if_true]
  unfold eF eK
  rw [NI_snoc]
  simp_arith [length_map, hz, if_true, map_append]
end
section
open PySem L2
theorem rng3_down (n : Nat) (h : n <= 900) : rng3 [.int ((n : Int) - 1), .int (-1), .int (-1)] = some (downD n) := by
 unfold rng3
 dsimp only
 rw [if_pos ⟨by omega, by omega, rfl, rfl⟩, show (((n : Int) - 1) + 1).toNat = n by omega]
def L1 := mforW (mlist rng3 (acons (m2 subD (mvar 3) (mc (.int 1))) (acons (m1 negD (mc (.int 1))) (acons (m1 negD (mc (.int 1))) anil)))) (.nm 5) b_law_kept_f0
theorem kept_back (row : List Int) (s : Int) (b : Bool) (hn : row.length <= 900) (x : Addr) : ∃ ps o5, ps.length = row.length + 1 /\ (∀ q, q <= row.length -> Gd (ps.getD q (0, 0))) /\ L1 (eK row s b (.ptr x) none none none none) [(x, .row (PR (List.replicate (row.length + 1) (0, 0))))] = some (.nx (eK row s b (.ptr x) o5 none none none), [(x, .row (PR ps))]) := by
 have f1 := forW_run (g := .nm 5) (body := b_law_kept_f0) (f := fun (t : Nat) => D.int ((row.length : Int) - 1 - (t : Int))) (fun ds ρ β => ∃ k ps o5, ds = List.range' k (row.length - k) /\ k <= row.length /\ ρ = eK row s b (.ptr x) o5 none none none /\ β = [(x, .row (PR ps))] /\ ps.length = row.length + 1 /\ ∀ q, row.length - k <= q -> q <= row.length -> Gd (ps.getD q (0, 0)))
  (by
   rintro d ds ρ β ⟨k, ps, o5, e, hk, rfl, rfl, hl, hg⟩
   have hlt : k < row.length := by
    rcases Nat.lt_or_ge k row.length with z | z
    ·exact z
    ·rw [show row.length - k = 0 by omega] at e; cases e
   rw [range_cons k row.length hlt] at e
   obtain ⟨e1, e2⟩ := List.cons.inj e
   subst e1
   obtain ⟨ps', l', g', eb⟩ := back_body row s b x ps (row.length - 1 - d) (by omega) hl (fun q h1 h2 => hg q (by omega) h2)
   refine ⟨_, _, _, ?_, eb, d + 1, ps', _, e2, by omega, rfl, rfl, l', fun q h1 h2 => g' q (by omega) h2⟩
   show some (eK row s b (.ptr x) (some (.sh (.int ((row.length : Int) - 1 - (d : Int))))) none none none) = _
   rw [show (row.length : Int) - 1 - (d : Int) = ((row.length - 1 - d : Nat) : Int) by omega]) (List.range row.length) (eK row s b (.ptr x) none none none none) [(x, .row (PR (List.replicate (row.length + 1) (0, 0))))]
  ⟨0, _, none, by rw [range_eq_range']; rfl, by omega, rfl, rfl, by simp, fun q h1 h2 => by
   have : (List.replicate (row.length + 1) ((0 : Int), (0 : Int))).getD q (0, 0) = (0, 0) := by
    simp only [getD_eq_getElem?_getD, getElem?_replicate]
    split <;> rfl
   rw [this]; exact ⟨by decide, by decide⟩⟩
 obtain ⟨ρ1, β1, e1, k, ps, o5, ek, hk, rfl, rfl, hl, hg⟩ := f1
 have hk0 : k = row.length := by
  rcases Nat.lt_or_ge k row.length with z | z
  ·rw [range_cons k row.length z] at ek; cases ek
  ·omega
 refine ⟨ps, o5, hl, fun q h => hg q (by omega) h, ?_⟩
 unfold L1 mforW mlist
 rw [acons_ev ((m2_at2 (a := .int (row.length : Int)) (b := .int 1) rfl rfl).trans rfl) (acons_ev (d := .int (-1)) rfl (acons_ev (d := .int (-1)) rfl anil_ev)), Option.bind_some]
 rw [rng3_down _ hn, Option.bind_some]
 exact e1
def L2f := mforW (mlist rng1 (acons (mvar 3) anil)) (.nm 5) b_law_kept_f1
theorem kept_fwd (row : List Int) (s : Int) (b : Bool) (hn : row.length <= 900) (x : Addr) (ps : List (Int × Int)) (o5 : Option S) (hl : ps.length = row.length + 1) (hg : ∀ q, q <= row.length -> Gd (ps.getD q (0, 0))) (h : List Int) (hh : mirF b row = h) (hm : h.length = row.length) : ∃ p5 p7 p8, L2f (eF row s b (.ptr x) o5 [] none none) [(x, .row (PR ps))] = some (.nx (eF row s b (.ptr x) p5 (stG s 0 none h) p7 p8), [(x, .row (PR ps))]) := by
 have f2 := forW_run (g := .nm 5) (body := b_law_kept_f1) (f := fun (i : Nat) => D.int (i : Int)) (fun ds ρ β => ∃ i A o o5 o7 o8, ds = List.range' i (row.length - i) /\ i <= row.length /\ ρ = eF row s b (.ptr x) o5 A o7 o8 /\ β = [(x, .row (PR ps))] /\ A ++ stG s i o (h.drop i) = stG s 0 none h /\ A.length <= i /\ ((o = none /\ LastN i A) \/ (∃ A' j, A = A' ++ [j] /\ j + 1 = i /\ o = some (h.getD j 0))))
  (by
   rintro d ds ρ β ⟨i, A, o, o5, o7, o8, e, hk, rfl, rfl, est, hA, ho⟩
   have hlt : i < row.length := by
    rcases Nat.lt_or_ge i row.length with z | z
    ·exact z
    ·rw [show row.length - i = 0 by omega] at e; cases e
   rw [range_cons i row.length hlt] at e
   obtain ⟨e1, e2⟩ := List.cons.inj e
   subst e1
   have hgi := hg (d + 1) (by omega)
   rw [drop_getD h d (by omega)] at est
   rcases ho with ⟨rfl, hL⟩ | ⟨A', j, rfl, hj, rfl⟩
   ·obtain ⟨o7', o8', eb⟩ := fwd_body row s b x ps d hlt hn hl hgi A hA false true o7 o8 (by
     rcases hL with rfl | ⟨A', l, rfl, hl'⟩
     ·rw [show NI [] = [] from rfl, cut_lastN]
     ·rw [NI_snoc, cut_last]
      show false = _
      symm
      simp
      omega) (fun _ => rfl) (fun z => by cases z)
    refine ⟨_, _, _, rfl, eb, d + 1, A ++ [d], some (h.getD d 0), _, _, _, e2, by omega, rfl, rfl, by rw [<- est, append_assoc]; rfl, by simp; omega, .inr ⟨A, d, rfl, rfl, rfl⟩⟩
   ·obtain ⟨o7', o8', eb⟩ := fwd_body row s b x ps d hlt hn hl hgi (A' ++ [j]) hA true (decide (s <= h.getD j 0 + h.getD d 0)) o7 o8 (by
     rw [NI_snoc, cut_last]
     show true = _
     symm
     simp
     omega) (fun z => by cases z) (fun _ => ⟨by omega, by rw [hh, show d - 1 = j by omega]⟩)
    simp only [stG] at est
    by_cases q : s <= h.getD j 0 + h.getD d 0
    ·rw [if_pos q] at est
     rw [decide_eq_true q] at eb
     exact ⟨_, _, _, rfl, eb, d + 1, (A' ++ [j]) ++ [d], some (h.getD d 0), _, _, _, e2, by omega, rfl, rfl, by rw [<- est, append_assoc (A' ++ [j])]; rfl, by simp at hA ⊢; omega, .inr ⟨_, d, rfl, rfl, rfl⟩⟩
    ·rw [if_neg q] at est
     rw [decide_eq_false q] at eb
     exact ⟨_, _, _, rfl, eb, d + 1, A' ++ [j], none, _, _, _, e2, by omega, rfl, rfl, est, by omega, .inl ⟨rfl, .inr ⟨A', j, rfl, by omega⟩⟩⟩) (List.range row.length) (eF row s b (.ptr x) o5 [] none none) [(x, .row (PR ps))]
  ⟨0, [], none, o5, none, none, by rw [range_eq_range']; rfl, by omega, rfl, rfl, rfl, Nat.le_refl _, .inl ⟨rfl, .inl rfl⟩⟩
 obtain ⟨ρ2, β2, e2, i, A, o, p5, p7, p8, ei, hi, rfl, rfl, est, _, _⟩ := f2
 have hi0 : i = row.length := by
  rcases Nat.lt_or_ge i row.length with z | z
  ·rw [range_cons i row.length z] at ei; cases ei
  ·omega
 subst hi0
 rw [<- hm, drop_length] at est
 have : stG s h.length o [] = [] := by cases o <;> rfl
 rw [this, append_nil] at est
 rw [<- est]
 refine ⟨p5, p7, p8, ?_⟩
 unfold L2f mforW mlist
 rw [acons_ev (d := .int (row.length : Int)) rfl anil_ev, Option.bind_some, rng1_ok (okR_of (by omega) (by omega)), Option.bind_some, Int.toNat_natCast, rangeD_li, map_map]
 exact e2
end
section
open PySem L2
theorem kept_rest (row : List Int) (s : Int) (b : Bool) (hn : row.length <= 900) (x : Addr) : ∃ β, b_law_kept_r4 (eK row s b (.ptr x) none none none none) [(x, .row (PR (List.replicate (row.length + 1) (0, 0))))] = some (.rf ((NI (stG s 0 none (mirF b row))).map .int), β) := by
 have i0 : 0 <= sizeLine := Nat.zero_le _
 obtain ⟨ps, o5, hl, hg, el1⟩ := kept_back row s b hn x
 obtain ⟨p5, p7, p8, el2⟩ := kept_fwd row s b hn x ps o5 hl hg _ rfl (mirF_len b row)
 generalize stG s 0 none (mirF b row) = A at *
 refine ⟨[(x, .row (PR ps))], ?_⟩
 unfold b_law_kept_r4 b_law_kept_r3 b_law_kept_r2
 refine seqW el1 (seqW (ρ' := eF row s b (.ptr x) o5 [] none none) (wS_nx ?_) (seqW el2 ?_))
 ·unfold eF eK
  simp_arith [i0, if_true]
  rfl
 ·rfl
theorem kept_comp (row : List Int) (s : Int) (b : Bool) (hn : row.length <= 900) : mcompP [none] (mlist rng1 (acons (m2 addD (mvar 3) (mc (.int 1))) anil)) (.nm 0) (sized (acons (mc (.int 0)) (acons (mc (.int 0)) anil))) [some (.sh (RI row)), some (.sh (.int s)), some (.sh (.int (sg b))), some (.sh (.int (row.length : Int))), none, none, none, none, none] = some (List.replicate (row.length + 1) [.int 0, .int 0]) := by
 have big := size_big
 unfold mcompP mlist
 rw [acons_ev (d := .int ((row.length + 1 : Nat) : Int)) ((m2_at2 (a := .int (row.length : Int)) (b := .int 1) rfl rfl).trans rfl) anil_ev, Option.bind_some, rng1_ok (okR_of (by omega) (by omega)), Option.bind_some, Int.toNat_natCast, rangeD_li]
 show compP (.nm 0) _ _ [none] [] = _
 rw [comp_zero 0 _ none [] (by simp; omega)]
 simp
theorem kept_e0 (row : List Int) (s : Int) (b : Bool) : wS (mset 3 (mlen (bvar 0))) (startS 9 [RI row, .int s, .int (sg b)]) [] = some (.nx [some (.sh (RI row)), some (.sh (.int s)), some (.sh (.int (sg b))), some (.sh (.int (row.length : Int))), none, none, none, none, none], []) := wS_nx ((mset_ev (d := .int (row.length : Int)) (by rw [mlen_ev (show bvar 0 _ = some (row.map .int) from rfl), length_map])).trans rfl)
theorem kept_e1 (row : List Int) (s : Int) (b : Bool) (hn : row.length <= 900) : mnewR 4 (mcompP [none] (mlist rng1 (acons (m2 addD (mvar 3) (mc (.int 1))) anil)) (.nm 0) (sized (acons (mc (.int 0)) (acons (mc (.int 0)) anil)))) b_law_kept_r4 [some (.sh (RI row)), some (.sh (.int s)), some (.sh (.int (sg b))), some (.sh (.int (row.length : Int))), none, none, none, none, none] [] = some (.rf ((NI (stG s 0 none (mirF b row))).map .int), []) := by
 unfold mnewR
 rw [kept_comp row s b hn, Option.bind_some]
 refine anyN_of fun x _ => ?_
 obtain ⟨β, er⟩ := kept_rest row s b hn x
 have : (List.replicate (row.length + 1) [D.int 0, D.int 0]).map Fl.l = PR (List.replicate (row.length + 1) (0, 0)) := by unfold PR; simp
 rw [this]
 show (b_law_kept_r4 (eK row s b (.ptr x) none none none none) _).map _ = _
 rw [er]
 show some (L2.letGo 4 0 (Out.rf _, β)) = _
 unfold L2.letGo
 simp
theorem plainW_fr {m : MW} {n : Nat} {ds es : List D} {β : Bx} (e : m (startS n ds) [] = some (.rf es, β)) : plainW (runW n m) ds = some (.fr es) := by
 unfold plainW runW
 rw [e]
theorem kept_e2 (row : List Int) (s : Int) (b : Bool) (hn : row.length <= 900) : b_law_kept (startS 9 [RI row, .int s, .int (sg b)]) [] = some (.rf ((NI (stG s 0 none (mirF b row))).map .int), []) := by
 unfold b_law_kept
 exact seqW (kept_e0 row s b) (kept_e1 row s b hn)
theorem kept_eq (row : List Int) (s : Int) (b : Bool) (hn : row.length <= 900) : m_law_kept [RI row, .int s, .int (sg b)] = some (.fr ((NI (stG s 0 none (mirF b row))).map .int)) := by
 unfold m_law_kept
 exact plainW_fr (kept_e2 row s b hn)
end
section
open PySem L2
theorem changed_eq (row : List Int) (s : Int) (b : Bool) (hn : row.length <= 900) : m_Z3 [RI row, .int s, .int (sg b)] = some (.sh (FB b row s)) := by
 have i2 : 0 + 1 + 1 <= sizeLine := le_size (by decide)
 have hm := mirF_len b row
 unfold m_Z3 b_Z3
 refine runB_rt ?_
 refine seqI (ρ' := [some (.sh (RI row)), some (.sh (.int s)), some (.sh (.int (sg b))), some (.sh (RI (NI (stG s 0 none (mirF b row)))))]) ((mset_ev (mcall_fr (acons_ev (d := RI row) rfl (acons_ev (d := .int s) rfl (acons_ev (d := .int (sg b)) rfl anil_ev))) (kept_eq row s b hn))).trans rfl) ?_
 refine mret_ev (mtup_ev (acons_ev ?_ (acons_ev (d := RI (NI (stG s 0 none (mirF b row)))) rfl anil_ev)) i2)
 have e := stG_len (s := s) 0 none (mirF b row)
 unfold RI
 simp_arith [length_map]
 unfold NI
 rw [length_map]
 congr 2
 omega
theorem both_sg {mi : ML} {src : List (Option Nat)} {ρ : Ro} {row : List Int} {s : Int} (hn : row.length <= 900) (hi : mi ρ = some [.int (sg true), .int (sg false)]) (hb : blkRo src ρ = [none, some (.sh (RI row)), some (.sh (.int s))]) : mcomp src mi (.nm 0) cyes (mcall m_Z3 (acons (mvar 1) (acons (mvar 2) (acons (mvar 0) anil)))) ρ = some [FB true row s, FB false row s] := by
 unfold mcomp
 rw [hi, Option.bind_some, hb]
 refine (compD_map (f := fun (b : Bool) => D.int (sg b)) (G := fun b => FB b row s) (fun _ ρ => ∃ x, ρ = [x, some (.sh (RI row)), some (.sh (.int s))]) (by
  rintro c cs ρ ⟨x, rfl⟩
  exact ⟨[some (.sh (.int (sg c))), some (.sh (RI row)), some (.sh (.int s))], rfl, rfl, mcall_sh (acons_ev (d := RI row) rfl (acons_ev (d := .int s) rfl (acons_ev (d := .int (sg c)) rfl anil_ev))) (changed_eq row s c hn), _, rfl⟩) [true, false] _ [] ⟨none, rfl⟩ (le_size (by simp))).trans rfl
theorem same_made (s : Int) : ∀ (h : List Int) (o : Option Int) (k : Nat), ((List.range h.length).filter fun i => ((mkH s o h).getD i 0 == h.getD i 0)).map (fun i => i + k) = stG s k o h
 | [], none, k => rfl
 | [], some _, k => rfl
 | a :: r, o, k => by
  have ad : ∀ (o' : Option Int) (x : Int), ((List.range (a :: r).length).filter fun i => ((x :: mkH s o' r).getD i 0 == (a :: r).getD i 0)).map (fun i => i + k) = (if x = a then [k] else []) ++ stG s (k + 1) o' r := by
   intro o' x
   have ih := same_made s r o' (k + 1)
   rw [length_cons, range_succ_eq_map, filter_cons, filter_map, <- ih]
   have e : ((fun i => ((x :: mkH s o' r).getD i 0 == (a :: r).getD i 0)) ∘ Nat.succ) = fun i => ((mkH s o' r).getD i 0 == r.getD i 0) := by funext i; simp
   rw [e]
   have e2 : ∀ l : List Nat, (l.map Nat.succ).map (fun i => i + k) = l.map (fun i => i + (k + 1)) := by
    intro l; rw [map_map]; apply map_congr_left; intro i _; show i + 1 + k = _; omega
   by_cases q : x = a
   ·simp only [q, getD_cons_zero, beq_self_eq_true, if_true, map_cons, e2, Nat.zero_add, singleton_append]
   ·rw [if_neg (by simp [q]), if_neg q, e2, nil_append]
  cases o with
  | none =>
   have := ad (some a) a
   rw [if_pos rfl] at this
   exact this
  | some g =>
   simp only [mkH, stG]
   by_cases q : s <= g + a
   ·rw [if_pos q, if_pos q]
    have := ad (some a) a
    rw [if_pos rfl] at this
    exact this
   ·rw [if_neg q, if_neg q, ad]
    rw [if_neg]
    ·rfl
    ·cases r with
     | nil => simp only; omega
     | cons b r => simp only; omega
theorem mir_same (b : Bool) (x y : List Int) (i : Nat) (hx : i < x.length) (hy : i < y.length) : ((mirF b x).getD i 0 == (mirF b y).getD i 0) = (x.getD i 0 == y.getD i 0) := by
 rw [mir_at b x i hx, mir_at b y i hy]
 by_cases q : i % 2 = lowN b
 ·rw [if_pos q, if_pos q, Bool.eq_iff_iff, beq_iff_eq, beq_iff_eq]; omega
 ·rw [if_neg q, if_neg q]
theorem same_row (s : Int) (b : Bool) (row : List Int) : (List.range row.length).filter (fun i => ((mirF b (mkH s none (mirF b row))).getD i 0 == row.getD i 0)) = stG s 0 none (mirF b row) := by
 have h := same_made s (mirF b row) none 0
 simp only [Nat.add_zero, map_id'] at h
 rw [mirF_len] at h
 rw [<- h]
 apply filter_congr
 intro i hi
 have hi := List.mem_range.mp hi
 have := mir_same b (mirF b (mkH s none (mirF b row))) row i (by rw [mirF_len, mkH_len, mirF_len]; exact hi) hi
 rw [<- this, mirF_inv]
theorem okp_at {s : Int} : ∀ (h : List Int) (o : Option Int), okp s o h -> ∀ p, p + 1 < h.length -> s <= h.getD p 0 + h.getD (p + 1) 0
 | [], _, _, p, hp => by simp at hp
 | a :: r, o, hk, p, hp => by
  have h2 : okp s (some a) r := by cases o with | none => exact hk | some g => exact hk.2
  cases p with
  | zero =>
   cases r with
   | nil => simp at hp
   | cons c r => exact h2.1
  | succ p => exact okp_at r (some a) h2 p (by simpa using hp)
def StepOk (s : Int) (row : List Int) (k : Nat) : Prop := s <= (if row.getD k 0 - row.getD (k - 1) 0 < 0 then -(row.getD k 0 - row.getD (k - 1) 0) else row.getD k 0 - row.getD (k - 1) 0) /\ (2 <= k -> ((decide (0 < row.getD k 0 - row.getD (k - 1) 0)) == decide (row.getD (k - 2) 0 < row.getD (k - 1) 0)) = false)
theorem sg_two (b : Bool) : sg b = 1 \/ sg b = -1 := by cases b <;> simp [sg]
theorem pm_two (p : Nat) : (pm p = 1 /\ pm (p + 1) = -1) \/ (pm p = -1 /\ pm (p + 1) = 1) := by
 unfold pm
 rcases Nat.mod_two_eq_zero_or_one p with h | h
 ·left; rw [if_pos h, if_neg (by omega)]; exact ⟨rfl, rfl⟩
 ·right; rw [if_neg (by omega), if_pos (by omega)]; exact ⟨rfl, rfl⟩
theorem made_steps {s : Int} (hs : 1 <= s) (b : Bool) (row : List Int) (h : okp s none (mirF b row)) (k : Nat) (h1 : 1 <= k) (h2 : k < row.length) : StepOk s row k := by
 have f : ∀ p, p + 1 < row.length -> s <= (row.getD (p + 1) 0 - row.getD p 0) * sg b * pm p := fun p hp => by
  rw [mir_sum b row p hp]
  exact okp_at _ none h p (by rw [mirF_len]; exact hp)
 obtain ⟨j, rfl⟩ : ∃ j, k = j + 1 := ⟨k - 1, by omega⟩
 rw [StepOk, Nat.add_sub_cancel]
 have f1 := f j h2
 generalize ha : row.getD (j + 1) 0 - row.getD j 0 = a at *
 constructor
 ·rcases sg_two b with e | e <;> rcases pm_two j with ⟨e2, _⟩ | ⟨e2, _⟩ <;> rw [e, e2] at f1 <;> split <;> omega
 ·intro h3
  obtain ⟨i, rfl⟩ : ∃ i, j = i + 1 := ⟨j - 1, by omega⟩
  rw [show i + 1 + 1 - 2 = i by omega]
  have f0 := f i (by omega)
  generalize row.getD (i + 1) 0 = c at *
  generalize row.getD i 0 = d at *
  rcases sg_two b with e | e <;> rcases pm_two i with ⟨e2, e3⟩ | ⟨e2, e3⟩ <;> rw [e, e2] at f0 <;> rw [e, e3] at f1
  ·rw [decide_eq_false (by omega), decide_eq_true (by omega)]; rfl
  ·rw [decide_eq_true (by omega), decide_eq_false (by omega)]; rfl
  ·rw [decide_eq_true (by omega), decide_eq_false (by omega)]; rfl
  ·rw [decide_eq_false (by omega), decide_eq_true (by omega)]; rfl
end
section
open PySem L2
theorem mtest_ev {x : ME} {ρ : Ro} {b : Bool} (h : x ρ = some (.bl b)) : mtest x ρ = some b := by unfold mtest; rw [h]
theorem range_at (n k : Nat) (h : k < n) : (NI (List.range' 0 n)).getD k 0 = (k : Int) := by
 unfold NI
 simp [getD_eq_getElem?_getD, h]
def eW (row : List Int) (s : Int) (o3 o4 o5 : Option S) : Ro := [some (.sh (RI row)), some (.sh (.int s)), some (.sh (RI (NI (List.range' 0 row.length)))), o3, o4, o5]
theorem place_row {row : List Int} {s : Int} {o3 o4 o5 : Option S} {x : ME} {k : Nat} (hk : k < row.length) (hx : x (eW row s o3 o4 o5) = some (.int (k : Int))) : mix (bvar 0) (mix (bvar 2) x) (eW row s o3 o4 o5) = some (.int (row.getD k 0)) := by
 have hl : (NI (List.range' 0 row.length)).length = row.length := by unfold NI; simp
 have e1 : mix (bvar 2) x (eW row s o3 o4 o5) = some (.int (k : Int)) := by
  have := at_nat (NI (List.range' 0 row.length)) k (by omega)
  rw [range_at _ _ hk] at this
  exact mix_ev (ds := (NI (List.range' 0 row.length)).map .int) rfl hx this
 exact mix_ev (ds := row.map .int) rfl e1 (at_nat row k hk)
theorem wavy_body {row : List Int} {s : Int} (k : Nat) (h1 : 1 <= k) (h2 : k < row.length) (ok : StepOk s row k) (o4 o5 : Option S) : ∃ p4 p5, b_Z5_f0 (eW row s (some (.sh (.int (k : Int)))) o4 o5) = some (.nx (eW row s (some (.sh (.int (k : Int)))) p4 p5)) := by
 obtain ⟨ok1, ok2⟩ := ok
 have v1 : ∀ o4 o5, m2 subD (mvar 3) (mc (.int 1)) (eW row s (some (.sh (.int (k : Int)))) o4 o5) = some (.int ((k - 1 : Nat) : Int)) := fun o4 o5 => (m2_at2 (a := .int (k : Int)) (b := .int 1) rfl rfl).trans (by show some (D.int ((k : Int) - 1)) = _; rw [show (k : Int) - 1 = ((k - 1 : Nat) : Int) by omega])
 refine ⟨some (.sh (.int (row.getD (k - 1) 0))), some (.sh (.int (row.getD k 0 - row.getD (k - 1) 0))), ?_⟩
 unfold b_Z5_f0
 refine seqI (ρ' := eW row s (some (.sh (.int (k : Int)))) (some (.sh (.int (row.getD (k - 1) 0)))) o5) ((mset_ev (place_row (by omega) (v1 _ _))).trans rfl) ?_
 refine seqI (ρ' := eW row s (some (.sh (.int (k : Int)))) (some (.sh (.int (row.getD (k - 1) 0)))) (some (.sh (.int (row.getD k 0 - row.getD (k - 1) 0))))) ((mset_ev ((m2_at2 (place_row (x := mvar 3) h2 rfl) (b := .int (row.getD (k - 1) 0)) rfl).trans rfl)).trans rfl) ?_
 generalize hap : row.getD k 0 - row.getD (k - 1) 0 = a at *
 have t1 : mtest (m2 ltD (call1 absF (acons (mvar 5) anil)) (mvar 1)) (eW row s (some (.sh (.int (k : Int)))) (some (.sh (.int (row.getD (k - 1) 0)))) (some (.sh (.int a)))) = some false := by
  refine mtest_ev ?_
  rw [m2_at2 (a := .int (if a < 0 then -a else a)) (b := .int s) (by unfold call1; rw [acons_ev (d := .int a) rfl anil_ev]; rfl) rfl]
  show some (D.bl (decide ((if a < 0 then -a else a) < s))) = _
  rw [decide_eq_false (by omega)]
 refine seqI (ρ' := eW row s (some (.sh (.int (k : Int)))) (some (.sh (.int (row.getD (k - 1) 0)))) (some (.sh (.int a)))) (by unfold mif; rw [t1]; rfl) ?_
 have t2 : cand (mtest (m2 gtD (mvar 3) (mc (.int 1)))) (mtest (m2 eqSD (m2 gtD (mvar 5) (mc (.int 0))) (m2 gtD (mvar 4) (mix (bvar 0) (mix (bvar 2) (m2 subD (mvar 3) (mc (.int 2)))))))) (eW row s (some (.sh (.int (k : Int)))) (some (.sh (.int (row.getD (k - 1) 0)))) (some (.sh (.int a)))) = some false := by
  have g1 : mtest (m2 gtD (mvar 3) (mc (.int 1))) (eW row s (some (.sh (.int (k : Int)))) (some (.sh (.int (row.getD (k - 1) 0)))) (some (.sh (.int a)))) = some (decide (1 < (k : Int))) := mtest_ev ((m2_at2 (a := .int (k : Int)) (b := .int 1) rfl rfl).trans rfl)
  by_cases q : 2 <= k
  ·rw [decide_eq_true (by omega)] at g1
   have v2 : m2 subD (mvar 3) (mc (.int 2)) (eW row s (some (.sh (.int (k : Int)))) (some (.sh (.int (row.getD (k - 1) 0)))) (some (.sh (.int a)))) = some (.int ((k - 2 : Nat) : Int)) := (m2_at2 (a := .int (k : Int)) (b := .int 2) rfl rfl).trans (by show some (D.int ((k : Int) - 2)) = _; rw [show (k : Int) - 2 = ((k - 2 : Nat) : Int) by omega])
   refine (cand_ev g1 (b := false) (mtest_ev ?_)).trans rfl
   rw [m2_at2 ((m2_at2 (a := .int a) (b := .int 0) rfl rfl).trans (show gtD (.int a) (.int 0) = some (.bl (decide (0 < a))) from rfl)) ((m2_at2 (a := .int (row.getD (k - 1) 0)) rfl (place_row (by omega) v2)).trans (show gtD (.int (row.getD (k - 1) 0)) (.int (row.getD (k - 2) 0)) = some (.bl (decide (row.getD (k - 2) 0 < row.getD (k - 1) 0))) from rfl))]
   unfold eqSD
   rw [eqS_bb, ok2 q]
   rfl
  ·rw [decide_eq_false (by omega)] at g1
   unfold cand
   rw [g1]
 unfold mif
 rw [t2]
 rfl
theorem law_wavy_eq (row : List Int) (s : Int) (hl : row.length <= 900) (ok : ∀ k, 1 <= k -> k < row.length -> StepOk s row k) : m_Z5 [RI row, .int s, RI (NI (List.range' 0 row.length))] = some (.sh (.bl true)) := by
 have big := size_big
 have hp : (NI (List.range' 0 row.length)).length = row.length := by unfold NI; simp
 unfold m_Z5 b_Z5
 refine runB_rt ?_
 have e0 : mlist rng2 (acons (mc (.int 1)) (acons (mlen (bvar 2)) anil)) (eW row s none none none) = some ((List.range (row.length - 1)).map fun (i : Nat) => D.int (1 + (i : Int))) := by
  unfold mlist
  rw [acons_ev (d := .int 1) rfl (acons_ev (d := .int (row.length : Int)) (by rw [mlen_ev (show bvar 2 (eW row s none none none) = some ((NI (List.range' 0 row.length)).map .int) from rfl), length_map, hp]) anil_ev), Option.bind_some, rng2_ok (okR_of (by omega) (by omega)) (okR_of (by omega) (by omega)), rangeD_map, show ((row.length : Int) - 1).toNat = row.length - 1 by omega]
 show mseq _ _ (eW row s none none none) = _
 refine seq_forN (row.length - 1) e0 (I := fun i ρ => ∃ x y z, ρ = eW row s x y z) (Q := fun o => ∃ x y z, o = .nx (eW row s x y z)) ⟨none, none, none, rfl⟩ ?_ ?_ ?_
 ·rintro i ρ hi ⟨x, y, z, rfl⟩
  obtain ⟨p4, p5, e⟩ := wavy_body (s := s) (i + 1) (by omega) (by omega) (ok (i + 1) (by omega) (by omega)) y z
  exact ⟨eW row s (some (.sh (.int ((i + 1 : Nat) : Int)))) y z, _, by rw [show ((i + 1 : Nat) : Int) = 1 + (i : Int) by omega]; rfl, e, _, _, _, rfl⟩
 ·rintro ρ ⟨x, y, z, rfl⟩
  exact ⟨x, y, z, rfl⟩
 ·rintro o ⟨x, y, z, rfl⟩
  rfl
end
section
open PySem L2
theorem reel_eq (c : Int) : ∃ a b : Int, m_Z7 [.int c] = some (.fr (RL a b)) := by
 have i2 : 0 + 1 + 1 <= sizeLine := le_size (by decide)
 have m1 : ∀ i, mulOk i 742938285 = true := fun i => mulOk_r _ _ (by decide) (by decide)
 have q : ∀ i, modOk i 2147483647 = true := fun i => modOk_of _ _ (by decide)
 refine ⟨(if c < 0 then -c else c), (c % 2147483647 + 1) * 742938285 % 2147483647, ?_⟩
 unfold m_Z7 b_Z7
 refine runB_rf ?_
 unfold RL
 simp_arith [m1, q, i2, if_true]
theorem take_own {tl : List (Option S)} {o0 o1 o2 : Option S} {x : ME} {a b m : Int} (hx : x (o0 :: o1 :: o2 :: some (.own (RL a b)) :: tl) = some (.int m)) (h : 0 < m) (h2 : m < 1073741824) : mcallG m_Z4 3 (apu (acons x anil)) (o0 :: o1 :: o2 :: some (.own (RL a b)) :: tl) = some (.int (tkX a b m), o0 :: o1 :: o2 :: some (.own (RL (tkA a m) (tkB a b))) :: tl) :=
 mcallG_own (ρ := o0 :: o1 :: o2 :: some (.own (RL a b)) :: tl) rfl (apu_ev (acons_ev hx anil_ev)) rfl (fun p => take_eq p a b m h h2) rfl
theorem ifW_no {c : MB} {x : MW} {ρ : Ro} {β : Bx} (h : c ρ = some false) : mifW (wE c) x (wS mnext) ρ β = some (.nx ρ, β) := by unfold mifW wE; rw [h]; rfl
theorem msetF_ev {i : Nat} {m : ML} {ρ : Ro} {ds : List D} (h : m ρ = some ds) : msetF i m ρ = some (.nx (ρ.set i (some (.own ds)))) := by unfold msetF; rw [h]; rfl
theorem misi_ev {c : String} {m : ME} {ρ : Ro} {d : D} {k : Bool} (h : m ρ = some d) (hk : kitB (tyD d) c = some k) : misi c m ρ = some (.bl k) := by unfold misi; rw [h, Option.bind_some, hk]; rfl
theorem mtru_ev {m : ME} {ρ : Ro} {k : Bool} (h : m ρ = some (.bl k)) : mtru m ρ = some k := by unfold mtru; rw [h]; rfl
theorem cnot_ev {c : MB} {ρ : Ro} {k : Bool} (h : c ρ = some k) : cnot c ρ = some (!k) := by unfold cnot; rw [h]; rfl
theorem bor_ev {i : Nat} {m : MB} {ρ : Ro} {ds : List D} {r : Option Bool} (h : ρ[i]? = some (some (.own ds))) (h2 : m (ρ.set i (some (.sh (.lst ds)))) = r) : mborB i m ρ = r := by unfold mborB; rw [h]; exact h2
theorem eq_lstT (l : List Int) : eqFD true (.lst (l.map .int)) (.lst (l.map .int)) = some (.bl false) := by
 unfold eqFD; rw [eqF_li 6 l]; rfl
theorem eq_noneT : eqFD true (.lst []) (.lst []) = some (.bl false) := eq_lstT []
theorem kit_list (l : List D) : kitB (tyD (.lst l)) "list" = some true := by show kitB "list" "list" = _; decide +kernel
theorem kit_bool (i : Int) : kitB (tyD (.int i)) "bool" = some false := by show kitB "int" "bool" = _; decide +kernel
theorem kit_int (i : Int) : kitB (tyD (.int i)) "int" = some true := by show kitB "int" "int" = _; decide +kernel
def eL (scr : D) (k c : Int) (r : List D) (o4 o5 o6 o7 o8 o9 : Option S) : Ro := [some (.sh scr), some (.sh (.int k)), some (.sh (.int c)), some (.own r), o4, o5, o6, o7, o8, o9]
theorem most_eq (scr : D) (k c a b : Int) (o4 o5 o6 o7 o8 o9 : Option S) : ∃ (most : Nat) (a1 b1 : Int), most <= 300 /\ m2m ixLD (mpu (mlst (sized (acons (mc (.int 60)) (acons (mc (.int 300)) anil))))) (call1m intF (aconsm (mandm (mpu (m2 eqSD (mvar 1) (mc (.int 0)))) (m2m eqSD (mcallG m_Z4 3 (apu (acons (mc (.int 8)) anil))) (mpu (mc (.int 0))))) (apu anil))) (eL scr k c (RL a b) o4 o5 o6 o7 o8 o9) = some (.int (most : Int), eL scr k c (RL a1 b1) o4 o5 o6 o7 o8 o9) := by
 have i2 : 0 + 1 + 1 <= sizeLine := le_size (by decide)
 have el : mlst (sized (acons (mc (.int 60)) (acons (mc (.int 300)) anil))) (eL scr k c (RL a b) o4 o5 o6 o7 o8 o9) = some (.lst [.int 60, .int 300]) := mlst_ev (sized_ev (acons_ev rfl (acons_ev rfl anil_ev)) i2)
 have ek : mpu (m2 eqSD (mvar 1) (mc (.int 0))) (eL scr k c (RL a b) o4 o5 o6 o7 o8 o9) = some (.bl (k == 0), eL scr k c (RL a b) o4 o5 o6 o7 o8 o9) := mpu_ev ((m2_at2 (a := .int k) (b := .int 0) rfl rfl).trans rfl)
 by_cases hk : k = 0
 ·have t : mcallG m_Z4 3 (apu (acons (mc (.int 8)) anil)) (eL scr k c (RL a b) o4 o5 o6 o7 o8 o9) = some (.int (tkX a b 8), eL scr k c (RL (tkA a 8) (tkB a b)) o4 o5 o6 o7 o8 o9) := take_own (m := 8) rfl (by decide) (by decide)
  have ea : mandm (mpu (m2 eqSD (mvar 1) (mc (.int 0)))) (m2m eqSD (mcallG m_Z4 3 (apu (acons (mc (.int 8)) anil))) (mpu (mc (.int 0)))) (eL scr k c (RL a b) o4 o5 o6 o7 o8 o9) = some (.bl (tkX a b 8 == 0), eL scr k c (RL (tkA a 8) (tkB a b)) o4 o5 o6 o7 o8 o9) := by
   unfold mandm
   rw [ek, show (k == 0) = true by rw [hk]; rfl]
   exact m2m_ev t (mpu_ev (d := .int 0) rfl) (g := .bl (tkX a b 8 == 0)) rfl
  have hat : ∃ most : Nat, most <= 300 /\ ixLD (.lst [.int 60, .int 300]) (.int (if (tkX a b 8 == 0) = true then 1 else 0)) = some (.int (most : Int)) := by
   cases (tkX a b 8 == 0)
   ·exact ⟨60, by decide, rfl⟩
   ·exact ⟨300, by decide, rfl⟩
  obtain ⟨most, hm, hat⟩ := hat
  exact ⟨most, _, _, hm, m2m_ev (mpu_ev el) (call1m_ev (aconsm_ev ea (apu_ev (d := []) rfl)) (d := .int (if (tkX a b 8 == 0) = true then 1 else 0)) rfl) (g := .int (most : Int)) hat⟩
 ·have ea : mandm (mpu (m2 eqSD (mvar 1) (mc (.int 0)))) (m2m eqSD (mcallG m_Z4 3 (apu (acons (mc (.int 8)) anil))) (mpu (mc (.int 0)))) (eL scr k c (RL a b) o4 o5 o6 o7 o8 o9) = some (.bl false, eL scr k c (RL a b) o4 o5 o6 o7 o8 o9) := by
   unfold mandm
   rw [ek, beq_eq_false_iff_ne.mpr hk]
  exact ⟨60, a, b, by decide, m2m_ev (mpu_ev el) (call1m_ev (aconsm_ev ea (apu_ev (d := []) rfl)) (d := .int 0) rfl) (g := .int 60) rfl⟩
theorem no_bools (made : List Int) (hl : made.length <= 900) {ρ : Ro} (h : mvar 8 ρ = some (RI made)) : mcomp [none] (aslst (mvar 8)) (.nm 0) (cor (mtru (misi "bool" (mvar 0))) (cnot (mtru (misi "int" (mvar 0))))) (mc (.int 1)) ρ = some [] := by
 have big := size_big
 unfold mcomp
 rw [aslst_ev (ds := made.map .int) h, Option.bind_some]
 refine (compD_filter (f := D.int) (p := fun _ => false) (G := fun _ => D.int 1) (fun _ ρ => ∃ x, ρ = [x]) (by
  rintro i is ρ ⟨x, rfl⟩
  refine ⟨[some (.sh (.int i))], rfl, ?_, (fun z => by cases z), _, rfl⟩
  exact (cor_ev (mtru_ev (misi_ev (d := .int i) rfl (kit_bool i))) (cnot_ev (mtru_ev (misi_ev (d := .int i) rfl (kit_int i))))).trans rfl) made _ [] ⟨none, rfl⟩ (by simp; omega)).trans ?_
 simp
theorem same_comp (made row : List Int) (hm : made.length = row.length) (hl : row.length <= 900) {ρ : Ro} (h : blkRo [none, some 8, some 4] ρ = [none, some (.sh (RI made)), some (.sh (RI row))]) (h4 : bvar 4 ρ = some (row.map .int)) : mcomp [none, some 8, some 4] (mlist rng1 (acons (mlen (bvar 4)) anil)) (.nm 0) (mtest (m2 eqSD (mix (bvar 1) (mvar 0)) (mix (bvar 2) (mvar 0)))) (mvar 0) ρ = some ((NI ((List.range row.length).filter fun i => (made.getD i 0 == row.getD i 0))).map .int) := by
 have big := size_big
 unfold mcomp mlist
 rw [acons_ev (d := .int (row.length : Int)) (by rw [mlen_ev h4, length_map]) anil_ev, Option.bind_some, rng1_ok (okR_of (by omega) (by omega)), Option.bind_some, Int.toNat_natCast, rangeD_li, map_map, h]
 refine (compD_filter (f := D.int ∘ fun (i : Nat) => (i : Int)) (p := fun i => (made.getD i 0 == row.getD i 0)) (G := fun (i : Nat) => D.int (i : Int)) (fun is ρ => (∀ i ∈ is, i < row.length) /\ ∃ x, ρ = [x, some (.sh (RI made)), some (.sh (RI row))]) (by
  rintro i is ρ ⟨hi, x, rfl⟩
  have hi0 := hi i (by simp)
  refine ⟨[some (.sh (.int (i : Int))), some (.sh (RI made)), some (.sh (RI row))], rfl, mtest_ev ?_, fun _ => rfl, fun j hj => hi j (by simp [hj]), _, rfl⟩
  rw [m2_at2 (mix_ev (ds := made.map .int) (k := (i : Int)) rfl rfl (at_nat made i (by omega))) (mix_ev (ds := row.map .int) (k := (i : Int)) rfl rfl (at_nat row i hi0))]
  rfl) (List.range row.length) _ [] ⟨fun i hi => List.mem_range.mp hi, none, rfl⟩ (le_size (by simp; omega))).trans ?_
 rw [nil_append]
 unfold NI
 rw [map_map]
 rfl
end
section
open PySem L2
theorem cell_ok (T : Addr) (scr : D) (k c : Int) (o3 o4 o5 o6 o7 o8 o9 : Option S) : ∃ p3 p4 p5 p6 p7 p8 p9, b_law_f0 [some (.sh scr), some (.sh (.int k)), some (.sh (.int c)), o3, o4, o5, o6, o7, o8, o9] (Bt T) = some (.nx [some (.sh scr), some (.sh (.int k)), some (.sh (.int c)), p3, p4, p5, p6, p7, p8, p9], Bt T) := by
 have big := size_big
 have i2 : 0 + 1 + 1 <= sizeLine := le_size (by decide)
 unfold b_law_f0
 obtain ⟨a, b, e0⟩ := reel_eq c
 obtain ⟨most, a1, b1, hm, emost⟩ := most_eq scr k c a b o4 o5 o6 o7 o8 o9
 obtain ⟨row, a2, b2, hr, er⟩ := row_eq a1 b1 most hm
 obtain ⟨s, a3, b3, hs, es⟩ := step_eq a2 b2 row hr
 have hl : row.length <= 1000 := by omega
 have emw := made_wavy_eq T row s hs hl
 have hsame := same_row s (bw row s) row
 have hkept : NI (stG s 0 none (mirF (bw row s) row)) = NI (stG s 0 none (mirF (bw row s) row)) := rfl
 generalize hk : NI (stG s 0 none (mirF (bw row s) row)) = kept at hkept
 have hFB : FB (bw row s) row s = .tup [.int (cN s none (mirF (bw row s) row) : Int), RI kept] := by rw [<- hk]; rfl
 generalize hmade : mirF (bw row s) (mkH s none (mirF (bw row s) row)) = made at emw hsame
 have hmlen : made.length = row.length := by rw [<- hmade, mirF_len, mkH_len, mirF_len]
 have hmok : okp s none (mirF (bw row s) made) := by rw [<- hmade, mirF_inv]; exact okp_made none _
 have ewv := law_wavy_eq made s (by omega) (fun k h1 h2 => made_steps hs (bw row s) made hmok k h1 h2)
 rw [hmlen] at ewv
 generalize hpl : NI (List.range' 0 row.length) = places at ewv
 refine ⟨some (.own (RL a3 b3)), some (.sh (RI row)), some (.sh (.int s)), some (.sh (RI kept)), some (.sh (RI row)), some (.own (made.map .int ++ [.int 0])), some (.sh (RI made)), ?_⟩
 refine seqW (ρ' := eL scr k c (RL a b) o4 o5 o6 o7 o8 o9) (wS_nx ((msetF_ev (mcallF_ev (acons_ev (d := .int c) rfl anil_ev) e0)).trans rfl)) ?_
 refine seqW (ρ' := eL scr k c (RL a2 b2) (some (.sh (RI row))) o5 o6 o7 o8 o9) (wS_nx ((msetm_ev (mcallG_own (r0 := RL a1 b1) (r2 := RL a b) rfl (aconsm_ev emost (apu_ev (d := []) rfl)) rfl er rfl)).trans rfl)) ?_
 refine seqW (ρ' := eL scr k c (RL a3 b3) (some (.sh (RI row))) (some (.sh (.int s))) o6 o7 o8 o9) (wS_nx ((msetm_ev (mcallG_own (r0 := RL a2 b2) (r2 := RL a2 b2) rfl (apu_ev (acons_ev (d := RI row) rfl anil_ev)) rfl es rfl)).trans rfl)) ?_
 refine seqW (ρ' := eL scr k c (RL a3 b3) (some (.sh (RI row))) (some (.sh (.int s))) (some (.sh (RI kept))) o7 o8 o9) (wS_nx ((mset_ev (d := RI kept) ?_).trans rfl)) ?_
 ·have et : astup (mtup (acons (mc (.int 1)) (acons (m1 negD (mc (.int 1))) anil))) (eL scr k c (RL a3 b3) (some (.sh (RI row))) (some (.sh (.int s))) o6 o7 o8 o9) = some [.int (sg true), .int (sg false)] := by
   unfold astup
   rw [mtup_ev (acons_ev (d := .int 1) rfl (acons_ev (d := .int (-1)) rfl anil_ev)) i2]
   rfl
  rw [m2_at2 (minP_FB row s (both_sg (by omega) et rfl)) (b := .int 1) rfl, hFB]
  rfl
 refine seqW (ρ' := eL scr k c (RL a3 b3) (some (.sh (RI row))) (some (.sh (.int s))) (some (.sh (RI kept))) (some (.sh (RI row))) o8 o9) (wS_nx ((mset_ev (mlst_ev (ds := row.map .int) rfl)).trans rfl)) ?_
 refine seqW (β' := Bt T) (ρ' := eL scr k c (RL a3 b3) (some (.sh (RI row))) (some (.sh (.int s))) (some (.sh (RI kept))) (some (.sh (RI row))) (some (.own (made.map .int))) o9) ?_ ?_
 ·unfold msetXF
  rw [acons_ev (d := RI row) rfl (acons_ev (d := .int s) rfl anil_ev), Option.bind_some, emw]
  rfl
 generalize hρ : eL scr k c (RL a3 b3) (some (.sh (RI row))) (some (.sh (.int s))) (some (.sh (RI kept))) (some (.sh (RI row))) = env
 have henv : ∀ o8 o9, env o8 o9 = [some (.sh scr), some (.sh (.int k)), some (.sh (.int c)), some (.own (RL a3 b3)), some (.sh (RI row)), some (.sh (.int s)), some (.sh (RI kept)), some (.sh (RI row)), o8, o9] := fun _ _ => by rw [<- hρ]; rfl
 have hown : ∀ o9, (env (some (.own (made.map .int))) o9)[8]? = some (some (.own (made.map .int))) := fun _ => by rw [henv]; rfl
 have hset : ∀ o9, (env (some (.own (made.map .int))) o9).set 8 (some (.sh (.lst (made.map .int)))) = env (some (.sh (RI made))) o9 := fun _ => by rw [henv, henv]; rfl
 have b4 : ∀ o8 o9, bvar 4 (env o8 o9) = some (row.map .int) := fun _ _ => by rw [henv]; rfl
 have b8 : ∀ o9, bvar 8 (env (some (.sh (RI made))) o9) = some (made.map .int) := fun _ => by rw [henv]; rfl
 have v8 : ∀ o9, mvar 8 (env (some (.sh (RI made))) o9) = some (RI made) := fun _ => by rw [henv]; rfl
 have v5 : ∀ o8 o9, mvar 5 (env o8 o9) = some (.int s) := fun _ _ => by rw [henv]; rfl
 have v7 : ∀ o8 o9, mvar 7 (env o8 o9) = some (RI row) := fun _ _ => by rw [henv]; rfl
 have b7 : ∀ o8 o9, bvar 7 (env o8 o9) = some (row.map .int) := fun _ _ => by rw [henv]; rfl
 have b6 : ∀ o8 o9, bvar 6 (env o8 o9) = some (kept.map .int) := fun _ _ => by rw [henv]; rfl
 have l4 : ∀ o8 o9, mlen (bvar 4) (env o8 o9) = some (.int (row.length : Int)) := fun _ _ => by rw [mlen_ev (b4 _ _), length_map]
 have l8 : ∀ o9, mlen (bvar 8) (env (some (.sh (RI made))) o9) = some (.int (row.length : Int)) := fun _ => by rw [mlen_ev (b8 _), length_map, hmlen]
 refine seqW (ρ' := env (some (.own (made.map .int))) o9) (ifW_no (bor_ev (hown _) ?_)) ?_
 ·rw [hset]
  refine (cor_ev (cnot_ev (mtru_ev (misi_ev (v8 _) (kit_list _)))) (cor_ev (a := false) (b := false) (mtest_ev ?_) (mtest_ev ?_))).trans rfl
  ·rw [m2_at2 (l8 _) (l4 _ _)]
   unfold neSD
   rw [eqS_ii]
   simp
  ·unfold meqB
   rw [b7, b4]
   exact eq_lstT row
 refine seqW (ρ' := env (some (.own (made.map .int))) o9) (ifW_no (bor_ev (hown _) (mtest_ev ?_))) ?_
 ·rw [hset]
  unfold meqB
  rw [no_bools made (by omega) (v8 _), sized_ev (ds := []) anil_ev (Nat.zero_le _)]
  exact eq_noneT
 refine seqW (ρ' := env (some (.own (made.map .int))) o9) (ifW_no (bor_ev (hown _) (mtest_ev ?_))) ?_
 ·rw [hset]
  unfold meqB
  rw [same_comp made row hmlen (by omega) (by rw [henv]; rfl) (b4 _ _), hsame, hk, b6]
  exact eq_lstT kept
 refine seqW (ρ' := env (some (.own (made.map .int))) o9) (ifW_no (bor_ev (hown _) ?_)) ?_
 ·rw [hset]
  refine (cnot_ev (mtru_ev (mcall_sh (acons_ev (v8 _) (acons_ev (v5 _ _) (acons_ev (d := RI places) (mlst_ev ?_) anil_ev))) ewv))).trans rfl
  unfold mlist
  rw [acons_ev (l4 _ _) anil_ev, Option.bind_some, lrng1_ok (by omega), <- hpl, <- range_eq_range']
  rfl
 refine seqW (ρ' := env (some (.own (made.map .int))) (some (.sh (RI made)))) (wS_nx ((mset_ev (mlst_ev (ds := made.map .int) (by rw [henv]; rfl))).trans (by rw [henv, henv]; rfl))) ?_
 refine seqW (ρ' := env (some (.own (made.map .int ++ [.int 0]))) (some (.sh (RI made)))) (wS_nx ?_) ?_
 ·have hz : (made.map D.int).length < sizeLine := by rw [length_map]; omega
  rw [henv, henv]
  simp_arith [hz, if_true]
 have ex : mcmpX (eqFD true) (mcallW m_made_wavy (acons (mvar 7) (acons (mvar 5) anil))) (mvar 9) (env (some (.own (made.map .int ++ [.int 0]))) (some (.sh (RI made)))) (Bt T) = some (false, Bt T) := by
  unfold mcmpX mcallW
  rw [acons_ev (v7 _ _) (acons_ev (v5 _ _) anil_ev), Option.bind_some, emw]
  show (match mvar 9 (env (some (.own (made.map .int ++ [.int 0]))) (some (.sh (RI made)))) with | some e => (match eqFD true (.lst (made.map .int)) e with | some (.bl k) => some (k, Bt T) | _ => none) | none => none) = _
  rw [show mvar 9 (env (some (.own (made.map .int ++ [.int 0]))) (some (.sh (RI made)))) = some (.lst (made.map .int)) by rw [henv]; rfl]
  show (match eqFD true (.lst (made.map .int)) (.lst (made.map .int)) with | some (.bl k) => some (k, Bt T) | _ => none) = _
  rw [eq_lstT]
 unfold mifX
 rw [ex]
 show wS mnext _ _ = _
 rw [henv]
 rfl
theorem for_all (T : Addr) (scr : D) (f : Nat -> Int) : ∀ (is : List Nat) (o1 o2 o3 o4 o5 o6 o7 o8 o9 : Option S), ∃ p1 p2 p3 p4 p5 p6 p7 p8 p9, forW (.tp [1, 2]) b_law_f0 (is.map fun (i : Nat) => D.tup [.int (i : Int), .int (f i)]) [some (.sh scr), o1, o2, o3, o4, o5, o6, o7, o8, o9] (Bt T) = some (.nx [some (.sh scr), p1, p2, p3, p4, p5, p6, p7, p8, p9], Bt T)
 | [], o1, o2, o3, o4, o5, o6, o7, o8, o9 => ⟨o1, o2, o3, o4, o5, o6, o7, o8, o9, rfl⟩
 | i :: is, o1, o2, o3, o4, o5, o6, o7, o8, o9 => by
  obtain ⟨q3, q4, q5, q6, q7, q8, q9, e⟩ := cell_ok T scr (i : Int) (f i) o3 o4 o5 o6 o7 o8 o9
  obtain ⟨p1, p2, p3, p4, p5, p6, p7, p8, p9, e2⟩ := for_all T scr f is (some (.sh (.int (i : Int)))) (some (.sh (.int (f i)))) q3 q4 q5 q6 q7 q8 q9
  refine ⟨p1, p2, p3, p4, p5, p6, p7, p8, p9, ?_⟩
  rw [map_cons, forW]
  show (match b_law_f0 [some (.sh scr), some (.sh (.int (i : Int))), some (.sh (.int (f i))), o3, o4, o5, o6, o7, o8, o9] (Bt T) with
   | some (.nx ρ2, β2) => forW (.tp [1, 2]) b_law_f0 (is.map fun (i : Nat) => D.tup [.int (i : Int), .int (f i)]) ρ2 β2
   | some (.ct ρ2, β2) => forW (.tp [1, 2]) b_law_f0 (is.map fun (i : Nat) => D.tup [.int (i : Int), .int (f i)]) ρ2 β2
   | some (.bk ρ2, β2) => some (.nx ρ2, β2)
   | o => o) = _
  rw [e]
  exact e2
theorem law_true (T : Addr) (ns : List Int) (hn : ns.length <= 63) : ∃ β, m_law [.lst (ns.map .int)] [(T, .tb T "made_wavy" ⟨30, 26, 30, 72⟩ "made_wavy.<locals>.<lambda>")] = some (.sh (.bl true), β) := by
 have big := size_big
 have i1 : 1 <= sizeLine := le_size (by decide)
 have c1 : mcut (bvar 0) onone (osome (mc (.int 4))) (startS 10 [.lst (ns.map .int)]) = some ((ns.take 4).map .int) := by
  have : cutL (ns.map D.int) none (some ((4 : Nat) : Int)) = (ns.take 4).map .int := by rw [cutL_map, cutI_to]
  unfold mcut
  exact congrArg some this
 have c2 : sized (acons (mlen (bvar 0)) anil) (startS 10 [.lst (ns.map .int)]) = some (([(ns.length : Int)] : List Int).map .int) := by
  refine sized_ev (acons_ev (d := .int (ns.length : Int)) ?_ anil_ev) i1
  rw [mlen_ev (show bvar 0 _ = some (ns.map .int) from rfl), length_map]
 have c3 := mcat_ev c1 c2 (by rw [length_map, length_map, length_take, length_singleton]; omega)
 rw [<- map_append] at c3
 generalize hxs : ns.take 4 ++ [(ns.length : Int)] = xs at c3
 have ee : mlist enum1 (acons (mlst (mcat (mcut (bvar 0) onone (osome (mc (.int 4)))) (sized (acons (mlen (bvar 0)) anil)))) anil) (startS 10 [.lst (ns.map .int)]) = some ((List.range xs.length).map fun (i : Nat) => D.tup [.int (i : Int), .int (xs.getD i 0)]) := by
  unfold mlist
  rw [acons_ev (mlst_ev c3) anil_ev, Option.bind_some]
  show some (enumL 0 (xs.map .int)) = _
  rw [enumL_map]
  congr 1
  apply map_congr_left
  intro i _
  rw [Nat.zero_add]
 obtain ⟨p1, p2, p3, p4, p5, p6, p7, p8, p9, e⟩ := for_all T (.lst (ns.map .int)) (fun i => xs.getD i 0) (List.range xs.length) none none none none none none none none none
 have ef : mforW (mlist enum1 (acons (mlst (mcat (mcut (bvar 0) onone (osome (mc (.int 4)))) (sized (acons (mlen (bvar 0)) anil)))) anil)) (.tp [1, 2]) b_law_f0 (startS 10 [.lst (ns.map .int)]) (Bt T) = some (.nx [some (.sh (.lst (ns.map .int))), p1, p2, p3, p4, p5, p6, p7, p8, p9], Bt T) := by
  unfold mforW
  rw [ee, Option.bind_some]
  exact e
 refine ⟨Bt T, ?_⟩
 unfold m_law b_law runW
 show (match mseqW _ b_law_r1 (startS 10 [.lst (ns.map .int)]) (Bt T) with | some (.nx _, β') => _ | some (.rt d, β') => _ | some (.rf es, β') => _ | _ => _) = _
 rw [seqW ef (r := some (.rt (.bl true), Bt T)) rfl]
 simp
end
end
end Lw
namespace Lw
open List
open PySem L2
open PyProof.Rows
section
def top (i : Nat) : Stmt := PySem.Challenge.pw_wavyrow_k52_rows_made_wavy.main.body.getD i (.Pass ⟨0, 0, 0, 0⟩)
section
variable (P : Program) (w : World) (K : W.Frag) (mg : Str -> Option Value) (base : Heap)
abbrev T_Z2 : Prop := QHd P w K mg base 1 "refuse_step" ["step"] (spR K 1 m_Z2)
abbrev T_Z6 : Prop := QHd P w K mg base 1 "mirrored" ["row", "word"] (spR K 2 m_Z6)
abbrev T_Z9 : Prop := QHd P w K mg base 1 "staying" ["heights", "step"] (spR K 2 m_Z9)
abbrev T_Z0 : Prop := QHd P w K mg base 2 "fewest_beginning" ["row", "step", "word"] (spR K 3 m_Z0)
abbrev T_made_wavy : Prop := QHd P w K mg base 5 "made_wavy" ["row", "step"] (spW K 2 m_made_wavy)
abbrev T_Z7 : Prop := QHd P w K mg base 1 "_law_reel" ["cell"] (spR K 1 m_Z7)
abbrev T_Z4 : Prop := QHd P w K mg base 1 "_law_take" ["reel", "many"] (spG K 2 m_Z4)
abbrev T_Z10 : Prop := QHd P w K mg base 2 "_law_row" ["reel", "most"] (spG K 2 m_Z10)
abbrev T_Z8 : Prop := QHd P w K mg base 2 "_law_step" ["reel", "row"] (spG K 2 m_Z8)
abbrev T_Z5 : Prop := QHd P w K mg base 1 "_law_wavy" ["row", "step", "places"] (spR K 3 m_Z5)
abbrev T_Z1 : Prop := QHd P w K mg base 1 "_law_step_right" ["row", "step", "place", "sign"] (spR K 4 m_Z1)
abbrev T_law_kept : Prop := QHd P w K mg base 2 "_law_kept" ["row", "step", "sign"] (spR K 3 m_law_kept)
abbrev T_Z3 : Prop := QHd P w K mg base 3 "_law_changed" ["row", "step", "sign"] (spR K 3 m_Z3)
end
abbrev Zs (mg : Str -> Option Value) : Prop := mg "abs" = none /\ mg "bool" = none /\ mg "enumerate" = none /\ mg "int" = none /\ mg "isinstance" = none /\ mg "len" = none /\ mg "list" = none /\ mg "max" = none /\ mg "min" = none /\ mg "range" = none /\ True
theorem z_abs {mg : Str -> Option Value} (Z : Zs mg) : mg "abs" = none := Z.1
theorem z_bool {mg : Str -> Option Value} (Z : Zs mg) : mg "bool" = none := Z.2.1
theorem z_enumerate {mg : Str -> Option Value} (Z : Zs mg) : mg "enumerate" = none := Z.2.2.1
theorem z_int {mg : Str -> Option Value} (Z : Zs mg) : mg "int" = none := Z.2.2.2.1
theorem z_isinstance {mg : Str -> Option Value} (Z : Zs mg) : mg "isinstance" = none := Z.2.2.2.2.1
theorem z_len {mg : Str -> Option Value} (Z : Zs mg) : mg "len" = none := Z.2.2.2.2.2.1
theorem z_list {mg : Str -> Option Value} (Z : Zs mg) : mg "list" = none := Z.2.2.2.2.2.2.1
theorem z_max {mg : Str -> Option Value} (Z : Zs mg) : mg "max" = none := Z.2.2.2.2.2.2.2.1
theorem z_min {mg : Str -> Option Value} (Z : Zs mg) : mg "min" = none := Z.2.2.2.2.2.2.2.2.1
theorem z_range {mg : Str -> Option Value} (Z : Zs mg) : mg "range" = none := Z.2.2.2.2.2.2.2.2.2.1
variable {P : Program} {w : World} {K : W.Frag} {mg : Str -> Option Value} {base : Heap}
abbrev s_Z2 : Stmt := top 5
abbrev N_Z2 : List Str := ["step"]
theorem sc_Z2 : FnScope N_Z2 ["step"] (defScope s_Z2) := qsc
theorem ok_Z2 (D : QDf K mg "refuse_step" s_Z2 ["step"]) : T_Z2 P w K mg base :=
 D.mk fun f fd Fn => Fn.okD (k := 0) (m := b_Z2) sc_Z2 fun cdv A outer s H E hr => (pssd_one (psd_if (pc_cmp op_lt opd_lt (pd_var 0 (pv 0)) pd_int (nomark _)) (pssd_one psd_never) pssd_nil))
abbrev s_Z6 : Stmt := top 8
abbrev N_Z6 : List Str := ["row", "word", "low"]
theorem sc_Z6 : FnScope N_Z6 ["row", "word"] (defScope s_Z6) := qsc
theorem nd_mirrored_0 : List.Nodup (["place", "number", "low"] : List Str) := by decide +kernel
theorem ok_Z6 {k_WORDS : Addr} (D : QDf K mg "mirrored" s_Z6 ["row", "word"]) (KT_WORDS : KTup K k_WORDS (["up", "down"] : List Str)) (a_WORDS : mg "WORDS" = some (.ref k_WORDS)) (Z : Zs mg) : T_Z6 P w K mg base :=
 D.mk fun f fd Fn => Fn.okD (k := 0) (m := b_Z6) sc_Z6 fun cdv A outer s H E hr => (pssd_cons (psd_set (i := 2) sc_Z6.nd rfl (Or.inr rfl) (pd_indexS KT_WORDS (pd_var 1 (pv 1)) (fun t ha => pe_bm PySem.F.plainAttrs_tuple PySem.F.slot_tuple_index PySem.F.type_tuple_index mt_indexS2 (pe_glob rfl a_WORDS rfl) ha))) (pssd_one (psd_retF (pf_comp (blk_of (N := ["place", "number", "low"]) (src := [none, none, some 2]) (defScope s_Z6) N_Z6 rfl rfl (by decide +kernel)) rfl (pid_enum rfl (z_enumerate Z) (pas_cons (pd_var 0 (pv 0)) pas_nil)) (fun C fp s0 H0 => (pgd_tup (is := [0, 1]) (pg_tup rfl (pgs_cons (pg_name (i := 0) nd_mirrored_0 rfl (Or.inl rfl)) (pgs_cons (pg_name (i := 1) nd_mirrored_0 rfl (Or.inl rfl)) pgs_nil))))) (fun C fp s0 H0 => ptsd_nil) (fun C fp s0 H0 => (pd_ite (pc_cmp op_eq opd_eqS (pd_mod (pd_var 0 (pv 0)) pd_int) (pd_var 2 (pv 2)) (nomark _)) (pd_neg (pd_var 1 (pv 1))) (pd_var 1 (pv 1))))))))
abbrev s_Z9 : Stmt := top 9
abbrev N_Z9 : List Str := ["heights", "step", "stay", "place", "height"]
theorem sc_Z9 : FnScope N_Z9 ["heights", "step"] (defScope s_Z9) := qsc
theorem ok_Z9 (D : QDf K mg "staying" s_Z9 ["heights", "step"]) (Z : Zs mg) : T_Z9 P w K mg base :=
 D.mk fun f fd Fn => Fn.okD (k := 0) (m := b_Z9) sc_Z9 fun cdv A outer s H E hr => (pssd_cons (psd_setF (i := 2) sc_Z9.nd rfl (Or.inl rfl) (pf_lst pas_nil)) (pssd_cons (psd_for PassesOwn.never rfl (pid_enum rfl (z_enumerate Z) (pas_cons (pd_var 0 (pv 0)) pas_nil)) (pgd_tup (is := [3, 4]) (pg_tup rfl (pgs_cons (pg_name (i := 3) sc_Z9.nd rfl (Or.inl rfl)) (pgs_cons (pg_name (i := 4) sc_Z9.nd rfl (Or.inl rfl)) pgs_nil)))) (pssd_one (psd_if (pc_w (pcw_or (pc_eqB (op_neF hr.units) (pf_pb (pf_sl (pb_var 2 (pv 2)) (pos_some (pd_neg pd_int)) pos_none)) (pf_pb (pf_lst (pas_cons (pd_sub (pd_var 3 (pv 3)) pd_int) pas_nil))) (nomark _)) (pw1_or (pc_cmp op_ge opd_ge (pd_add (pd_ix (pb_var 0 (pv 0)) (pd_sub (pd_var 3 (pv 3)) pd_int)) (pd_var 4 (pv 4))) (pd_var 1 (pv 1)) (nomark _))))) (pssd_one (psd_append (i := 2) (pv 2) (pd_var 3 (pv 3)) (fun t ha => qap (pv 2) ha) (pas_cons (pd_var 3 (pv 3)) pas_nil))) pssd_nil))) (pssd_one (psd_retO 2 (pv 2)))))
abbrev s_Z0 : Stmt := top 10
abbrev N_Z0 : List Str := ["row", "step", "word", "stay"]
theorem sc_Z0 : FnScope N_Z0 ["row", "step", "word"] (defScope s_Z0) := qsc
theorem ok_Z0 {k_WORDS : Addr} (D : QDf K mg "fewest_beginning" s_Z0 ["row", "step", "word"]) (H_Z6 : T_Z6 P w K mg base) (H_Z2 : T_Z2 P w K mg base) (H_Z9 : T_Z9 P w K mg base) (KT_WORDS : KTup K k_WORDS (["up", "down"] : List Str)) (a_WORDS : mg "WORDS" = some (.ref k_WORDS)) (Z : Zs mg) : T_Z0 P w K mg base :=
 D.mk fun f fd Fn => Fn.okD (k := 1) (m := b_Z0) sc_Z0 fun cdv A outer s H E hr => (pssd_cons (psd_if (pc_cmp op_notIn_seq opd_in (pd_var 2 (pv 2)) (pd_globT KT_WORDS rfl a_WORDS) rfl) (pssd_one psd_never) pssd_nil) (pssd_cons (psd_expr (pd_call (fun t ha => qcl H_Z2 hr ha) rfl (pas_cons (pd_var 1 (pv 1)) pas_nil) qal1)) (pssd_cons (psd_set (i := 3) sc_Z0.nd rfl (Or.inl rfl) (pd_call (fun t ha => qcl H_Z9 hr ha) rfl (pas_cons (pd_call (fun t ha => qcl H_Z6 hr ha) rfl (pas_cons (pd_var 0 (pv 0)) (pas_cons (pd_var 2 (pv 2)) pas_nil)) qal2) (pas_cons (pd_var 1 (pv 1)) pas_nil)) qal2)) (pssd_one (psd_ret (pd_tup (pas_cons (pd_sub (pd_lenB rfl (z_len Z) (pb_var 0 (pv 0))) (pd_lenB rfl (z_len Z) (pb_var 3 (pv 3)))) (pas_cons (pd_var 3 (pv 3)) pas_nil))))))))
abbrev s_made_wavy : Stmt := top 11
abbrev N_made_wavy : List Str := ["row", "step", "word", "many", "stay", "heights", "made"]
theorem sc_made_wavy : FnScope N_made_wavy ["row", "step"] (defScope s_made_wavy) := qsc
theorem nd_made_wavy_0 : List.Nodup (["place", "height", "stay", "step", "heights"] : List Str) := by decide +kernel
theorem ok_made_wavy {k_WORDS : Addr} {T0 : Addr} (D : QDf K mg "made_wavy" s_made_wavy ["row", "step"]) (H_Z0 : T_Z0 P w K mg base) (H_Z6 : T_Z6 P w K mg base) (KT_WORDS : KTup K k_WORDS (["up", "down"] : List Str)) (a_WORDS : mg "WORDS" = some (.ref k_WORDS)) (tf0 : TabF K "made_wavy" T0) (bt0 : base.BuiltinsAt mg T0) (Z : Zs mg) : T_made_wavy P w K mg base :=
 D.mkT fun f fd Fn ha => Fn.okWT (k := 4) (m := b_made_wavy) sc_made_wavy fun cdv A outer s H E hcv hr => (pssw_cons (psw_setX (i := 2) sc_made_wavy.nd rfl (Or.inl rfl) (pdx_lam (x := "each") (mw := "made_wavy") (N := ["each", "row", "step"]) (src := [none, some 0, some 1]) KT_WORDS rfl a_WORDS rfl (z_min Z) (fun P T M => codeT_of Fn ha hcv tf0 bt0 T M) (blk_of (N := ["each", "row", "step"]) (src := [none, some 0, some 1]) (defScope s_made_wavy) N_made_wavy rfl rfl (by decide +kernel)) rfl rfl rfl (fun _ _ _ _ _ => rfl) (fun f c s0 H0 => (pd_call (fun t ha => qcl H_Z0 (lam_room hr.in1) ha) rfl (pas_cons (pd_var 1 (pv 1)) (pas_cons (pd_var 2 (pv 2)) (pas_cons (pd_var 0 (pv 0)) pas_nil))) qal3)) rfl rfl hr.in1.depth hr.in1.hd rfl hr.units)) (pssw_cons (psw (psd_asg (ps_asg (pd_call (fun t ha => qcl H_Z0 hr ha) rfl (pas_cons (pd_var 0 (pv 0)) (pas_cons (pd_var 1 (pv 1)) (pas_cons (pd_var 2 (pv 2)) pas_nil))) qal3) (pgd_tup (is := [3, 4]) (pg_tup rfl (pgs_cons (pg_name (i := 3) sc_made_wavy.nd rfl (Or.inl rfl)) (pgs_cons (pg_name (i := 4) sc_made_wavy.nd rfl (Or.inr rfl)) pgs_nil))))))) (pssw_cons (psw (psd_set (i := 5) sc_made_wavy.nd rfl (Or.inr rfl) (pd_call (fun t ha => qcl H_Z6 hr ha) rfl (pas_cons (pd_var 0 (pv 0)) (pas_cons (pd_var 2 (pv 2)) pas_nil)) qal2))) (pssw_cons (psw (psd_setCs (ps_setC (i := 6) sc_made_wavy.nd rfl (Or.inl rfl) (blk_of (N := ["place", "height", "stay", "step", "heights"]) (src := [none, none, some 4, some 1, some 5]) (defScope s_made_wavy) N_made_wavy rfl rfl (by decide +kernel)) rfl (pid_enum rfl (z_enumerate Z) (pas_cons (pd_var 5 (pv 5)) pas_nil)) (fun C fp s0 H0 => (pgd_tup (is := [0, 1]) (pg_tup rfl (pgs_cons (pg_name (i := 0) nd_made_wavy_0 rfl (Or.inl rfl)) (pgs_cons (pg_name (i := 1) nd_made_wavy_0 rfl (Or.inl rfl)) pgs_nil))))) (fun C fp s0 H0 => ptsd_nil) (fun C fp s0 H0 => (pd_ite (pc_cmp op_in_seq opd_in (pd_var 0 (pv 0)) (pd_var 2 (pv 2)) rfl) (pd_var 1 (pv 1)) (pd_sub (pd_var 3 (pv 3)) (pd_minL rfl rfl (z_min Z) (pf_pb (pf_pick (pb_var 4 (pv 4)) (pos_some (pd_sub (pd_var 0 (pv 0)) pd_int)) (pos_some (pd_add (pd_var 0 (pv 0)) pd_int)) (pos_some pd_int)))))))))) (pssw_one (psw_retF (pf_call (fun t ha => qcl H_Z6 hr ha) rfl (pas_cons (pd_var 6 (pv 6)) (pas_cons (pd_var 2 (pv 2)) pas_nil)) qal2)))))))
abbrev s_Z7 : Stmt := top 14
abbrev N_Z7 : List Str := ["cell"]
theorem sc_Z7 : FnScope N_Z7 ["cell"] (defScope s_Z7) := qsc
theorem ok_Z7 (D : QDf K mg "_law_reel" s_Z7 ["cell"]) (Z : Zs mg) : T_Z7 P w K mg base :=
 D.mk fun f fd Fn => Fn.okD (k := 0) (m := b_Z7) sc_Z7 fun cdv A outer s H E hr => (pssd_one (psd_retF (pf_lst (pas_cons (pd_abs rfl (z_abs Z) (pas_cons (pd_var 0 (pv 0)) pas_nil)) (pas_cons (pd_mod (pd_mul (pd_add (pd_mod (pd_var 0 (pv 0)) pd_int) pd_int) pd_int) pd_int) pas_nil)))))
abbrev s_Z4 : Stmt := top 15
abbrev N_Z4 : List Str := ["reel", "many", "found", "stir"]
theorem sc_Z4 : FnScope N_Z4 ["reel", "many"] (defScope s_Z4) := qsc
theorem ok_Z4 (D : QDf K mg "_law_take" s_Z4 ["reel", "many"]) : T_Z4 P w K mg base :=
 D.mk fun f fd Fn => Fn.okGl (k := 0) (m := b_Z4) sc_Z4 (by decide) fun cdv A outer s H E hr => (pssd_cons (psd_if (pc_cmp op_ge opd_ge (pd_ix (pb_var 0 (pv 0)) pd_int) (pd_pow pd_int pd_int) (nomark _)) (pssd_cons (psd_set (i := 2) sc_Z4.nd rfl (Or.inl rfl) (pd_mod (pd_ix (pb_var 0 (pv 0)) pd_int) (pd_var 1 (pv 1)))) (pssd_cons (psd_setix (i := 0) (ps_asg (pd_fdiv (pd_ix (pb_var 0 (pv 0)) pd_int) (pd_var 1 (pv 1))) (pg_sub (pv 0) pd_int set_list))) (pssd_one (psd_retG 0 (pdm_pure (pd_var 2 (pv 2))))))) pssd_nil) (pssd_cons (psd_setix (i := 0) (ps_asg (pd_mod (pd_add (pd_mul (pd_ix (pb_var 0 (pv 0)) pd_int) pd_int) pd_int) pd_int) (pg_sub (pv 0) pd_int set_list))) (pssd_cons (psd_set (i := 3) sc_Z4.nd rfl (Or.inl rfl) (pd_mod (pd_mul (pd_ix (pb_var 0 (pv 0)) pd_int) (pd_ix (pb_var 0 (pv 0)) pd_int)) pd_int)) (pssd_one (psd_retG 0 (pdm_pure (pd_mod (pd_fdiv (pd_mod (pd_mul (pd_var 3 (pv 3)) pd_int) pd_int) pd_int) (pd_var 1 (pv 1)))))))))
abbrev s_Z10 : Stmt := top 16
abbrev N_Z10 : List Str := ["reel", "most", "many", "kind", "span", "found", "k", "number"]
theorem sc_Z10 : FnScope N_Z10 ["reel", "most"] (defScope s_Z10) := qsc
theorem ok_Z10 (D : QDf K mg "_law_row" s_Z10 ["reel", "most"]) (H_Z4 : T_Z4 P w K mg base) (Z : Zs mg) : T_Z10 P w K mg base :=
 D.mk fun f fd Fn => Fn.okGl (k := 1) (m := b_Z10) sc_Z10 (by decide) fun cdv A outer s H E hr => (pssd_cons (psd_setm (i := 2) sc_Z10.nd rfl (Or.inl rfl) (pdm_ix (pdm_lst (pam_cons (pdm_callG (i := 0) (fun t ha => qcl H_Z4 hr ha) rfl (pv 0) (pam_pure (pas_cons (pd_add (pd_var 1 (pv 1)) pd_int) pas_nil)) (apu_len qal1)) (pam_cons (pdm_pure (pd_var 1 (pv 1))) (pam_cons (pdm_callG (i := 0) (fun t ha => qcl H_Z4 hr ha) rfl (pv 0) (pam_pure (pas_cons (pd_add (pd_min2 rfl rfl (z_min Z) (pas_cons (pd_var 1 (pv 1)) (pas_cons pd_int pas_nil))) pd_int) pas_nil)) (apu_len qal1)) (pam_pure pas_nil))))) (pdm_callG (i := 0) (fun t ha => qcl H_Z4 hr ha) rfl (pv 0) (pam_pure (pas_cons pd_int pas_nil)) (apu_len qal1)))) (pssd_cons (psd_setm (i := 3) sc_Z10.nd rfl (Or.inl rfl) (pdm_callG (i := 0) (fun t ha => qcl H_Z4 hr ha) rfl (pv 0) (pam_pure (pas_cons pd_int pas_nil)) (apu_len qal1))) (pssd_cons (psd_setm (i := 4) sc_Z10.nd rfl (Or.inl rfl) (pdm_ix (pdm_pure (pf_pd (pf_lst (pas_cons pd_int (pas_cons pd_int (pas_cons pd_int (pas_cons pd_int pas_nil))))))) (pdm_callG (i := 0) (fun t ha => qcl H_Z4 hr ha) rfl (pv 0) (pam_pure (pas_cons pd_int pas_nil)) (apu_len qal1)))) (pssd_cons (psd_setF (i := 5) sc_Z10.nd rfl (Or.inl rfl) (pf_lst pas_nil)) (pssd_cons (psd_for PassesOwn.never rfl (pid_range1 rfl (z_range Z) (pas_cons (pd_var 2 (pv 2)) pas_nil)) (pgd_name (i := 6) (pg_name sc_Z10.nd rfl (Or.inl rfl))) (pssd_cons (psd_setm (i := 7) sc_Z10.nd rfl (Or.inl rfl) (pdm_callG (i := 0) (fun t ha => qcl H_Z4 hr ha) rfl (pv 0) (pam_pure (pas_cons (pd_var 4 (pv 4)) pas_nil)) (apu_len qal1))) (pssd_cons (psd_if (pc_cmp op_eq opd_eqS (pd_var 3 (pv 3)) pd_int (nomark _)) (pssd_one (psd_set (i := 7) sc_Z10.nd rfl (Or.inl rfl) (pd_sub (pd_var 7 (pv 7)) (pd_fdiv (pd_var 4 (pv 4)) pd_int)))) pssd_nil) (pssd_cons (psd_if (pc_cmp op_eq opd_eqS (pd_var 3 (pv 3)) pd_int (nomark _)) (pssd_one (psd_set (i := 7) sc_Z10.nd rfl (Or.inl rfl) (pd_sub (pd_mul (pd_var 7 (pv 7)) (pd_pow pd_int pd_int)) (pd_mul (pd_var 4 (pv 4)) (pd_pow pd_int pd_int))))) pssd_nil) (pssd_cons (psd_if (pc_cmp op_eq opd_eqS (pd_var 3 (pv 3)) pd_int (nomark _)) (pssd_one (psd_set (i := 7) sc_Z10.nd rfl (Or.inl rfl) (pd_ix (pf_pb (pf_lst (pas_cons (pd_var 7 (pv 7)) (pas_cons (pd_add (pd_var 4 (pv 4)) (pd_var 7 (pv 7))) pas_nil)))) (pd_mod (pd_var 6 (pv 6)) pd_int)))) pssd_nil) (pssd_cons (psd_if (pc_cmp op_eq opd_eqS (pd_var 3 (pv 3)) pd_int (nomark _)) (pssd_one (psd_set (i := 7) sc_Z10.nd rfl (Or.inl rfl) (pd_add (pd_var 7 (pv 7)) (pd_var 6 (pv 6))))) pssd_nil) (pssd_cons (psd_if (pc_cmp op_eq opd_eqS (pd_var 3 (pv 3)) pd_int (nomark _)) (pssd_one (psd_setm (i := 7) sc_Z10.nd rfl (Or.inl rfl) (pdm_op op_mul opd_mul (pdm_intc rfl (z_int Z) (pam_cons (pdm_cmp op_eq opd_eqS (pdm_callG (i := 0) (fun t ha => qcl H_Z4 hr ha) rfl (pv 0) (pam_pure (pas_cons pd_int pas_nil)) (apu_len qal1)) (pdm_pure pd_int) (nomark _)) (pam_pure pas_nil)) PyProof.Rows.boot_int) (pdm_pure (pd_var 7 (pv 7)))))) pssd_nil) (pssd_one (psd_append (i := 5) (pv 5) (pd_var 7 (pv 7)) (fun t ha => qap (pv 5) ha) (pas_cons (pd_var 7 (pv 7)) pas_nil)))))))))) (pssd_one (psd_retGO 0 5 (pv 5))))))))
abbrev s_Z8 : Stmt := top 17
abbrev N_Z8 : List Str := ["reel", "row", "some", "apart"]
theorem sc_Z8 : FnScope N_Z8 ["reel", "row"] (defScope s_Z8) := qsc
theorem ok_Z8 (D : QDf K mg "_law_step" s_Z8 ["reel", "row"]) (H_Z4 : T_Z4 P w K mg base) (Z : Zs mg) : T_Z8 P w K mg base :=
 D.mk fun f fd Fn => Fn.okGl (k := 1) (m := b_Z8) sc_Z8 (by decide) fun cdv A outer s H E hr => (pssd_cons (psd_setm (i := 2) sc_Z8.nd rfl (Or.inl rfl) (pdm_lst (pam_cons (pdm_pure pd_int) (pam_cons (pdm_pure pd_int) (pam_cons (pdm_op (OpR.or op_add op_catS) opd_add (pdm_pure pd_int) (pdm_callG (i := 0) (fun t ha => qcl H_Z4 hr ha) rfl (pv 0) (pam_pure (pas_cons pd_int pas_nil)) (apu_len qal1))) (pam_cons (pdm_op (OpR.or op_add op_catS) opd_add (pdm_pure pd_int) (pdm_callG (i := 0) (fun t ha => qcl H_Z4 hr ha) rfl (pv 0) (pam_pure (pas_cons pd_int pas_nil)) (apu_len qal1))) (pam_pure (pas_cons (pd_pow pd_int pd_int) (pas_cons (pd_pow pd_int pd_int) pas_nil))))))))) (pssd_cons (psd_if (pc_eqB (op_neF hr.units) (pb_var 1 (pv 1)) (pf_pb (pf_lst pas_nil)) (nomark _)) (pssd_cons (psd_setm (i := 3) sc_Z8.nd rfl (Or.inl rfl) (pdm_abs rfl (z_abs Z) (pam_cons (pdm_op op_sub opd_sub (pdm_ix (pdm_pure (pd_var 1 (pv 1))) (pdm_callG (i := 0) (fun t ha => qcl H_Z4 hr ha) rfl (pv 0) (pam_pure (pas_cons (pd_lenB rfl (z_len Z) (pb_var 1 (pv 1))) pas_nil)) (apu_len qal1))) (pdm_ix (pdm_pure (pd_var 1 (pv 1))) (pdm_callG (i := 0) (fun t ha => qcl H_Z4 hr ha) rfl (pv 0) (pam_pure (pas_cons (pd_lenB rfl (z_len Z) (pb_var 1 (pv 1))) pas_nil)) (apu_len qal1)))) (pam_pure pas_nil)))) (pssd_one (psd_set (i := 2) sc_Z8.nd rfl (Or.inl rfl) (pf_pd (pf_cat (pb_var 2 (pv 2)) (pf_pb (pf_lst (pas_cons (pd_max2 rfl rfl (z_max Z) (pas_cons pd_int (pas_cons (pd_var 3 (pv 3)) pas_nil))) (pas_cons (pd_add (pd_var 3 (pv 3)) pd_int) pas_nil))))))))) pssd_nil) (pssd_one (psd_retG 0 (pdm_ix (pdm_pure (pd_var 2 (pv 2))) (pdm_callG (i := 0) (fun t ha => qcl H_Z4 hr ha) rfl (pv 0) (pam_pure (pas_cons (pd_lenB rfl (z_len Z) (pb_var 2 (pv 2))) pas_nil)) (apu_len qal1)))))))
abbrev s_Z5 : Stmt := top 18
abbrev N_Z5 : List Str := ["row", "step", "places", "k", "amid", "apart"]
theorem sc_Z5 : FnScope N_Z5 ["row", "step", "places"] (defScope s_Z5) := qsc
theorem ok_Z5 (D : QDf K mg "_law_wavy" s_Z5 ["row", "step", "places"]) (Z : Zs mg) : T_Z5 P w K mg base :=
 D.mk fun f fd Fn => Fn.okD (k := 0) (m := b_Z5) sc_Z5 fun cdv A outer s H E hr => (pssd_cons (psd_for PassesOwn.never rfl (pid_range2 rfl (z_range Z) (pas_cons pd_int (pas_cons (pd_lenB rfl (z_len Z) (pb_var 2 (pv 2))) pas_nil))) (pgd_name (i := 3) (pg_name sc_Z5.nd rfl (Or.inl rfl))) (pssd_cons (psd_set (i := 4) sc_Z5.nd rfl (Or.inl rfl) (pd_ix (pb_var 0 (pv 0)) (pd_ix (pb_var 2 (pv 2)) (pd_sub (pd_var 3 (pv 3)) pd_int)))) (pssd_cons (psd_set (i := 5) sc_Z5.nd rfl (Or.inl rfl) (pd_sub (pd_ix (pb_var 0 (pv 0)) (pd_ix (pb_var 2 (pv 2)) (pd_var 3 (pv 3)))) (pd_var 4 (pv 4)))) (pssd_cons (psd_if (pc_cmp op_lt opd_lt (pd_abs rfl (z_abs Z) (pas_cons (pd_var 5 (pv 5)) pas_nil)) (pd_var 1 (pv 1)) (nomark _)) (pssd_one (psd_ret pd_bl)) pssd_nil) (pssd_one (psd_if (pc_w (pcw_and (pc_cmp op_gt opd_gt (pd_var 3 (pv 3)) pd_int (nomark _)) (pw1_and (pc_cmp op_eq opd_eqS (pd_cmp op_gt opd_gt (pd_var 5 (pv 5)) pd_int (nomark _)) (pd_cmp op_gt opd_gt (pd_var 4 (pv 4)) (pd_ix (pb_var 0 (pv 0)) (pd_ix (pb_var 2 (pv 2)) (pd_sub (pd_var 3 (pv 3)) pd_int))) (nomark _)) (nomark _))))) (pssd_one (psd_ret pd_bl)) pssd_nil)))))) (pssd_one (psd_ret pd_bl)))
abbrev s_Z1 : Stmt := top 20
abbrev N_Z1 : List Str := ["row", "step", "place", "sign"]
theorem sc_Z1 : FnScope N_Z1 ["row", "step", "place", "sign"] (defScope s_Z1) := qsc
theorem ok_Z1 (D : QDf K mg "_law_step_right" s_Z1 ["row", "step", "place", "sign"]) : T_Z1 P w K mg base :=
 D.mk fun f fd Fn => Fn.okD (k := 0) (m := b_Z1) sc_Z1 fun cdv A outer s H E hr => (pssd_one (psd_ret (pd_cmp op_ge opd_ge (pd_mul (pd_mul (pd_sub (pd_ix (pb_var 0 (pv 0)) (pd_add (pd_var 2 (pv 2)) pd_int)) (pd_ix (pb_var 0 (pv 0)) (pd_var 2 (pv 2)))) (pd_var 3 (pv 3))) (pd_ix (pf_pb (pf_lst (pas_cons pd_int (pas_cons (pd_neg pd_int) pas_nil)))) (pd_mod (pd_var 2 (pv 2)) pd_int))) (pd_var 1 (pv 1)) (nomark _))))
abbrev s_law_kept : Stmt := top 19
abbrev N_law_kept : List Str := ["row", "step", "sign", "many", "most", "place", "found", "beside", "free"]
theorem sc_law_kept : FnScope N_law_kept ["row", "step", "sign"] (defScope s_law_kept) := qsc
theorem nd_law_kept_0 : List.Nodup (["place"] : List Str) := by decide +kernel
theorem ok_law_kept (D : QDf K mg "_law_kept" s_law_kept ["row", "step", "sign"]) (H_Z1 : T_Z1 P w K mg base) (Z : Zs mg) : T_law_kept P w K mg base :=
 D.mk fun f fd Fn => (Fn.okW (k := 1) (m := b_law_kept) sc_law_kept fun cdv A outer s H E hr => (pssw_cons (psw (psd_set (i := 3) sc_law_kept.nd rfl (Or.inl rfl) (pd_lenB rfl (z_len Z) (pb_var 0 (pv 0))))) (pssw_newR (ps_setC (i := 4) sc_law_kept.nd rfl (Or.inl rfl) (blk_of (N := ["place"]) (src := [none]) (defScope s_law_kept) N_law_kept rfl rfl (by decide +kernel)) rfl (pid_range1 rfl (z_range Z) (pas_cons (pd_add (pd_var 3 (pv 3)) pd_int) pas_nil)) (fun C fp s0 H0 => (pgd_name (i := 0) (pg_name nd_law_kept_0 rfl (Or.inl rfl)))) (fun C fp s0 H0 => ptsd_nil) (fun C fp s0 H0 => (pf_lst (pas_cons pd_int (pas_cons pd_int pas_nil))))) (pssw_cons (psw_for PassesOwn.never rfl (pid_range3 rfl (z_range Z) (pas_cons (pd_sub (pd_var 3 (pv 3)) pd_int) (pas_cons (pd_neg pd_int) (pas_cons (pd_neg pd_int) pas_nil)))) (pgd_name (i := 5) (pg_name sc_law_kept.nd rfl (Or.inl rfl))) (pssw_cons (psw_setR (ps_asg (pdw_look (pd_max2 rfl rfl (z_max Z) (pas_cons (pd_add pd_int (pd_ix (pd_pb (pd_ix (pb_var 4 (pv 4)) (pd_add (pd_var 5 (pv 5)) pd_int))) pd_int)) (pas_cons (pd_ix (pd_pb (pd_ix (pb_var 4 (pv 4)) (pd_add (pd_var 5 (pv 5)) pd_int))) pd_int) pas_nil)))) (pg_sub (pe_ix ix_list (pv 4) (pd_var 5 (pv 5)) (fun _ _ => rfl)) pd_int set_list))) (pssw_cons (psw_setR (ps_asg (pdw_look (pd_ix (pd_pb (pd_ix (pb_var 4 (pv 4)) (pd_add (pd_var 5 (pv 5)) pd_int))) pd_int)) (pg_sub (pe_ix ix_list (pv 4) (pd_var 5 (pv 5)) (fun _ _ => rfl)) pd_int set_list))) (pssw_one (psw_if (pcw (pc_w (pcw_or (pc_cmp op_eq opd_eqS (pd_var 5 (pv 5)) pd_int (nomark _)) (pw1_or (pc_tru (pd_call (fun t ha => qcl H_Z1 hr ha) rfl (pas_cons (pd_var 0 (pv 0)) (pas_cons (pd_var 1 (pv 1)) (pas_cons (pd_sub (pd_var 5 (pv 5)) pd_int) (pas_cons (pd_var 2 (pv 2)) pas_nil)))) qal4)))))) (pssw_one (psw_setR (ps_asg (pdw_look (pd_ix (pd_pb (pd_ix (pb_var 4 (pv 4)) (pd_var 5 (pv 5)))) pd_int)) (pg_sub (pe_ix ix_list (pv 4) (pd_var 5 (pv 5)) (fun _ _ => rfl)) pd_int set_list)))) pssw_nil))))) (pssw_cons (psw (psd_setF (i := 6) sc_law_kept.nd rfl (Or.inl rfl) (pf_lst pas_nil))) (pssw_cons (psw_for PassesOwn.never rfl (pid_range1 rfl (z_range Z) (pas_cons (pd_var 3 (pv 3)) pas_nil)) (pgd_name (i := 5) (pg_name sc_law_kept.nd rfl (Or.inl rfl))) (pssw_cons (psw (psd_set (i := 7) sc_law_kept.nd rfl (Or.inl rfl) (pd_intc rfl (z_int Z) (pas_cons (pd_eqB (op_eqF hr.units) (pf_pb (pf_sl (pb_var 6 (pv 6)) (pos_some (pd_neg pd_int)) pos_none)) (pf_pb (pf_lst (pas_cons (pd_sub (pd_var 5 (pv 5)) pd_int) pas_nil))) (nomark _)) pas_nil) PyProof.Rows.boot_int))) (pssw_cons (psw (psd_set (i := 8) sc_law_kept.nd rfl (Or.inl rfl) (pd_or (pd_cmp op_eq opd_eqS (pd_var 7 (pv 7)) pd_int (nomark _)) (pd_one (pd_call (fun t ha => qcl H_Z1 hr ha) rfl (pas_cons (pd_var 0 (pv 0)) (pas_cons (pd_var 1 (pv 1)) (pas_cons (pd_sub (pd_var 5 (pv 5)) pd_int) (pas_cons (pd_var 2 (pv 2)) pas_nil)))) qal4))))) (pssw_one (psw_if (pcw_look (pc_w (pcw_and (pc_tru (pd_var 8 (pv 8))) (pw1_and (pc_cmp op_ge opd_ge (pd_add pd_int (pd_ix (pd_pb (pd_ix (pb_var 4 (pv 4)) (pd_add (pd_var 5 (pv 5)) pd_int))) pd_int)) (pd_ix (pd_pb (pd_ix (pb_var 4 (pv 4)) (pd_add (pd_var 5 (pv 5)) pd_int))) pd_int) (nomark _)))))) (pssw_one (psw (psd_append (i := 6) (pv 6) (pd_var 5 (pv 5)) (fun t ha => qap (pv 6) ha) (pas_cons (pd_var 5 (pv 5)) pas_nil)))) pssw_nil))))) (pssw_one (psw_retO 6 (pv 6))))))))).plainW
abbrev s_Z3 : Stmt := top 21
abbrev N_Z3 : List Str := ["row", "step", "sign", "kept"]
theorem sc_Z3 : FnScope N_Z3 ["row", "step", "sign"] (defScope s_Z3) := qsc
theorem ok_Z3 (D : QDf K mg "_law_changed" s_Z3 ["row", "step", "sign"]) (H_law_kept : T_law_kept P w K mg base) (Z : Zs mg) : T_Z3 P w K mg base :=
 D.mk fun f fd Fn => Fn.okD (k := 2) (m := b_Z3) sc_Z3 fun cdv A outer s H E hr => (pssd_cons (psd_set (i := 3) sc_Z3.nd rfl (Or.inl rfl) (pd_call (fun t ha => qcl H_law_kept hr ha) rfl (pas_cons (pd_var 0 (pv 0)) (pas_cons (pd_var 1 (pv 1)) (pas_cons (pd_var 2 (pv 2)) pas_nil))) qal3)) (pssd_one (psd_ret (pd_tup (pas_cons (pd_sub (pd_lenB rfl (z_len Z) (pb_var 0 (pv 0))) (pd_lenB rfl (z_len Z) (pb_var 3 (pv 3)))) (pas_cons (pd_var 3 (pv 3)) pas_nil))))))
abbrev s_law : Stmt := top 22
abbrev N_law : List Str := ["script", "k", "cell", "reel", "row", "step", "kept", "handed", "found", "again"]
theorem sc_law : FnScope N_law ["script"] (defScope s_law) := qsc
theorem nd_law_0 : List.Nodup (["sign", "row", "step"] : List Str) := by decide +kernel
theorem nd_law_1 : List.Nodup (["number"] : List Str) := by decide +kernel
theorem nd_law_2 : List.Nodup (["place", "found", "row"] : List Str) := by decide +kernel
theorem ok_law {f : Addr} {fd : FuncData} (Fn : Fun K "law" "law" s_law f fd) (H_Z3 : T_Z3 P w K mg base) (H_Z7 : T_Z7 P w K mg base) (H_Z10 : T_Z10 P w K mg base) (H_Z8 : T_Z8 P w K mg base) (H_Z4 : T_Z4 P w K mg base) (H_Z5 : T_Z5 P w K mg base) (H_made_wavy : T_made_wavy P w K mg base) (Z : Zs mg) : FnOk P w K mg base CX0 6 f fd ["script"] (spW K 1 m_law) :=
 Fn.okW (k := 5) (m := b_law) sc_law fun cdv A outer s H E hr => (pssw_cons (psw_for PassesOwn.never rfl (pid_enum rfl (z_enumerate Z) (pas_cons (pf_pd (pf_cat (pf_pb (pf_sl (pb_var 0 (pv 0)) pos_none (pos_some pd_int))) (pf_pb (pf_lst (pas_cons (pd_lenB rfl (z_len Z) (pb_var 0 (pv 0))) pas_nil))))) pas_nil)) (pgd_tup (is := [1, 2]) (pg_tup rfl (pgs_cons (pg_name (i := 1) sc_law.nd rfl (Or.inl rfl)) (pgs_cons (pg_name (i := 2) sc_law.nd rfl (Or.inl rfl)) pgs_nil)))) (pssw_cons (psw (psd_setF (i := 3) sc_law.nd rfl (Or.inl rfl) (pf_call (fun t ha => qcl H_Z7 hr ha) rfl (pas_cons (pd_var 2 (pv 2)) pas_nil) qal1))) (pssw_cons (psw (psd_setm (i := 4) sc_law.nd rfl (Or.inr rfl) (pdm_callG (i := 3) (fun t ha => qcl H_Z10 hr ha) rfl (pv 3) (pam_cons (pdm_ix (pdm_pure (pf_pd (pf_lst (pas_cons pd_int (pas_cons pd_int pas_nil))))) (pdm_intc rfl (z_int Z) (pam_cons (pdm_and (pdm_pure (pd_cmp op_eq opd_eqS (pd_var 1 (pv 1)) pd_int (nomark _))) (pdm_one (pdm_cmp op_eq opd_eqS (pdm_callG (i := 3) (fun t ha => qcl H_Z4 hr ha) rfl (pv 3) (pam_pure (pas_cons pd_int pas_nil)) (apu_len qal1)) (pdm_pure pd_int) (nomark _)))) (pam_pure pas_nil)) PyProof.Rows.boot_int)) (pam_pure pas_nil)) (aconsm_len (apu_len anil_len))))) (pssw_cons (psw (psd_setm (i := 5) sc_law.nd rfl (Or.inr rfl) (pdm_callG (i := 3) (fun t ha => qcl H_Z8 hr ha) rfl (pv 3) (pam_pure (pas_cons (pd_var 4 (pv 4)) pas_nil)) (apu_len qal1)))) (pssw_cons (psw (psd_set (i := 6) sc_law.nd rfl (Or.inl rfl) (pd_ixT (pd_minP rfl hr.units rfl (z_min Z) (pf_pb (pf_comp (blk_of (N := ["sign", "row", "step"]) (src := [none, some 4, some 5]) (defScope s_law) N_law rfl rfl (by decide +kernel)) rfl (pid_tup (pd_tup (pas_cons pd_int (pas_cons (pd_neg pd_int) pas_nil)))) (fun C fp s0 H0 => (pgd_name (i := 0) (pg_name nd_law_0 rfl (Or.inl rfl)))) (fun C fp s0 H0 => ptsd_nil) (fun C fp s0 H0 => (pd_call (fun t ha => qcl H_Z3 hr ha) rfl (pas_cons (pd_var 1 (pv 1)) (pas_cons (pd_var 2 (pv 2)) (pas_cons (pd_var 0 (pv 0)) pas_nil))) qal3))))) pd_int))) (pssw_cons (psw (psd_set (i := 7) sc_law.nd rfl (Or.inl rfl) (pf_pd (pf_list rfl (z_list Z) (pb_var 4 (pv 4)) PyProof.Rows.boot_list)))) (pssw_cons (psw_setXF (i := 8) sc_law.nd rfl (Or.inr rfl) (fun t ha => qcl H_made_wavy hr ha) rfl (pas_cons (pd_var 7 (pv 7)) (pas_cons (pd_var 5 (pv 5)) pas_nil)) qal2) (pssw_cons (psw_if (pcw (pc_borT 8 (pc_w (pcw_or (pc_not (pc_tru (pd_isi (C := "list") rfl (z_isinstance Z) rfl (z_list Z) PyProof.Rows.boot_list (pd_var 8 (pv 8))))) (pcw_or (pc_cmp op_ne opd_neS (pd_lenB rfl (z_len Z) (pb_var 8 (pv 8))) (pd_lenB rfl (z_len Z) (pb_var 4 (pv 4))) (nomark _)) (pw1_or (pc_eqB (op_neF hr.units) (pb_var 7 (pv 7)) (pb_var 4 (pv 4)) (nomark _)))))))) (pssw_one (psw_ret (ps_ret (pdw pd_bl)))) pssw_nil) (pssw_cons (psw_if (pcw (pc_borT 8 (pc_eqB (op_neF hr.units) (pf_pb (pf_comp (blk_of (N := ["number"]) (src := [none]) (defScope s_law) N_law rfl rfl (by decide +kernel)) rfl (pid_seq (pd_var 8 (pv 8))) (fun C fp s0 H0 => (pgd_name (i := 0) (pg_name nd_law_1 rfl (Or.inl rfl)))) (fun C fp s0 H0 => (ptsd_one (pc_w (pcw_or (pc_tru (pd_isi (C := "bool") rfl (z_isinstance Z) rfl (z_bool Z) PyProof.Rows.boot_bool (pd_var 0 (pv 0)))) (pw1_or (pc_not (pc_tru (pd_isi (C := "int") rfl (z_isinstance Z) rfl (z_int Z) PyProof.Rows.boot_int (pd_var 0 (pv 0)))))))))) (fun C fp s0 H0 => pd_int))) (pf_pb (pf_lst pas_nil)) (nomark _)))) (pssw_one (psw_ret (ps_ret (pdw pd_bl)))) pssw_nil) (pssw_cons (psw_if (pcw (pc_borT 8 (pc_eqB (op_neF hr.units) (pf_pb (pf_comp (blk_of (N := ["place", "found", "row"]) (src := [none, some 8, some 4]) (defScope s_law) N_law rfl rfl (by decide +kernel)) rfl (pid_range1 rfl (z_range Z) (pas_cons (pd_lenB rfl (z_len Z) (pb_var 4 (pv 4))) pas_nil)) (fun C fp s0 H0 => (pgd_name (i := 0) (pg_name nd_law_2 rfl (Or.inl rfl)))) (fun C fp s0 H0 => (ptsd_one (pc_cmp op_eq opd_eqS (pd_ix (pb_var 1 (pv 1)) (pd_var 0 (pv 0))) (pd_ix (pb_var 2 (pv 2)) (pd_var 0 (pv 0))) (nomark _)))) (fun C fp s0 H0 => (pd_var 0 (pv 0))))) (pb_var 6 (pv 6)) (nomark _)))) (pssw_one (psw_ret (ps_ret (pdw pd_bl)))) pssw_nil) (pssw_cons (psw_if (pcw (pc_borT 8 (pc_not (pc_tru (pd_call (fun t ha => qcl H_Z5 hr ha) rfl (pas_cons (pd_var 8 (pv 8)) (pas_cons (pd_var 5 (pv 5)) (pas_cons (pf_pd (pf_listR1 rfl rfl (z_list Z) rfl (z_range Z) (pas_cons (pd_lenB rfl (z_len Z) (pb_var 4 (pv 4))) pas_nil))) pas_nil))) qal3))))) (pssw_one (psw_ret (ps_ret (pdw pd_bl)))) pssw_nil) (pssw_cons (psw (psd_set (i := 9) sc_law.nd rfl (Or.inl rfl) (pf_pd (pf_list rfl (z_list Z) (pb_var 8 (pv 8)) PyProof.Rows.boot_list)))) (pssw_cons (psw (psd_append (i := 8) (pv 8) pd_int (fun t ha => qap (pv 8) ha) (pas_cons pd_int pas_nil))) (pssw_one (psw_ifX (pcx_cmp (op_neF hr.units) opd_eqF (pdx_call (fun t ha => qcl H_made_wavy hr ha) rfl (pas_cons (pd_var 7 (pv 7)) (pas_cons (pd_var 5 (pv 5)) pas_nil)) qal2) (pd_var 9 (pv 9)) (nomark _)) (pssw_one (psw_ret (ps_ret (pdw pd_bl)))) pssw_nil))))))))))))))) (pssw_one (psw_ret (ps_ret (pdw pd_bl)))))
theorem all_mk {l : W.OpenLaw} {h : Heap} {fa : Addr} (X : K.In h) (G : h.Ns mainGlobals mg) (hfa : mg "law" = some (.ref fa)) {T0 : Addr} (tf0 : TabF K "made_wavy" T0) (d_Z2 : QDn K "refuse_step" s_Z2) (d_Z6 : QDn K "mirrored" s_Z6) (d_Z9 : QDn K "staying" s_Z9) (d_Z0 : QDn K "fewest_beginning" s_Z0) (d_made_wavy : QDn K "made_wavy" s_made_wavy) (d_Z7 : QDn K "_law_reel" s_Z7) (d_Z4 : QDn K "_law_take" s_Z4) (d_Z10 : QDn K "_law_row" s_Z10) (d_Z8 : QDn K "_law_step" s_Z8) (d_Z5 : QDn K "_law_wavy" s_Z5) (d_Z1 : QDn K "_law_step_right" s_Z1) (d_law_kept : QDn K "_law_kept" s_law_kept) (d_Z3 : QDn K "_law_changed" s_Z3) (d_law : QDn K "law" s_law) {k_WORDS : Addr} {its_WORDS : Array Value} {n_WORDS} {sl_WORDS} (e_WORDS : W.nsIn K mainGlobals "WORDS" = some (some (.ref k_WORDS))) (l_WORDS : K.lookup k_WORDS = some ⟨.type "tuple", none, .seq its_WORDS n_WORDS, sl_WORDS⟩) (v_WORDS : its_WORDS.size <= sizeLine /\ Vals ((["up", "down"] : List Str).map V.str) its_WORDS.toList) (y_abs : W.nsIn K mainGlobals "abs" = some none) (y_bool : W.nsIn K mainGlobals "bool" = some none) (y_enumerate : W.nsIn K mainGlobals "enumerate" = some none) (y_int : W.nsIn K mainGlobals "int" = some none) (y_isinstance : W.nsIn K mainGlobals "isinstance" = some none) (y_len : W.nsIn K mainGlobals "len" = some none) (y_list : W.nsIn K mainGlobals "list" = some none) (y_max : W.nsIn K mainGlobals "max" = some none) (y_min : W.nsIn K mainGlobals "min" = some none) (y_range : W.nsIn K mainGlobals "range" = some none) :
  ∃ fd : FuncData, (∀ (s : Shared) (v : Value), BindsTo s fd ⟨[v], []⟩ [("script", v)]) /\ ∀ base : Heap, K.In base -> base.Ns mainGlobals mg -> base.BuiltinsAt mg T0 -> FnOk l.prog w K mg base CX0 6 fa fd ["script"] (spW K 1 m_law) := by
 obtain ⟨x, e, oc, o1, kV, dc, pm, o2, cd, ct, sl, l', c, k⟩ := d_law
 have e := hfa.symm.trans (W.mg_of X G e)
 cases e
 have KT_WORDS : KTup K k_WORDS (["up", "down"] : List Str) := ⟨_, its_WORDS, n_WORDS, l_WORDS, rfl, rfl, v_WORDS.1, v_WORDS.2, rfl⟩
 have a_WORDS := W.mg_of X G e_WORDS
 have Z : Zs mg := ⟨W.mg_none_of X G y_abs, W.mg_none_of X G y_bool, W.mg_none_of X G y_enumerate, W.mg_none_of X G y_int, W.mg_none_of X G y_isinstance, W.mg_none_of X G y_len, W.mg_none_of X G y_list, W.mg_none_of X G y_max, W.mg_none_of X G y_min, W.mg_none_of X G y_range, True.intro⟩
 refine ⟨W.fnOf "law" "law" (defArgs s_law) (defBody s_law) (defScope s_law) .none kV dc pm o2 cd ct, fun s v => .of_eq rfl, fun base _ _ bt0 => ?_⟩
 have H_Z2 := ok_Z2 (P := l.prog) (w := w) (mg := mg) (base := base) (d_Z2.df X G (qbd1 fun _ _ _ _ _ _ _ => rfl))
 have H_Z6 := ok_Z6 (P := l.prog) (w := w) (mg := mg) (base := base) (d_Z6.df X G (qbd2 fun _ _ _ _ _ _ _ _ => rfl)) KT_WORDS a_WORDS Z
 have H_Z9 := ok_Z9 (P := l.prog) (w := w) (mg := mg) (base := base) (d_Z9.df X G (qbd2 fun _ _ _ _ _ _ _ _ => rfl)) Z
 have H_Z0 := ok_Z0 (P := l.prog) (w := w) (mg := mg) (base := base) (d_Z0.df X G (qbd3 fun _ _ _ _ _ _ _ _ _ => rfl)) H_Z6 H_Z2 H_Z9 KT_WORDS a_WORDS Z
 have H_made_wavy := ok_made_wavy (P := l.prog) (w := w) (mg := mg) (base := base) (d_made_wavy.df X G (qbd2 fun _ _ _ _ _ _ _ _ => rfl)) H_Z0 H_Z6 KT_WORDS a_WORDS tf0 bt0 Z
 have H_Z7 := ok_Z7 (P := l.prog) (w := w) (mg := mg) (base := base) (d_Z7.df X G (qbd1 fun _ _ _ _ _ _ _ => rfl)) Z
 have H_Z4 := ok_Z4 (P := l.prog) (w := w) (mg := mg) (base := base) (d_Z4.df X G (qbd2 fun _ _ _ _ _ _ _ _ => rfl))
 have H_Z10 := ok_Z10 (P := l.prog) (w := w) (mg := mg) (base := base) (d_Z10.df X G (qbd2 fun _ _ _ _ _ _ _ _ => rfl)) H_Z4 Z
 have H_Z8 := ok_Z8 (P := l.prog) (w := w) (mg := mg) (base := base) (d_Z8.df X G (qbd2 fun _ _ _ _ _ _ _ _ => rfl)) H_Z4 Z
 have H_Z5 := ok_Z5 (P := l.prog) (w := w) (mg := mg) (base := base) (d_Z5.df X G (qbd3 fun _ _ _ _ _ _ _ _ _ => rfl)) Z
 have H_Z1 := ok_Z1 (P := l.prog) (w := w) (mg := mg) (base := base) (d_Z1.df X G (qbd4 fun _ _ _ _ _ _ _ _ _ _ => rfl))
 have H_law_kept := ok_law_kept (P := l.prog) (w := w) (mg := mg) (base := base) (d_law_kept.df X G (qbd3 fun _ _ _ _ _ _ _ _ _ => rfl)) H_Z1 Z
 have H_Z3 := ok_Z3 (P := l.prog) (w := w) (mg := mg) (base := base) (d_Z3.df X G (qbd3 fun _ _ _ _ _ _ _ _ _ => rfl)) H_law_kept Z
 exact ok_law (fun_mk l' c k) H_Z3 H_Z7 H_Z10 H_Z8 H_Z4 H_Z5 H_made_wavy Z
abbrev lamPos : Pos := ⟨30, 26, 30, 72⟩
theorem walk {l : W.OpenLaw} {q : Program} {loose : List Str} {XP : (Str -> Option Value) -> Heap -> Prop} {d : DefRec} {K : Params -> W.Frag} {as : List Addr} {e : ∀ P : Params, as = (K P).map (·.1)} {T : Addr} (hn : l.most = some 63) (hdf : d.params.defaults = [])
  (law : ∀ (T : Addr) (ns : List Int), ns.length <= 63 -> ∃ β, m_law [.lst (ns.map .int)] [(T, .tb T "made_wavy" lamPos "made_wavy.<locals>.<lambda>")] = some (.sh (.bl true), β)) (hT : T ∉ as)
  (F : ∀ (w : World) (mg : Str -> Option Value) (fa : Addr) (h : Heap), (K w.params).In h -> h.Ns mainGlobals mg -> mg d.name = some (.ref fa) ->
   TabF (K w.params) "made_wavy" T /\ ∃ fd : FuncData, (∀ (s : Shared) (u : Value), BindsTo s fd ⟨[u], []⟩ [("script", u)]) /\ ∀ base : Heap, (K w.params).In base -> base.Ns mainGlobals mg -> base.BuiltinsAt mg T -> FnOk l.prog w (K w.params) mg base CX0 6 fa fd ["script"] (spW (K w.params) 1 m_law)) :
  W.WalkO q loose XP (W.kmHook K as e [T]).says l.row.toRowW d [] (fun f vs => PySem.call f vs) :=
 L2.walk_ofT (n := 63) (k := 6) (x := "script") hn (by decide) hdf ⟨rfl, by decide, by decide⟩ hT F law
end
end Lw
open PySem PySem.W PyProof.Rows L2
set_option maxRecDepth 100000 in
set_option maxHeartbeats 0 in
theorem PySem.Challenge.cw_wavyrow_k52_rows_made_wavy_holds : PySem.Challenge.rw_wavyrow_k52_rows_made_wavy.Holds := by
 w_on; o_law; k_head; (case hw => w_witness2)
 k_fill
 refine Lw.walk (l := PySem.Challenge.rw_wavyrow_k52_rows_made_wavy) rfl rfl Lw.law_true (by decide) ?F
 case F =>
  intro w mg fa h KX G hmg
  refine' L2.and_dep ?tf ?al
  (case tf => refine' L2.TabF.of ?t1 ?t2 ?t3 ?t4 ?t5 ?t6 ?t7; (case t1 => k_is); (case t2 => k_is); (case t3 => rfl); (case t4 => k_is); (case t5 => exact ⟨_, _, _, _, _, _, _, rfl, rfl, rfl, rfl, rfl, rfl⟩); all_goals decide)
  intro tf0
  refine' Lw.all_mk KX G hmg tf0  ?d_Z2 ?d_Z6 ?d_Z9 ?d_Z0 ?d_made_wavy ?d_Z7 ?d_Z4 ?d_Z10 ?d_Z8 ?d_Z5 ?d_Z1 ?d_law_kept ?d_Z3 ?d_law   ?e_WORDS ?l_WORDS ?v_WORDS ?y_abs ?y_bool ?y_enumerate ?y_int ?y_isinstance ?y_len ?y_list ?y_max ?y_min ?y_range
  (case e_WORDS => k_is); (case l_WORDS => k_is); (case v_WORDS => exact ⟨by decide, .cons ⟨_, rfl⟩ (.cons ⟨_, rfl⟩ (.nil))⟩)
  all_goals first | (refine' QDn.of ?e ?l ?c ?k; (case e => k_is); (case l => k_is); (case c => k_is); (case k => k_is)) | (refine' QMn.of ?e ?i ?l ?c ?k; (case e => k_is); (case i => k_is); (case l => k_is); (case c => k_is); (case k => k_is)) | k_is | skip
